import Derived.Test.YtbeohbhhmcjokaaZRdS
set_option linter.all false
set_option maxRecDepth 100000
set_option maxHeartbeats 8000000
open Go.Lib
namespace Go.Proofs.Ytbeohbhhmcjokaa
namespace M
structure Bx where
 a:Int
 b:Int
 c:Int
 d:Int
def bz:Bx:=⟨0,0,0,0⟩
def Bx.ok(q:Bx):Bool:=Bh q.a q.b q.c q.d
def Bx.hit(q:Bx)(x y:Int):Bool:=Gk q.a q.b q.c q.d x y 500
def Br(bs:List Bx):Bool:=bs.all Bx.ok
def Ca(bs:List Bx)(x y:Int):Bool:=bs.all fun q=>!(q.hit x y)
theorem DX{bs:List Bx}{k:Nat}(h:k<bs.length):bs.take (k+1)=bs.take k++[bs.getD k bz]:=by
 rw[List.take_succ_eq_append_getElem h,List.getD_eq_getElem?_getD,List.getElem?_eq_getElem h];rfl
theorem Ds{bs:List Bx}{k:Nat}(h:k<bs.length):bs.getD k bz∈bs:=by
 rw[List.getD_eq_getElem?_getD,List.getElem?_eq_getElem h];exact List.getElem_mem h
theorem Co{f:Bx->Bool}{bs:List Bx}{k:Nat}(h:k<bs.length)(ha:(bs.take k).all f=true)(hz:f (bs.getD k bz)=true):(bs.take (k+1)).all f=true:=by
 rw[DX h,List.all_append,ha,List.all_cons,hz];rfl
theorem DY{f:Bx->Bool}{bs:List Bx}{k:Nat}(h:k<bs.length)(hz:f (bs.getD k bz)=false):bs.all f=false:=by
 rw[List.all_eq_false];exact⟨_,Ds h,by rw[hz]; simp⟩
theorem C8{f:Bx->Bool}{bs:List Bx}{k:Nat}(h:bs.length<=k)(ha:(bs.take k).all f=true):bs.all f=true:=by
 rw[List.take_of_length_le h] at ha;exact ha
theorem Gs{f:Bx->Bool}{bs:List Bx}(h:bs.all f=true){k:Nat}(hk:k<bs.length):f (bs.getD k bz)=true:=List.all_eq_true.1 h _ (Ds hk)
def AW(i t x y:Int)(ws gs:List Bx)(p q r s b:Int):Bool :=
 Al i 0 99&&Al t 1 60&&Am x y&&decide (ws.length<=4)&&Br ws&&decide (gs.length<=3)&&Br gs&&Bh p q r s&&Al b 0 3&&Ca ws x y
def HX(b k:Int):Bool:=decide ((b / k) % 2=1)
def flat:List Bx->List Int
 | []=>[]
 | q::bs=>q.a::q.b::q.c::q.d::flat bs
theorem Fw(bs:List Bx):(flat bs).length=4*bs.length:=by
 induction bs with
 | nil=>rfl
 | cons q bs ih=>simp[flat,ih]; omega
end M
end Go.Proofs.Ytbeohbhhmcjokaa
namespace Go.Proofs.Ytbeohbhhmcjokaa
open Go.RowKit
open M
structure BoxAt(w:World)(b o:Nat)(q:Bx):Prop where
 c0:w.cell? ⟨b,o,none⟩=some (.int .i64 q.a)
 c1:w.cell? ⟨b,o+1,none⟩=some (.int .i64 q.b)
 c2:w.cell? ⟨b,o+2,none⟩=some (.int .i64 q.c)
 c3:w.cell? ⟨b,o+3,none⟩=some (.int .i64 q.d)
def Boxes(w:World)(A:Option Addr)(n:Nat)(bs:List Bx):Prop :=
 bs.length=n/\(0<n->∃ b off,A=some ⟨b,off,none⟩/\b<w.heap.size/\∀ k,k<n->BoxAt w b (off+k*4) (bs.getD k bz))
theorem BoxAt.of{w w':World}{b o:Nat}{q:Bx}(h:BoxAt w b o q)(e:w'.heap[b]?=w.heap[b]?):BoxAt w' b o q :=
 ⟨(World.cell?_of_block (a:=⟨b,o,none⟩) e).trans h.c0,(World.cell?_of_block (a:=⟨b,o+1,none⟩) e).trans h.c1,(World.cell?_of_block (a:=⟨b,o+2,none⟩) e).trans h.c2,(World.cell?_of_block (a:=⟨b,o+3,none⟩) e).trans h.c3⟩
theorem Boxes.step{w w':World}{A:Option Addr}{n:Nat}{bs:List Bx}(h:Boxes w A n bs)(B:Below w.heap.size w w'):Boxes w' A n bs :=
 ⟨h.1,fun hn=>by
  obtain⟨b,off,e,hb,hc⟩:=h.2 hn;exact⟨b,off,e,Nat.lt_of_lt_of_le hb B.size,fun k hk=>(hc k hk).of (B.block b hb)⟩⟩
theorem Boxes.alloc{w:World}{A:Option Addr}{n:Nat}{bs:List Bx}(h:Boxes w A n bs)(o:Obj):Boxes (w.alloc o) A n bs:=h.step (Ab (Ac w) o)
theorem Boxes.drew{w:World}{A:Option Addr}{n:Nat}{bs:List Bx}(h:Boxes w A n bs):Boxes w.drew A n bs:=h.step (Ac w).drew
theorem Boxes.nil(w:World)(A:Option Addr):Boxes w A 0 []:=⟨rfl,fun h=>absurd h (by omega)⟩
structure BoxIn(w:World)(b o:Nat)(p q s t:Int):Prop where
 c0:w.cell? ⟨b,o,none⟩=some (.int .i64 p)
 c1:w.cell? ⟨b,o+1,none⟩=some (.int .i64 q)
 c2:w.cell? ⟨b,o+2,none⟩=some (.int .i64 s)
 c3:w.cell? ⟨b,o+3,none⟩=some (.int .i64 t)
 lt:b<w.heap.size
theorem BoxIn.of{w w':World}{b o:Nat}{p q s t:Int}(h:BoxIn w b o p q s t)(e:w'.heap[b]?=w.heap[b]?)(hs:w.heap.size<=w'.heap.size):BoxIn w' b o p q s t :=
 ⟨(World.cell?_of_block (a:=⟨b,o,none⟩) e).trans h.c0,(World.cell?_of_block (a:=⟨b,o+1,none⟩) e).trans h.c1,(World.cell?_of_block (a:=⟨b,o+2,none⟩) e).trans h.c2,(World.cell?_of_block (a:=⟨b,o+3,none⟩) e).trans h.c3,Nat.lt_of_lt_of_le h.lt hs⟩
theorem BoxIn.step{W w':World}{b o:Nat}{p q s t:Int}(h:BoxIn W b o p q s t)(B:Below W.heap.size W w'):BoxIn w' b o p q s t:=h.of (B.block b h.lt) B.size
theorem BoxIn.kept{r:Nat}{W w':World}{b o:Nat}{p q s t:Int}(h:BoxIn W b o p q s t)(K:Kept r W w')(hne:b≠r):BoxIn w' b o p q s t:=h.of (K.block b h.lt hne) K.size
theorem BoxIn.alloc{W:World}{b o:Nat}{p q s t:Int}(h:BoxIn W b o p q s t)(ob:Obj):BoxIn (W.alloc ob) b o p q s t:=h.step (Ab (Ac W) ob)
theorem BoxIn.drew{W:World}{b o:Nat}{p q s t:Int}(h:BoxIn W b o p q s t):BoxIn W.drew b o p q s t:=⟨h.c0,h.c1,h.c2,h.c3,h.lt⟩
theorem BoxIn.far{W:World}{b o:Nat}{p q s t:Int}(h:BoxIn W b o p q s t){b':Nat}(hne:b'≠b)(j:Nat)(v:Value):BoxIn (W.setCell ⟨b',j,none⟩ v) b o p q s t :=
 ⟨(World.cell?_setCell_far _ _ _ _ hne).trans h.c0,(World.cell?_setCell_far _ _ _ _ hne).trans h.c1,(World.cell?_setCell_far _ _ _ _ hne).trans h.c2,(World.cell?_setCell_far _ _ _ _ hne).trans h.c3,by rw[World.size_setCell]; exact h.lt⟩
theorem Cb{W:World}{b o:Nat}{p q s t:Int}(h:BoxIn W b o p q s t):W.cell? ⟨b,o,none⟩=some (.int .i64 p)/\W.cell? ⟨b,o+1,none⟩=some (.int .i64 q)/\W.cell? ⟨b,o+2,none⟩=some (.int .i64 s)/\W.cell? ⟨b,o+3,none⟩=some (.int .i64 t):=⟨h.c0,h.c1,h.c2,h.c3⟩
theorem Bz{W:World}{b:Nat}{x y:Int}(h:PCell W b x y):W.cell? ⟨b,0,none⟩=some (.int .i64 x)/\W.cell? ⟨b,1,none⟩=some (.int .i64 y):=⟨h.c0,h.c1⟩
theorem BoxAt.lie{w:World}{b o:Nat}{q:Bx}(h:BoxAt w b o q)(hb:b<w.heap.size):BoxIn w b o q.a q.b q.c q.d:=⟨h.c0,h.c1,h.c2,h.c3,hb⟩
structure CellsAt(W:World)(b:Nat)(vs:List Value):Prop where
 cell:∀ j v,vs[j]?=some v->W.cell? ⟨b,j,none⟩=some v
 fr:∀ j,W.frozen? ⟨b,j,none⟩=false
 lt:b<W.heap.size
theorem CellsAt.of{W w':World}{b:Nat}{vs:List Value}(h:CellsAt W b vs)(e:w'.heap[b]?=W.heap[b]?)(hs:W.heap.size<=w'.heap.size):CellsAt w' b vs :=
 ⟨fun j v hj=>(World.cell?_of_block (a:=⟨b,j,none⟩) e).trans (h.cell j v hj),fun j=>(World.frozen?_of_block (a:=⟨b,j,none⟩) e).trans (h.fr j),Nat.lt_of_lt_of_le h.lt hs⟩
theorem CellsAt.step{W w':World}{b:Nat}{vs:List Value}(h:CellsAt W b vs)(B:Below W.heap.size W w'):CellsAt w' b vs:=h.of (B.block b h.lt) B.size
theorem CellsAt.kept{r:Nat}{W w':World}{b:Nat}{vs:List Value}(h:CellsAt W b vs)(K:Kept r W w')(hne:b≠r):CellsAt w' b vs:=h.of (K.block b h.lt hne) K.size
theorem CellsAt.alloc{W:World}{b:Nat}{vs:List Value}(h:CellsAt W b vs)(o:Obj):CellsAt (W.alloc o) b vs:=h.step (Ab (Ac W) o)
theorem CellsAt.drew{W:World}{b:Nat}{vs:List Value}(h:CellsAt W b vs):CellsAt W.drew b vs:=h.step (Ac W).drew
theorem CellsAt.new(W:World)(b:Nat)(vs:List Value)(ty:TypeId)(hb:b=W.heap.size):CellsAt (W.alloc (.cells vs.toArray ty)) b vs:=by
 subst hb;exact⟨fun j v hj=>by simp[hj],fun j=>by simp,by simp⟩
theorem CellsAt.far{W:World}{b:Nat}{vs:List Value}(h:CellsAt W b vs){b':Nat}(hne:b'≠b)(o:Nat)(v:Value):CellsAt (W.setCell ⟨b',o,none⟩ v) b vs :=
 ⟨fun j u hj=>(World.cell?_setCell_far _ _ _ _ hne).trans (h.cell j u hj),fun j=>by rw[World.frozen?_setCell]; exact h.fr j,by rw[World.size_setCell]; exact h.lt⟩
theorem CellsAt.set{W:World}{b:Nat}{vs:List Value}(h:CellsAt W b vs)(o:Nat)(ho:o<vs.length)(v:Value):CellsAt (W.setCell ⟨b,o,none⟩ v) b (vs.set o v) :=
 ⟨fun j u hj=>by
  by_cases e:j=o
  . subst e;rw[List.getElem?_set_self ho] at hj;cases hj
    exact World.cell?_setCell_same' _ _ _ (by rw[h.cell j _ (List.getElem?_eq_getElem ho)]; rfl)
  . rw[List.getElem?_set_ne (by omega)] at hj;rw[World.cell?_setCell_other _ _ _ _ (by first | (simp; done) | (simp; omega))];exact h.cell j u hj,fun j=>by rw[World.frozen?_setCell]; exact h.fr j,by rw[World.size_setCell]; exact h.lt⟩
abbrev AV(i t x y:Int)(A:Option Addr)(n c:Nat)(G:Option Addr)(m k:Nat)(p q r s b:Int):List Value :=
 [.int .i64 i,.int .i64 t,.int .i64 x,.int .i64 y,.slice A n c,.slice G m k,.int .i64 p,.int .i64 q,.int .i64 r,.int .i64 s,.int .i64 b]
abbrev E2(i t x y:Int)(A:Option Addr)(n c:Nat)(G:Option Addr)(m k:Nat)(p q r s b:Int):Value :=
 .agg #[.int .i64 i,.int .i64 t,.int .i64 x,.int .i64 y,.slice A n c,.slice G m k,.int .i64 p,.int .i64 q,.int .i64 r,.int .i64 s,.int .i64 b]
theorem Cp{W:World}{o:Nat}{i t x y:Int}{A:Option Addr}{n c:Nat}{G:Option Addr}{m k:Nat}{p q r s b:Int}(h:CellsAt W o (AV i t x y A n c G m k p q r s b)):W.cell? ⟨o,4,none⟩=some (.slice A n c):=h.cell 4 _ rfl
theorem An(A:Option Addr)(n cap:Nat)(bs:List Bx)(w:World)(I:Boxes w A n bs)(hn:n<=281474976710656) :
 Calls Try.prog 86 #[.slice A n cap] w fun e w'=>e=.returned (.bool (Br bs))/\Below w.heap.size w w':=by
 have hl:=hid I.1;have I:=hid I;go_enter Try.func86,Try.ntmps86;go_wp2
 go_loopw [3] (fun i W=>∃ k:Nat,k<=n/\i=.int .i64 k/\(bs.take k).all Bx.ok=true/\Below w.heap.size w W) (fun i _=>n-(RowKit.intOf i).toNat)
 case atStart=>exact⟨0,Nat.zero_le _,rfl,rfl,Ac w⟩
 case round =>
  obtain⟨k,hk,rfl,ha,B⟩:=hrel;have ha:=hid ha;by_cases hlt:k<n
  . obtain⟨b,off,rfl,hb,hcell⟩:=(I.out.step B).2 (by omega);obtain⟨c0,c1,c2,c3⟩:=hcell k hlt;have hkl:k<bs.length:=by have:=hl.out; omega
    have HS:=Co (f:=Bx.ok) hkl ha.out;have HN:=DY (f:=Bx.ok) hkl;have B:=hid B;clear hcell hkl;generalize bs.getD k bz=z at *;obtain⟨za,zb,zc,zd⟩:=z;simp only at c0 c1 c2 c3;cases hz:Bh za zb zc zd
    . have E:=hid (HN hz);clear HN HS;have C:=hid (fun W:World=>Ay za zb zc zd W);rw[hz] at C;go_wp2_with fail;refine(C.out _).mono ?_;rintro e w' ⟨rfl,B1⟩;have H:=hid (Aa B.out B1);clear B1;go_wp2;go_ret;exact⟨Ad (by unfold Br; rw[E.out]),H.out⟩
    . have E:=hid (HS hz);clear HN HS;have C:=hid (fun W:World=>Ay za zb zc zd W);rw[hz] at C;go_wp2_with fail;refine(C.out _).mono ?_;rintro e w' ⟨rfl,B1⟩;have H:=hid (Aa B.out B1);clear B1;go_wp2
      go_roundw
      case rel=>exact⟨k+1,by omega,by go_num,E.out,H.out⟩
      case measure=>simp[RowKit.intOf]; omega
  . have E:=hid (C8 (f:=Bx.ok) (by have:=hl.out; omega) ha.out);have B:=hid B;go_wp2;go_ret;exact⟨Ad (by unfold Br; rw[E.out]),B.out⟩
def Gt(w:World)(n:Nat)(ws:List Bx)(u v:Int)(vs:List Value)(i:Value)(W:World):Prop :=
 ∃ j:Nat,j<=n/\i=.int .i64 j/\(ws.take j).all (fun z=>!(z.hit u v))=true/\CellsAt W w.heap.size vs/\PCell W (w.heap.size+1) u v/\Below w.heap.size w W
theorem Dt(i t x y:Int)(A:Option Addr)(n c:Nat)(G:Option Addr)(m k:Nat)(p q r s b:Int)(ws:List Bx)(u v:Int)(w:World)(I:Boxes w A n ws)(ok:Br ws=true)(hv:Am u v=true)(hn:n<=281474976710656) :
 Calls Try.prog 88 #[E2 i t x y A n c G m k p q r s b,Ce u v] w fun e w'=>e=.returned (.bool (Ca ws u v))/\Below w.heap.size w w':=by
 have hl:=hid I.1;have I:=hid I;have ok:=hid ok;have hv:=hid hv;go_enter Try.func88,Try.ntmps88;go_wp2
 go_loopw [5] (Gt w n ws u v (AV i t x y A n c G m k p q r s b)) (fun i _=>n-(RowKit.intOf i).toNat)
 case atStart=>exact⟨0,Nat.zero_le _,rfl,rfl,(CellsAt.new w _ _ _ rfl).alloc _,PCell.new _ _ _ _ _ (by simp),Ab (Ab (Ac w) _) _⟩
 case round =>
  obtain⟨j,hj,rfl,ha,L,P,B⟩:=hrel;have ha:=hid ha;have l4:=L.cell 4 _ rfl;have ll:=L.lt;have pl:=P.lt;by_cases hlt:j<n
  . obtain⟨bb,off,rfl,hb,hcell⟩:=(I.out.step B).2 (by omega);have Z:=(hcell j hlt).lie hb;have hkl:j<ws.length:=by have:=hl.out; omega
    have HS:=Co (f:=fun z=>!(z.hit u v)) hkl ha.out;have HN:=DY (f:=fun z=>!(z.hit u v)) hkl;have HO:=Gs (f:=Bx.ok) ok.out hkl;have Hb:=hid B;clear hcell hkl B;generalize ws.getD j bz=z at *;obtain⟨za,zb,zc,zd⟩:=z;simp only at Z;have C:=hid (fun W:World=>Dj za zb zc zd u v 500 W HO hv.out (by omega) (by omega));cases hz:Gk za zb zc zd u v 500
    . have E:=hid (HS (show(!(Gk za zb zc zd u v 500))=true by rw[hz]; rfl));clear HN HS HO;rw[hz] at C;go_wp2_with fail
      go_region_held3 (fun w'=>(w'.cell? ⟨w.heap.size,4,none⟩=some (.slice (some ⟨bb,off,none⟩) n c))/\(w'.cell? ⟨bb,off+j*4,none⟩=some (.int .i64 za)/\w'.cell? ⟨bb,off+j*4+1,none⟩=some (.int .i64 zb)/\w'.cell? ⟨bb,off+j*4+2,none⟩=some (.int .i64 zc)/\w'.cell? ⟨bb,off+j*4+3,none⟩=some (.int .i64 zd))/\(w'.cell? ⟨w.heap.size+1,0,none⟩=some (.int .i64 u)/\w'.cell? ⟨w.heap.size+1,1,none⟩=some (.int .i64 v)))
       (exact⟨Cp (by repeat (first | with_reducible exact L | with_reducible refine CellsAt.far ?_ (by omega) _ _ | with_reducible refine CellsAt.alloc ?_ _ | with_reducible refine CellsAt.drew ?_)),Cb (by repeat (first | with_reducible exact Z | with_reducible refine BoxIn.far ?_ (by omega) _ _ | with_reducible refine BoxIn.alloc ?_ _ | with_reducible refine BoxIn.drew ?_)),Bz (by repeat (first | with_reducible exact P | with_reducible refine PCell.far ?_ (by omega) _ _ | with_reducible refine PCell.alloc ?_ _ | with_reducible refine PCell.drew ?_))⟩)
       ((go_at_call 108; (with_reducible refine(C.out _).mono ?_); rintro e wn ⟨rfl,Bn⟩; have L:=CellsAt.step (by first | with_reducible exact L | with_reducible exact L.drew) Bn; have P:=PCell.step (by first | with_reducible exact P | with_reducible exact P.drew) Bn; have Z:=BoxIn.step (by first | with_reducible exact Z | with_reducible exact Z.drew) Bn; have Hb:=hid (Aa (by first | with_reducible exact Hb.out | with_reducible exact Af Hb.out) Bn); clear Bn))
      all_goals
       go_wp2
       go_roundw
       case rel=>exact⟨j+1,by omega,by go_num,E.out,L,P,Hb.out⟩
       case measure=>simp[RowKit.intOf]; omega
    . have E:=hid (HN (show(!(Gk za zb zc zd u v 500))=false by rw[hz]; rfl));clear HN HS HO;rw[hz] at C;go_wp2_with fail
      go_region_held3 (fun w'=>(w'.cell? ⟨w.heap.size,4,none⟩=some (.slice (some ⟨bb,off,none⟩) n c))/\(w'.cell? ⟨bb,off+j*4,none⟩=some (.int .i64 za)/\w'.cell? ⟨bb,off+j*4+1,none⟩=some (.int .i64 zb)/\w'.cell? ⟨bb,off+j*4+2,none⟩=some (.int .i64 zc)/\w'.cell? ⟨bb,off+j*4+3,none⟩=some (.int .i64 zd))/\(w'.cell? ⟨w.heap.size+1,0,none⟩=some (.int .i64 u)/\w'.cell? ⟨w.heap.size+1,1,none⟩=some (.int .i64 v)))
       (exact⟨Cp (by repeat (first | with_reducible exact L | with_reducible refine CellsAt.far ?_ (by omega) _ _ | with_reducible refine CellsAt.alloc ?_ _ | with_reducible refine CellsAt.drew ?_)),Cb (by repeat (first | with_reducible exact Z | with_reducible refine BoxIn.far ?_ (by omega) _ _ | with_reducible refine BoxIn.alloc ?_ _ | with_reducible refine BoxIn.drew ?_)),Bz (by repeat (first | with_reducible exact P | with_reducible refine PCell.far ?_ (by omega) _ _ | with_reducible refine PCell.alloc ?_ _ | with_reducible refine PCell.drew ?_))⟩)
       ((go_at_call 108; (with_reducible refine(C.out _).mono ?_); rintro e wn ⟨rfl,Bn⟩; have L:=CellsAt.step (by first | with_reducible exact L | with_reducible exact L.drew) Bn; have P:=PCell.step (by first | with_reducible exact P | with_reducible exact P.drew) Bn; have Z:=BoxIn.step (by first | with_reducible exact Z | with_reducible exact Z.drew) Bn; have Hb:=hid (Aa (by first | with_reducible exact Hb.out | with_reducible exact Af Hb.out) Bn); clear Bn))
      all_goals
       go_wp2;go_ret;exact⟨Ad (by unfold Ca; rw[E.out]),Hb.out⟩
  . have E:=hid (C8 (f:=fun z=>!(z.hit u v)) (by have:=hl.out; omega) ha.out);have B:=hid B;go_wp2;go_ret;exact⟨Ad (by unfold Ca; rw[E.out]),B.out⟩
theorem Du(i t x y:Int)(A:Option Addr)(n c:Nat)(G:Option Addr)(m k:Nat)(p q r s b:Int)(ws gs:List Bx)(w:World)(I:Boxes w A n ws)(J:Boxes w G m gs)(hn:n<=281474976710656)(hm:m<=281474976710656) :
 Calls Try.prog 53 #[E2 i t x y A n c G m k p q r s b] w fun e w'=>e=.returned (.bool (AW i t x y ws gs p q r s b))/\Below w.heap.size w w':=by
 have hl1:=hid I.1;have hl2:=hid J.1;have I:=hid I;have J:=hid J;cases h1:Al i 0 99
 . have E:=hid (show AW i t x y ws gs p q r s b=false by simp[AW,show Al i 0 99=false from h1]);have h1:=hid h1;go_enter Try.func53,Try.ntmps53;go_wp2_with fail;refine(Ai _ _ _ _ _ h1.out).mono ?_;rintro e w' ⟨rfl,rfl⟩;go_wp2;go_ret;exact⟨Ad (by rw[E.out]),Ab (Ac w) _⟩
 cases h2:Al t 1 60
 . have E:=hid (show AW i t x y ws gs p q r s b=false by simp[AW,show Al i 0 99=true from h1,show Al t 1 60=false from h2]);have h1:=hid h1;have h2:=hid h2;go_enter Try.func53,Try.ntmps53;go_wp2_with fail;refine(Ai _ _ _ _ _ h1.out).mono ?_;rintro e w' ⟨rfl,rfl⟩;go_wp2_with fail;refine(Ai _ _ _ _ _ h2.out).mono ?_;rintro e w' ⟨rfl,rfl⟩;go_wp2;go_ret;exact⟨Ad (by rw[E.out]),Ab (Ac w) _⟩
 cases h3:Am x y
 . have E:=hid (show AW i t x y ws gs p q r s b=false by simp[AW,show Al i 0 99=true from h1,show Al t 1 60=true from h2,show Am x y=false from h3]);have h1:=hid h1;have h2:=hid h2;have Kh3:=hid (fun(W:World)=>Aj x y W);rw[h3] at Kh3;go_enter Try.func53,Try.ntmps53;go_wp2_with fail;refine(Ai _ _ _ _ _ h1.out).mono ?_;rintro e w' ⟨rfl,rfl⟩;go_wp2_with fail;refine(Ai _ _ _ _ _ h2.out).mono ?_;rintro e w' ⟨rfl,rfl⟩;go_wp2_with fail;refine(Kh3.out _).mono ?_;rintro e w1 ⟨rfl,B1⟩;have C1:=B1;clear B1;obtain⟨hc1,hf1⟩:=Ae C1;have H1:=hid (Aa (Ab (Ac w) _) C1)
   have l1:w.heap.size<w1.heap.size:=by have:=C1.size; simp at this; omega
   go_wp2;go_ret;exact⟨Ad (by rw[E.out]),H1.out⟩
 by_cases h4:n<=4
 rotate_left
 . have E:=hid (show AW i t x y ws gs p q r s b=false by simp[AW,show Al i 0 99=true from h1,show Al t 1 60=true from h2,show Am x y=true from h3,show decide (ws.length<=4)=false from decide_eq_false (by have:=hl1.out; omega)]);have h1:=hid h1;have h2:=hid h2;have Kh3:=hid (fun(W:World)=>Aj x y W);rw[h3] at Kh3;have g4:(4:Int)<(n:Int):=by omega
   go_enter Try.func53,Try.ntmps53;go_wp2_with fail;refine(Ai _ _ _ _ _ h1.out).mono ?_;rintro e w' ⟨rfl,rfl⟩;go_wp2_with fail;refine(Ai _ _ _ _ _ h2.out).mono ?_;rintro e w' ⟨rfl,rfl⟩;go_wp2_with fail;refine(Kh3.out _).mono ?_;rintro e w1 ⟨rfl,B1⟩;have C1:=B1;clear B1;obtain⟨hc1,hf1⟩:=Ae C1;have H1:=hid (Aa (Ab (Ac w) _) C1);have l1:w.heap.size<w1.heap.size:=by have:=C1.size; simp at this; omega
   go_wp2;go_ret;exact⟨Ad (by rw[E.out]),H1.out⟩
 cases h5:Br ws
 . have E:=hid (show AW i t x y ws gs p q r s b=false by simp[AW,show Al i 0 99=true from h1,show Al t 1 60=true from h2,show Am x y=true from h3,show decide (ws.length<=4)=true from decide_eq_true (by have:=hl1.out; omega),show Br ws=false from h5]);have h1:=hid h1;have h2:=hid h2;have Kh3:=hid (fun(W:World)=>Aj x y W);rw[h3] at Kh3;have g4:(n:Int)<=4:=by omega
   have Kh5:=hid (fun(W:World) (Z:Boxes W A n ws)=>An A n c ws W Z hn);rw[h5] at Kh5;go_enter Try.func53,Try.ntmps53;go_wp2_with fail;refine(Ai _ _ _ _ _ h1.out).mono ?_;rintro e w' ⟨rfl,rfl⟩;go_wp2_with fail;refine(Ai _ _ _ _ _ h2.out).mono ?_;rintro e w' ⟨rfl,rfl⟩;go_wp2_with fail;refine(Kh3.out _).mono ?_;rintro e w1 ⟨rfl,B1⟩;have C1:=B1;clear B1;obtain⟨hc1,hf1⟩:=Ae C1;have H1:=hid (Aa (Ab (Ac w) _) C1);have l1:w.heap.size<w1.heap.size:=by have:=C1.size; simp at this; omega
   go_wp2_with fail;refine(Kh5.out _ (I.out.step H1.out)).mono ?_;rintro e w2 ⟨rfl,B2⟩;have C2:=Aa C1 B2;clear hc1 hf1 C1 B2 H1 l1;obtain⟨hc2,hf2⟩:=Ae C2;have H2:=hid (Aa (Ab (Ac w) _) C2);have l2:w.heap.size<w2.heap.size:=by have:=C2.size; simp at this; omega
   go_wp2;go_ret;exact⟨Ad (by rw[E.out]),H2.out⟩
 by_cases h6:m<=3
 rotate_left
 . have E:=hid (show AW i t x y ws gs p q r s b=false by simp[AW,show Al i 0 99=true from h1,show Al t 1 60=true from h2,show Am x y=true from h3,show decide (ws.length<=4)=true from decide_eq_true (by have:=hl1.out; omega),show Br ws=true from h5,show decide (gs.length<=3)=false from decide_eq_false (by have:=hl2.out; omega)]);have h1:=hid h1;have h2:=hid h2;have Kh3:=hid (fun(W:World)=>Aj x y W);rw[h3] at Kh3;have g4:(n:Int)<=4:=by omega
   have Kh5:=hid (fun(W:World) (Z:Boxes W A n ws)=>An A n c ws W Z hn);rw[h5] at Kh5;have g6:(3:Int)<(m:Int):=by omega
   go_enter Try.func53,Try.ntmps53;go_wp2_with fail;refine(Ai _ _ _ _ _ h1.out).mono ?_;rintro e w' ⟨rfl,rfl⟩;go_wp2_with fail;refine(Ai _ _ _ _ _ h2.out).mono ?_;rintro e w' ⟨rfl,rfl⟩;go_wp2_with fail;refine(Kh3.out _).mono ?_;rintro e w1 ⟨rfl,B1⟩;have C1:=B1;clear B1;obtain⟨hc1,hf1⟩:=Ae C1;have H1:=hid (Aa (Ab (Ac w) _) C1);have l1:w.heap.size<w1.heap.size:=by have:=C1.size; simp at this; omega
   go_wp2_with fail;refine(Kh5.out _ (I.out.step H1.out)).mono ?_;rintro e w2 ⟨rfl,B2⟩;have C2:=Aa C1 B2;clear hc1 hf1 C1 B2 H1 l1;obtain⟨hc2,hf2⟩:=Ae C2;have H2:=hid (Aa (Ab (Ac w) _) C2);have l2:w.heap.size<w2.heap.size:=by have:=C2.size; simp at this; omega
   go_wp2;go_ret;exact⟨Ad (by rw[E.out]),H2.out⟩
 cases h7:Br gs
 . have E:=hid (show AW i t x y ws gs p q r s b=false by simp[AW,show Al i 0 99=true from h1,show Al t 1 60=true from h2,show Am x y=true from h3,show decide (ws.length<=4)=true from decide_eq_true (by have:=hl1.out; omega),show Br ws=true from h5,show decide (gs.length<=3)=true from decide_eq_true (by have:=hl2.out; omega),show Br gs=false from h7]);have h1:=hid h1;have h2:=hid h2;have Kh3:=hid (fun(W:World)=>Aj x y W);rw[h3] at Kh3;have g4:(n:Int)<=4:=by omega
   have Kh5:=hid (fun(W:World) (Z:Boxes W A n ws)=>An A n c ws W Z hn);rw[h5] at Kh5;have g6:(m:Int)<=3:=by omega
   have Kh7:=hid (fun(W:World) (Z:Boxes W G m gs)=>An G m k gs W Z hm);rw[h7] at Kh7;go_enter Try.func53,Try.ntmps53;go_wp2_with fail;refine(Ai _ _ _ _ _ h1.out).mono ?_;rintro e w' ⟨rfl,rfl⟩;go_wp2_with fail;refine(Ai _ _ _ _ _ h2.out).mono ?_;rintro e w' ⟨rfl,rfl⟩;go_wp2_with fail;refine(Kh3.out _).mono ?_;rintro e w1 ⟨rfl,B1⟩;have C1:=B1;clear B1;obtain⟨hc1,hf1⟩:=Ae C1;have H1:=hid (Aa (Ab (Ac w) _) C1);have l1:w.heap.size<w1.heap.size:=by have:=C1.size; simp at this; omega
   go_wp2_with fail;refine(Kh5.out _ (I.out.step H1.out)).mono ?_;rintro e w2 ⟨rfl,B2⟩;have C2:=Aa C1 B2;clear hc1 hf1 C1 B2 H1 l1;obtain⟨hc2,hf2⟩:=Ae C2;have H2:=hid (Aa (Ab (Ac w) _) C2);have l2:w.heap.size<w2.heap.size:=by have:=C2.size; simp at this; omega
   go_wp2_with fail;refine(Kh7.out _ (J.out.step H2.out)).mono ?_;rintro e w3 ⟨rfl,B3⟩;have C3:=Aa C2 B3;clear hc2 hf2 C2 B3 H2 l2;obtain⟨hc3,hf3⟩:=Ae C3;have H3:=hid (Aa (Ab (Ac w) _) C3);have l3:w.heap.size<w3.heap.size:=by have:=C3.size; simp at this; omega
   go_wp2;go_ret;exact⟨Ad (by rw[E.out]),H3.out⟩
 cases h8:Bh p q r s
 . have E:=hid (show AW i t x y ws gs p q r s b=false by simp[AW,show Al i 0 99=true from h1,show Al t 1 60=true from h2,show Am x y=true from h3,show decide (ws.length<=4)=true from decide_eq_true (by have:=hl1.out; omega),show Br ws=true from h5,show decide (gs.length<=3)=true from decide_eq_true (by have:=hl2.out; omega),show Br gs=true from h7,show Bh p q r s=false from h8]);have h1:=hid h1;have h2:=hid h2;have Kh3:=hid (fun(W:World)=>Aj x y W);rw[h3] at Kh3;have g4:(n:Int)<=4:=by omega
   have Kh5:=hid (fun(W:World) (Z:Boxes W A n ws)=>An A n c ws W Z hn);rw[h5] at Kh5;have g6:(m:Int)<=3:=by omega
   have Kh7:=hid (fun(W:World) (Z:Boxes W G m gs)=>An G m k gs W Z hm);rw[h7] at Kh7;have Kh8:=hid (fun(W:World)=>Ay p q r s W);rw[h8] at Kh8;go_enter Try.func53,Try.ntmps53;go_wp2_with fail;refine(Ai _ _ _ _ _ h1.out).mono ?_;rintro e w' ⟨rfl,rfl⟩;go_wp2_with fail;refine(Ai _ _ _ _ _ h2.out).mono ?_;rintro e w' ⟨rfl,rfl⟩;go_wp2_with fail;refine(Kh3.out _).mono ?_;rintro e w1 ⟨rfl,B1⟩;have C1:=B1;clear B1;obtain⟨hc1,hf1⟩:=Ae C1;have H1:=hid (Aa (Ab (Ac w) _) C1);have l1:w.heap.size<w1.heap.size:=by have:=C1.size; simp at this; omega
   go_wp2_with fail;refine(Kh5.out _ (I.out.step H1.out)).mono ?_;rintro e w2 ⟨rfl,B2⟩;have C2:=Aa C1 B2;clear hc1 hf1 C1 B2 H1 l1;obtain⟨hc2,hf2⟩:=Ae C2;have H2:=hid (Aa (Ab (Ac w) _) C2);have l2:w.heap.size<w2.heap.size:=by have:=C2.size; simp at this; omega
   go_wp2_with fail;refine(Kh7.out _ (J.out.step H2.out)).mono ?_;rintro e w3 ⟨rfl,B3⟩;have C3:=Aa C2 B3;clear hc2 hf2 C2 B3 H2 l2;obtain⟨hc3,hf3⟩:=Ae C3;have H3:=hid (Aa (Ab (Ac w) _) C3);have l3:w.heap.size<w3.heap.size:=by have:=C3.size; simp at this; omega
   go_wp2_with fail;refine(Kh8.out _).mono ?_;rintro e w4 ⟨rfl,B4⟩;have C4:=Aa C3 B4;clear hc3 hf3 C3 B4 H3 l3;obtain⟨hc4,hf4⟩:=Ae C4;have H4:=hid (Aa (Ab (Ac w) _) C4);have l4:w.heap.size<w4.heap.size:=by have:=C4.size; simp at this; omega
   go_wp2;go_ret;exact⟨Ad (by rw[E.out]),H4.out⟩
 cases h9:Al b 0 3
 . have E:=hid (show AW i t x y ws gs p q r s b=false by simp[AW,show Al i 0 99=true from h1,show Al t 1 60=true from h2,show Am x y=true from h3,show decide (ws.length<=4)=true from decide_eq_true (by have:=hl1.out; omega),show Br ws=true from h5,show decide (gs.length<=3)=true from decide_eq_true (by have:=hl2.out; omega),show Br gs=true from h7,show Bh p q r s=true from h8,show Al b 0 3=false from h9]);have h1:=hid h1;have h2:=hid h2;have Kh3:=hid (fun(W:World)=>Aj x y W);rw[h3] at Kh3;have g4:(n:Int)<=4:=by omega
   have Kh5:=hid (fun(W:World) (Z:Boxes W A n ws)=>An A n c ws W Z hn);rw[h5] at Kh5;have g6:(m:Int)<=3:=by omega
   have Kh7:=hid (fun(W:World) (Z:Boxes W G m gs)=>An G m k gs W Z hm);rw[h7] at Kh7;have Kh8:=hid (fun(W:World)=>Ay p q r s W);rw[h8] at Kh8;have h9:=hid h9;go_enter Try.func53,Try.ntmps53;go_wp2_with fail;refine(Ai _ _ _ _ _ h1.out).mono ?_;rintro e w' ⟨rfl,rfl⟩;go_wp2_with fail;refine(Ai _ _ _ _ _ h2.out).mono ?_;rintro e w' ⟨rfl,rfl⟩;go_wp2_with fail;refine(Kh3.out _).mono ?_;rintro e w1 ⟨rfl,B1⟩;have C1:=B1;clear B1;obtain⟨hc1,hf1⟩:=Ae C1;have H1:=hid (Aa (Ab (Ac w) _) C1);have l1:w.heap.size<w1.heap.size:=by have:=C1.size; simp at this; omega
   go_wp2_with fail;refine(Kh5.out _ (I.out.step H1.out)).mono ?_;rintro e w2 ⟨rfl,B2⟩;have C2:=Aa C1 B2;clear hc1 hf1 C1 B2 H1 l1;obtain⟨hc2,hf2⟩:=Ae C2;have H2:=hid (Aa (Ab (Ac w) _) C2);have l2:w.heap.size<w2.heap.size:=by have:=C2.size; simp at this; omega
   go_wp2_with fail;refine(Kh7.out _ (J.out.step H2.out)).mono ?_;rintro e w3 ⟨rfl,B3⟩;have C3:=Aa C2 B3;clear hc2 hf2 C2 B3 H2 l2;obtain⟨hc3,hf3⟩:=Ae C3;have H3:=hid (Aa (Ab (Ac w) _) C3);have l3:w.heap.size<w3.heap.size:=by have:=C3.size; simp at this; omega
   go_wp2_with fail;refine(Kh8.out _).mono ?_;rintro e w4 ⟨rfl,B4⟩;have C4:=Aa C3 B4;clear hc3 hf3 C3 B4 H3 l3;obtain⟨hc4,hf4⟩:=Ae C4;have H4:=hid (Aa (Ab (Ac w) _) C4);have l4:w.heap.size<w4.heap.size:=by have:=C4.size; simp at this; omega
   go_wp2_with fail;refine(Ai _ _ _ _ _ h9.out).mono ?_;rintro e w' ⟨rfl,rfl⟩;go_wp2;go_ret;exact⟨Ad (by rw[E.out]),H4.out⟩
 cases h10:Ca ws x y
 . have E:=hid (show AW i t x y ws gs p q r s b=false by simp[AW,show Al i 0 99=true from h1,show Al t 1 60=true from h2,show Am x y=true from h3,show decide (ws.length<=4)=true from decide_eq_true (by have:=hl1.out; omega),show Br ws=true from h5,show decide (gs.length<=3)=true from decide_eq_true (by have:=hl2.out; omega),show Br gs=true from h7,show Bh p q r s=true from h8,show Al b 0 3=true from h9,show Ca ws x y=false from h10]);have h1:=hid h1;have h2:=hid h2;have Kh3:=hid (fun(W:World)=>Aj x y W);rw[h3] at Kh3;have g4:(n:Int)<=4:=by omega
   have Kh5:=hid (fun(W:World) (Z:Boxes W A n ws)=>An A n c ws W Z hn);rw[h5] at Kh5;have g6:(m:Int)<=3:=by omega
   have Kh7:=hid (fun(W:World) (Z:Boxes W G m gs)=>An G m k gs W Z hm);rw[h7] at Kh7;have Kh8:=hid (fun(W:World)=>Ay p q r s W);rw[h8] at Kh8;have h9:=hid h9;have Kh10:=hid (fun(W:World) (Z:Boxes W A n ws)=>Dt i t x y A n c G m k p q r s b ws x y W Z h5 h3 hn);rw[h10] at Kh10;go_enter Try.func53,Try.ntmps53;go_wp2_with fail;refine(Ai _ _ _ _ _ h1.out).mono ?_;rintro e w' ⟨rfl,rfl⟩;go_wp2_with fail;refine(Ai _ _ _ _ _ h2.out).mono ?_;rintro e w' ⟨rfl,rfl⟩;go_wp2_with fail;refine(Kh3.out _).mono ?_;rintro e w1 ⟨rfl,B1⟩;have C1:=B1;clear B1;obtain⟨hc1,hf1⟩:=Ae C1;have H1:=hid (Aa (Ab (Ac w) _) C1)
   have l1:w.heap.size<w1.heap.size:=by have:=C1.size; simp at this; omega
   go_wp2_with fail;refine(Kh5.out _ (I.out.step H1.out)).mono ?_;rintro e w2 ⟨rfl,B2⟩;have C2:=Aa C1 B2;clear hc1 hf1 C1 B2 H1 l1;obtain⟨hc2,hf2⟩:=Ae C2;have H2:=hid (Aa (Ab (Ac w) _) C2);have l2:w.heap.size<w2.heap.size:=by have:=C2.size; simp at this; omega
   go_wp2_with fail;refine(Kh7.out _ (J.out.step H2.out)).mono ?_;rintro e w3 ⟨rfl,B3⟩;have C3:=Aa C2 B3;clear hc2 hf2 C2 B3 H2 l2;obtain⟨hc3,hf3⟩:=Ae C3;have H3:=hid (Aa (Ab (Ac w) _) C3);have l3:w.heap.size<w3.heap.size:=by have:=C3.size; simp at this; omega
   go_wp2_with fail;refine(Kh8.out _).mono ?_;rintro e w4 ⟨rfl,B4⟩;have C4:=Aa C3 B4;clear hc3 hf3 C3 B4 H3 l3;obtain⟨hc4,hf4⟩:=Ae C4;have H4:=hid (Aa (Ab (Ac w) _) C4);have l4:w.heap.size<w4.heap.size:=by have:=C4.size; simp at this; omega
   go_wp2_with fail;refine(Ai _ _ _ _ _ h9.out).mono ?_;rintro e w' ⟨rfl,rfl⟩;go_wp2_with fail;refine(Kh10.out _ (I.out.step H4.out)).mono ?_;rintro e w5 ⟨rfl,B5⟩;have C5:=Aa C4 B5;clear hc4 hf4 C4 B5 H4 l4;obtain⟨hc5,hf5⟩:=Ae C5;have H5:=hid (Aa (Ab (Ac w) _) C5);have l5:w.heap.size<w5.heap.size:=by have:=C5.size; simp at this; omega
   go_wp2;go_ret;exact⟨Ad (by rw[E.out]),H5.out⟩
 have E:=hid (show AW i t x y ws gs p q r s b=true by simp[AW,show Al i 0 99=true from h1,show Al t 1 60=true from h2,show Am x y=true from h3,show decide (ws.length<=4)=true from decide_eq_true (by have:=hl1.out; omega),show Br ws=true from h5,show decide (gs.length<=3)=true from decide_eq_true (by have:=hl2.out; omega),show Br gs=true from h7,show Bh p q r s=true from h8,show Al b 0 3=true from h9,show Ca ws x y=true from h10]);have h1:=hid h1;have h2:=hid h2;have Kh3:=hid (fun(W:World)=>Aj x y W);rw[h3] at Kh3;have g4:(n:Int)<=4:=by omega
 have Kh5:=hid (fun(W:World) (Z:Boxes W A n ws)=>An A n c ws W Z hn);rw[h5] at Kh5;have g6:(m:Int)<=3:=by omega
 have Kh7:=hid (fun(W:World) (Z:Boxes W G m gs)=>An G m k gs W Z hm);rw[h7] at Kh7;have Kh8:=hid (fun(W:World)=>Ay p q r s W);rw[h8] at Kh8;have h9:=hid h9;have Kh10:=hid (fun(W:World) (Z:Boxes W A n ws)=>Dt i t x y A n c G m k p q r s b ws x y W Z h5 h3 hn);rw[h10] at Kh10;go_enter Try.func53,Try.ntmps53;go_wp2_with fail;refine(Ai _ _ _ _ _ h1.out).mono ?_;rintro e w' ⟨rfl,rfl⟩;go_wp2_with fail;refine(Ai _ _ _ _ _ h2.out).mono ?_;rintro e w' ⟨rfl,rfl⟩;go_wp2_with fail;refine(Kh3.out _).mono ?_;rintro e w1 ⟨rfl,B1⟩;have C1:=B1;clear B1;obtain⟨hc1,hf1⟩:=Ae C1;have H1:=hid (Aa (Ab (Ac w) _) C1)
 have l1:w.heap.size<w1.heap.size:=by have:=C1.size; simp at this; omega
 go_wp2_with fail;refine(Kh5.out _ (I.out.step H1.out)).mono ?_;rintro e w2 ⟨rfl,B2⟩;have C2:=Aa C1 B2;clear hc1 hf1 C1 B2 H1 l1;obtain⟨hc2,hf2⟩:=Ae C2;have H2:=hid (Aa (Ab (Ac w) _) C2);have l2:w.heap.size<w2.heap.size:=by have:=C2.size; simp at this; omega
 go_wp2_with fail;refine(Kh7.out _ (J.out.step H2.out)).mono ?_;rintro e w3 ⟨rfl,B3⟩;have C3:=Aa C2 B3;clear hc2 hf2 C2 B3 H2 l2;obtain⟨hc3,hf3⟩:=Ae C3;have H3:=hid (Aa (Ab (Ac w) _) C3);have l3:w.heap.size<w3.heap.size:=by have:=C3.size; simp at this; omega
 go_wp2_with fail;refine(Kh8.out _).mono ?_;rintro e w4 ⟨rfl,B4⟩;have C4:=Aa C3 B4;clear hc3 hf3 C3 B4 H3 l3;obtain⟨hc4,hf4⟩:=Ae C4;have H4:=hid (Aa (Ab (Ac w) _) C4);have l4:w.heap.size<w4.heap.size:=by have:=C4.size; simp at this; omega
 go_wp2_with fail;refine(Ai _ _ _ _ _ h9.out).mono ?_;rintro e w' ⟨rfl,rfl⟩;go_wp2_with fail;refine(Kh10.out _ (I.out.step H4.out)).mono ?_;rintro e w5 ⟨rfl,B5⟩;have C5:=Aa C4 B5;clear hc4 hf4 C4 B5 H4 l4;obtain⟨hc5,hf5⟩:=Ae C5;have H5:=hid (Aa (Ab (Ac w) _) C5);have l5:w.heap.size<w5.heap.size:=by have:=C5.size; simp at this; omega
 go_wp2;go_ret;exact⟨Ad (by rw[E.out]),H5.out⟩
end Go.Proofs.Ytbeohbhhmcjokaa
namespace Go.Proofs.Ytbeohbhhmcjokaa
namespace M
end M
theorem AX{W:World}{b:Nat}{v0 v1 v2:Value}(h:CellsAt W b [v0,v1,v2]):W.cell? ⟨b,0,none⟩=some v0/\W.cell? ⟨b,1,none⟩=some v1/\W.cell? ⟨b,2,none⟩=some v2 :=
 ⟨h.cell 0 _ rfl,h.cell 1 _ rfl,h.cell 2 _ rfl⟩
theorem Ir{W:World}{b:Nat}{v0 v1 v2 v3 v4 v5 v6 v7 v8:Value}(h:CellsAt W b [v0,v1,v2,v3,v4,v5,v6,v7,v8]):W.cell? ⟨b,0,none⟩=some v0/\W.cell? ⟨b,1,none⟩=some v1/\W.cell? ⟨b,2,none⟩=some v2/\W.cell? ⟨b,3,none⟩=some v3/\W.cell? ⟨b,4,none⟩=some v4/\W.cell? ⟨b,5,none⟩=some v5/\W.cell? ⟨b,6,none⟩=some v6/\W.cell? ⟨b,7,none⟩=some v7/\W.cell? ⟨b,8,none⟩=some v8 :=
 ⟨h.cell 0 _ rfl,h.cell 1 _ rfl,h.cell 2 _ rfl,h.cell 3 _ rfl,h.cell 4 _ rfl,h.cell 5 _ rfl,h.cell 6 _ rfl,h.cell 7 _ rfl,h.cell 8 _ rfl⟩
theorem Dv{W:World}{b:Nat}{v0 v1 v2 v3 v4 v5 v6 v7 v8 v9 v10:Value}(h:CellsAt W b [v0,v1,v2,v3,v4,v5,v6,v7,v8,v9,v10]):W.cell? ⟨b,0,none⟩=some v0/\W.cell? ⟨b,1,none⟩=some v1/\W.cell? ⟨b,2,none⟩=some v2/\W.cell? ⟨b,3,none⟩=some v3/\W.cell? ⟨b,4,none⟩=some v4/\W.cell? ⟨b,5,none⟩=some v5/\W.cell? ⟨b,6,none⟩=some v6/\W.cell? ⟨b,7,none⟩=some v7/\W.cell? ⟨b,8,none⟩=some v8/\W.cell? ⟨b,9,none⟩=some v9/\W.cell? ⟨b,10,none⟩=some v10 :=
 ⟨h.cell 0 _ rfl,h.cell 1 _ rfl,h.cell 2 _ rfl,h.cell 3 _ rfl,h.cell 4 _ rfl,h.cell 5 _ rfl,h.cell 6 _ rfl,h.cell 7 _ rfl,h.cell 8 _ rfl,h.cell 9 _ rfl,h.cell 10 _ rfl⟩
end Go.Proofs.Ytbeohbhhmcjokaa
