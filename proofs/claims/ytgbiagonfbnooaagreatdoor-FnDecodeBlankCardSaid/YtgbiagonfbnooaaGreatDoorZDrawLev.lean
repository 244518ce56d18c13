import Derived.Test.YtgbiagonfbnooaaGreatDoorZBoxP
import Derived.OneCell
import Derived.Deep.AppendLies
import Derived.Deep.RegionLaw
import Derived.Test.YtgbiagonfbnooaaGreatDoorZ0
set_option linter.all false
set_option maxRecDepth 100000
set_option maxHeartbeats 8000000
open Go.Lib
namespace Go.Proofs.YtgbiagonfbnooaaGreatDoor
open Go.RowKit
open M
def Wok(bs:List Bx):Prop:=∀ q∈bs,(-100000<=q.a/\q.a<=q.c/\q.c<=100000)/\(-100000<=q.b/\q.b<=q.d/\q.d<=100000)
theorem Wok.nil:Wok []:=fun _ h=>by cases h
theorem Wok.snoc{bs:List Bx}(h:Wok bs){a b c d:Int}(hq:(-100000<=a/\a<=c/\c<=100000)/\(-100000<=b/\b<=d/\d<=100000)):Wok (bs++[⟨a,b,c,d⟩]):=fun z hz=>by
 rcases List.mem_append.1 hz with g | g
 . exact h z g
 . rw[List.mem_singleton.1 g]; exact hq
theorem Wok.ok{bs:List Bx}(h:Wok bs):C8 bs=true:=List.all_eq_true.2 fun q hq=>by
 have t:=h q hq;exact(GY q.a q.b q.c q.d).2 ⟨⟨⟨by omega,by omega⟩,by omega,by omega⟩,⟨⟨by omega,by omega⟩,by omega,by omega⟩,by omega,by omega⟩
theorem wrap_small{a:Int}(h1:-1000000<=a)(h2:a<=1000000):IntKind.i64.wrap a=a:=IntWalk.i64_in _ (by omega)
def FF(t x y b:Int):Prop:=(10<=t/\t<=60)/\(0<=x/\x<=1000)/\(-500<=y/\y<=500)/\(0<=b/\b<=3)
def AK(lo:Nat)(A:Option Addr):Prop:=∀ g off,A=some ⟨g,off,none⟩->lo<=g
def Jv(B:Nat)(r:Nat)(k:Int)(w:World)(e:Ending)(w':World):Prop :=
 ∃(i t x y:Int) (A:Option Addr) (n c:Nat) (G:Option Addr) (m kk:Nat) (p q s z b:Int) (ws gs:List Bx),e=.returned (Fq i t x y A n c G m kk p q s z b)/\(n<=10/\n<=c)/\(m<=10/\m<=kk)/\(Wok ws/\FF t x y b)/\Boxes w' A n ws/\Boxes w' G m gs/\AK w.heap.size A/\AK w.heap.size G/\RdU B w' r (k+60)/\Kept r w w'
def Cel(w:World)(A:Option Addr):Prop:=∀ a,A=some a->a.spot=none/\∃ c t f,w.heap[a.block]?=some (.cells c t f)
theorem Cel.of{w w':World}{A:Option Addr}(h:Cel w A)(e:∀ a,A=some a->w'.heap[a.block]?=w.heap[a.block]?):Cel w' A:=fun a ha=>by
 obtain⟨h1,c,t,f,h2⟩:=h a ha;exact⟨h1,c,t,f,(e a ha).trans h2⟩
theorem Cel.lt{w:World}{A:Option Addr}(h:Cel w A){a:Addr}(ha:A=some a):a.block<w.heap.size:=by
 obtain⟨_,c,t,f,h2⟩:=h a ha;exact(Array.getElem?_eq_some_iff.1 h2).1
theorem Cel.kept{r:Nat}{w w':World}{A:Option Addr}(h:Cel w A)(K:Kept r w w')(hr:∀ g off,A=some ⟨g,off,none⟩->g≠r):Cel w' A:=h.of fun a ha=>K.block _ (h.lt ha) (hr a.block a.off (by rw[ha]; obtain⟨b,o,s⟩:=a; obtain⟨e,_⟩:=h _ ha; cases e; rfl))
theorem Cel.of_own{w:World}{base:Nat}{e:TypeId}{sz:Nat}{A:Option Addr}{n c:Nat}{xs:List Value}{m:Nat}(h:w.ownsRow base e sz (.slice A n c) m xs):Cel w A:=fun a ha=>by
 rcases h.2 with⟨h0,_⟩ | ⟨g,cap,cur,h0,_,h2,_⟩
 . cases h0; cases ha
 . cases h0; cases ha; exact⟨rfl,_,_,_,h2⟩
def Gc(B:Nat)(r:Nat)(k:Int)(w:World)(e:Ending)(w':World):Prop :=
 ∃(i t x y:Int) (A:Option Addr) (n c:Nat) (G:Option Addr) (m kk:Nat) (p q s z b:Int) (ws gs:List Bx),(Cel w' A/\Cel w' G)/\e=.returned (Fq i t x y A n c G m kk p q s z b)/\(n<=10/\n<=c)/\(m<=10/\m<=kk)/\(Wok ws/\FF t x y b)/\Boxes w' A n ws/\Boxes w' G m gs/\AK w.heap.size A/\AK w.heap.size G/\RdU B w' r (k+60)/\Kept r w w'
theorem Boxes.grown{W w':World}{A:Option Addr}{n:Nat}{bs:List Bx}{row:Option Nat}(h:Boxes W A n bs)(hg:W.grownBy w' row)(hr:0<n->∀ k off,A=some ⟨k,off,none⟩->row≠some k):Boxes w' A n bs :=
 ⟨h.1,fun hn=>by
  obtain⟨b,off,e,hb,hc⟩:=h.2 hn;exact⟨b,off,e,Nat.lt_of_lt_of_le hb hg.size,fun k hk=>(hc k hk).of (hg.block b hb (fun e'=>hr hn b off e e'.symm))⟩⟩
theorem CE{w w':World}{base:Nat}{e:TypeId}{sz:Nat}{v:Value}{n r:Nat}{xs:List Value}(h:w.ownsRow base e sz v n xs)(K:Kept r w w')(hr:r<base):w'.ownsRow base e sz v n xs :=
 h.kept K.grows (.inr fun he=>by have:=(h.lt r he).1; omega)
theorem Fi(W:World)(base B:Nat)(hB:B=W.heap.size)(hb:base<=W.heap.size):(W.alloc (.cells #[] 60)).ownsRow base 60 4 (.slice (some ⟨B,0,none⟩) 0 0) 0 (Do []):=by
 subst hB;exact World.ownsRow_lit W #[] 0 hb (Nat.zero_le _) rfl
structure LvW(B r:Nat)(w:World)(lb:Nat)(vs:List Value)(A:Value)(n:Nat)(ws:List Bx)(V:Value)(m:Nat)(gs:List Bx)(k:Int)(W:World):Prop where
 L:CellsAt W lb vs
 D:CellsAt W w.heap.size (AW 0 0 0 0 none 0 0 none 0 0 0 0 0 0 0)
 oA:W.ownsRow (w.heap.size+1) 60 4 A n (Do ws)
 oV:W.ownsRow (w.heap.size+1) 60 4 V m (Do gs)
 nA:A.ownBlock≠some lb
 nV:V.ownBlock≠some lb
 ap:∀ g,A.ownBlock=some g->V.ownBlock≠some g
 R:RdU B W r k
 K:Kept r w W
 lo:w.heap.size<lb
 bw:B<=w.heap.size
 rB:r<B
theorem LvW.kept{B r:Nat}{w:World}{lb:Nat}{vs:List Value}{A:Value}{n:Nat}{ws:List Bx}{V:Value}{m:Nat}{gs:List Bx}{k k':Int}{W W':World}(h:LvW B r w lb vs A n ws V m gs k W)(K:Kept r W W')(R:RdU B W' r k'):LvW B r w lb vs A n ws V m gs k' W':=by
 have:=h.lo; have:=h.bw; have:=h.rB;exact⟨h.L.kept K (by omega),h.D.kept K (by omega),CE h.oA K (by omega),CE h.oV K (by omega),h.nA,h.nV,h.ap,R,h.K.trans K,h.lo,h.bw,h.rB⟩
theorem LvW.alloc{B r:Nat}{w:World}{lb:Nat}{vs:List Value}{A:Value}{n:Nat}{ws:List Bx}{V:Value}{m:Nat}{gs:List Bx}{k:Int}{W:World}(h:LvW B r w lb vs A n ws V m gs k W)(ob:Obj):LvW B r w lb vs A n ws V m gs k (W.alloc ob) :=
 ⟨h.L.alloc ob,h.D.alloc ob,h.oA.alloc ob,h.oV.alloc ob,h.nA,h.nV,h.ap,h.R.alloc ob,h.K.alloc ob,h.lo,h.bw,h.rB⟩
theorem LvW.drew{B r:Nat}{w:World}{lb:Nat}{vs:List Value}{A:Value}{n:Nat}{ws:List Bx}{V:Value}{m:Nat}{gs:List Bx}{k:Int}{W:World}(h:LvW B r w lb vs A n ws V m gs k W):LvW B r w lb vs A n ws V m gs k W.drew :=
 h.kept (Kept.refl r W).drew1 h.R.drew
theorem LvW.mono{B r:Nat}{w:World}{lb:Nat}{vs:List Value}{A:Value}{n:Nat}{ws:List Bx}{V:Value}{m:Nat}{gs:List Bx}{k k':Int}{W:World}(h:LvW B r w lb vs A n ws V m gs k W)(hk:k<=k'):LvW B r w lb vs A n ws V m gs k' W :=
 { h with R:=h.R.mono hk }
theorem LvW.set{B r:Nat}{w:World}{lb:Nat}{vs:List Value}{A:Value}{n:Nat}{ws:List Bx}{V:Value}{m:Nat}{gs:List Bx}{k:Int}{W:World}(h:LvW B r w lb vs A n ws V m gs k W)(o:Nat)(ho:o<vs.length)(v:Value):LvW B r w lb (vs.set o v) A n ws V m gs k (W.setCell ⟨lb,o,none⟩ v):=by
 have:=h.lo; have:=h.bw; have:=h.rB;exact⟨h.L.set o ho v,h.D.far (by omega) _ _,ownsRow_setCell_other h.oA (by have:=h.nA; exact this) _,ownsRow_setCell_other h.oV (by have:=h.nV; exact this) _,h.nA,h.nV,h.ap,h.R.set _ _ _ (by omega),h.K.set _ _ _ (by omega),h.lo,h.bw,h.rB⟩
theorem LvW.gate{B r:Nat}{w:World}{lb:Nat}{vs:List Value}{A:Value}{n:Nat}{ws:List Bx}{V:Value}{m:Nat}{gs:List Bx}{k:Int}{W W':World}{g cap:Nat}{q:Bx}(h:LvW B r w lb vs A n ws V m gs k W)
 (O:W'.ownsRow (w.heap.size+1) 60 4 (.slice (some ⟨g,0,none⟩) (m+1) cap) (m+1) (Do gs++Do [q])) (hg:W.grownBy W' V.ownBlock) (hat:V.ownBlock=some g\/g=W.heap.size) :
 LvW B r w lb vs A n ws (.slice (some ⟨g,0,none⟩) (m+1) cap) (m+1) (gs++[q]) k W':=by
 have h1:=h.lo; have h2:=h.bw; have h3:=h.rB; have h4:=h.L.lt;have hlow:∀ c,V.ownBlock=some c->w.heap.size+1<=c:=fun c e=>(h.oV.lt c e).1;refine⟨h.L.grown hg h.nV,h.D.grown hg (fun e=>by have:=hlow _ e; omega),h.oA.kept hg ?_,by rw[EV]; exact O,h.nA,?_,?_,h.R.grown hg (fun c e=>by have:=hlow c e; omega),h.K.grown hg (fun c e=>by have:=hlow c e; omega),h1,h2,h3⟩
 . cases hA:A.ownBlock with
   | none=>exact .inl rfl
   | some c=>exact .inr (fun e=>h.ap c hA e.symm)
 . intro e;simp only[Value.ownBlock,Option.some.injEq] at e;rcases hat with t | t
   . exact h.nV (by rw[t,e])
   . omega
 . intro c hc e;simp only[Value.ownBlock,Option.some.injEq] at e;rcases hat with t | t
   . exact h.ap c hc (by rw[t,e])
   . have:=(h.oA.lt c hc).2; omega
theorem LvW.wall{B r:Nat}{w:World}{lb:Nat}{vs:List Value}{A:Value}{n:Nat}{ws:List Bx}{V:Value}{m:Nat}{gs:List Bx}{k:Int}{W W':World}{g cap:Nat}{q:Bx}(h:LvW B r w lb vs A n ws V m gs k W)
 (O:W'.ownsRow (w.heap.size+1) 60 4 (.slice (some ⟨g,0,none⟩) (n+1) cap) (n+1) (Do ws++Do [q])) (hg:W.grownBy W' A.ownBlock) (hat:A.ownBlock=some g\/g=W.heap.size) :
 LvW B r w lb vs (.slice (some ⟨g,0,none⟩) (n+1) cap) (n+1) (ws++[q]) V m gs k W':=by
 have h1:=h.lo; have h2:=h.bw; have h3:=h.rB; have h4:=h.L.lt;have hlow:∀ c,A.ownBlock=some c->w.heap.size+1<=c:=fun c e=>(h.oA.lt c e).1;refine⟨h.L.grown hg h.nA,h.D.grown hg (fun e=>by have:=hlow _ e; omega),by rw[EV]; exact O,h.oV.kept hg ?_,?_,h.nV,?_,h.R.grown hg (fun c e=>by have:=hlow c e; omega),h.K.grown hg (fun c e=>by have:=hlow c e; omega),h1,h2,h3⟩
 . cases hV:V.ownBlock with
   | none=>exact .inl rfl
   | some c=>exact .inr (fun e=>h.ap c e.symm hV)
 . intro e;simp only[Value.ownBlock,Option.some.injEq] at e;rcases hat with t | t
   . exact h.nA (by rw[t,e])
   . omega
 . intro c hc e;simp only[Value.ownBlock,Option.some.injEq] at hc;rcases hat with t | t
   . exact h.ap g t (by rw[e,hc])
   . have:=(h.oV.lt c e).2; omega
def Ls(B r:Nat)(k:Int)(w:World)(lb wb N:Nat)(i t x y b:Int)(xv iv:Value)(W:World):Prop :=
 ∃(j:Nat) (z:Int) (G:Option Addr) (ck:Nat) (gs:List Bx),j<=N/\iv=.int .i64 j/\xv=.int .i64 z/\0<=z/\z<=1000+2200*j/\LvW B r w lb (AW i t x y (some ⟨wb,0,none⟩) 0 0 G j ck 0 0 0 0 b) (.slice (some ⟨wb,0,none⟩) 0 0) 0 [] (.slice G j ck) j gs (k+6+2*j) W
def Jw(B r:Nat)(k:Int)(w:World)(lb N:Nat)(i t x y:Int)(G:Option Addr)(m kk:Nat)(p q s z b:Int)(gs:List Bx)(iv:Value)(W:World):Prop :=
 ∃(j:Nat) (A:Option Addr) (c:Nat) (ws:List Bx),j<=N/\iv=.int .i64 j/\Wok ws/\LvW B r w lb (AW i t x y A j c G m kk p q s z b) (.slice A j c) j ws (.slice G m kk) m gs (k+20+4*j) W
theorem Ea{W:World}{base:Nat}{e:TypeId}{sz:Nat}{A:Option Addr}{n c m:Nat}{xs:List Value}(h:W.ownsRow base e sz (.slice A n c) m xs):m<=c:=by
 rcases h.2 with⟨e1,rfl⟩ | ⟨g,cap,cur,e1,_,_,hnc,_⟩
 . omega
 . cases e1
   exact hnc
theorem LvW.out{B r:Nat}{w:World}{lb:Nat}{vs:List Value}{A:Option Addr}{n c:Nat}{ws:List Bx}{G:Option Addr}{m kk:Nat}{gs:List Bx}{k k':Int}{W W':World}{i t x y p q s z b:Int}(h:LvW B r w lb vs (.slice A n c) n ws (.slice G m kk) m gs k' W)(hk:k'<=k+60)(hn:n<=10)(hm:m<=10)(hl:Wok ws)(hL:FF t x y b)(K':Kept w.heap.size W W'):Gc B r k w (.returned (Fq i t x y A n c G m kk p q s z b)) W':=by
 obtain⟨A1,c1,e1,I1,M1⟩:=Boxes.of_own h.oA;obtain⟨A2,c2,e2,I2,M2⟩:=Boxes.of_own h.oV;cases e1
 cases e2
 have h1:=h.bw; have h2:=h.rB; have h3:=h.K.size;refine⟨i,t,x,y,A,n,c,G,m,kk,p,q,s,z,b,ws,gs,⟨(Cel.of_own h.oA).kept K' (fun g off e=>by have:=M1 g off e; omega),(Cel.of_own h.oV).kept K' (fun g off e=>by have:=M2 g off e; omega)⟩,rfl,⟨hn,Ea h.oA⟩,⟨hm,Ea h.oV⟩,⟨hl,hL⟩,I1.kept K' (fun _ g off e=>by have:=M1 g off e; omega),I2.kept K' (fun _ g off e=>by have:=M2 g off e; omega),fun g off e=>by have:=M1 g off e; omega,fun g off e=>by have:=M2 g off e; omega,(h.R.mono hk).below (K'.below (by omega) (by omega)),?_⟩
 exact⟨K'.os.trans h.K.os,K'.tape.trans h.K.tape,K'.output.trans h.K.output,Nat.le_trans h3 K'.size,fun j hj hr=>(K'.block j (by omega) (by omega)).trans (h.K.block j hj hr)⟩
theorem PCell.grown{W w':World}{b:Nat}{x y:Int}{row:Option Nat}(h:PCell W b x y)(hg:W.grownBy w' row)(hr:row≠some b):PCell w' b x y:=h.of (hg.block b h.lt (fun e=>hr e.symm)) hg.size
theorem Jy{d c:Int}(d0:0<=d)(d1:d<20)(c0:0<=c)(c1:c<2):-3500<=(1500+d*100)*(1-2*c)/\(1500+d*100)*(1-2*c)<=3500:=by
 rcases LL c0 c1 with rfl | rfl<;>omega
theorem FG{B:Nat}(r:Nat)(k:Int)(w:World)(R:RdU B w r k)(hk:k<=70000) :
 Calls Tryz.prog 53 #[.pointer (some ⟨r,0,none⟩)] w (Gc B r k w):=by
 have hr:=R.here;have hB:=R.base;obtain⟨i0',hi,hz0,hz1,hz2⟩:=info_parts KP;have hi:=hid hi;have hz0:=hid hz0;have hz1:=hid hz1;have hz2:=hid hz2;have D0:CellsAt (w.alloc (.cells #[.int .i64 0,.int .i64 0,.int .i64 0,.int .i64 0,.slice none 0 0,.slice none 0 0,.int .i64 0,.int .i64 0,.int .i64 0,.int .i64 0,.int .i64 0] 62)) w.heap.size (AW 0 0 0 0 none 0 0 none 0 0 0 0 0 0 0):=CellsAt.new w _ _ _ rfl;have J0:=hid ((Kept.refl r w).alloc (.cells #[.int .i64 0,.int .i64 0,.int .i64 0,.int .i64 0,.slice none 0 0,.slice none 0 0,.int .i64 0,.int .i64 0,.int .i64 0,.int .i64 0,.int .i64 0] 62));go_enter Tryz.func53,Tryz.ntmps53;go_wp2_with fail
 refine(Aj r 8 k _ (R.alloc _) (by omega) (by omega) (by omega)).mono ?_;rintro e w1 ⟨i,⟨i0,i1⟩,rfl,R1,K1⟩;have D1:=hid (D0.kept K1 (by omega));have J1:=hid (J0.out.trans K1);clear K1 R D0 J0;have R1:=hid R1;go_wp2_with fail;refine(Aj r 51 _ _ R1.out (by omega) (by omega) (by omega)).mono ?_;rintro e w2 ⟨t,⟨t0,t1⟩,rfl,R2,K2⟩;have D2:=hid (D1.out.kept K2 (by omega));have J2:=hid (J1.out.trans K2);clear K2 R1 D1 J1;have R2:=hid R2;go_wp2_with fail;refine(Aj r 10 _ _ R2.out (by omega) (by omega) (by omega)).mono ?_;rintro e w3 ⟨x,⟨x0,x1⟩,rfl,R3,K3⟩;have D3:=hid (D2.out.kept K3 (by omega));have J3:=hid (J2.out.trans K3);clear K3 R2 D2 J2
 have R3:=hid R3;go_wp2_with fail;refine(Aj r 10 _ _ R3.out (by omega) (by omega) (by omega)).mono ?_;rintro e w4 ⟨y,⟨y0,y1⟩,rfl,R4,K4⟩;have D4:=hid (D3.out.kept K4 (by omega));have J4:=hid (J3.out.trans K4);clear K4 R3 D3 J3;have R4:=hid R4;have l4:=D4.out.lt;have OW:=hid ((Fi w4 (w.heap.size+1) w4.heap.size rfl (by omega)).alloc (.cells #[] 60));have OG:=hid (Fi (w4.alloc (.cells #[] 60)) (w.heap.size+1) (w4.heap.size+1) (by simp) (by simp; omega));go_wp2_with fail;refine(Aj r 4 _ _ ((R4.out.alloc _).alloc _) (by omega) (by omega) (by omega)).mono ?_;rintro e w5 ⟨b,⟨b0,b1⟩,rfl,R5,K5⟩;have hB2:=J4.out.size
 have s5:w4.heap.size+2<=w5.heap.size:=by have:=K5.size; simpa using this
 have H5:LvW B r w w5.heap.size (AW i (10+t) (x*100) (y*100-500) (some ⟨w4.heap.size,0,none⟩) 0 0 (some ⟨w4.heap.size+1,0,none⟩) 0 0 0 0 0 0 b) (.slice (some ⟨w4.heap.size,0,none⟩) 0 0) 0 [] (.slice (some ⟨w4.heap.size+1,0,none⟩) 0 0) 0 [] _ (w5.alloc (.cells #[.int .i64 i,.int .i64 (10+t),.int .i64 (x*100),.int .i64 (y*100-500),.slice (some ⟨w4.heap.size,0,none⟩) 0 0,.slice (some ⟨w4.heap.size+1,0,none⟩) 0 0,.int .i64 0,.int .i64 0,.int .i64 0,.int .i64 0,.int .i64 b] 62)) :=
  ⟨CellsAt.new _ _ _ _ rfl,((D4.out.alloc (.cells #[] 60)).alloc (.cells #[] 60)).kept K5 (by omega) |>.alloc _,(CE OW.out K5 (by omega)).alloc _,(CE OG.out K5 (by omega)).alloc _,by simp[Value.ownBlock]; omega,by simp[Value.ownBlock]; omega,by simp[Value.ownBlock],R5.alloc _,((J4.out.alloc _).alloc _).trans K5 |>.alloc _,by omega,hB,hr⟩
 have H5:=hid H5;clear K5 R4 J4 D4 OW OG R5;go_wp2_with fail;refine(Aj r 3 _ _ H5.out.R (by omega) (by omega) (by omega)).mono ?_;rintro e w6 ⟨N,⟨N0,N1⟩,rfl,R6,K6⟩;have H6:=hid (H5.out.kept K6 R6);clear K6 R6 H5;obtain⟨N,rfl⟩:=Int.eq_ofNat_of_zero_le N0;obtain⟨lb,hlb⟩:∃ lb,w5.heap.size=lb:=⟨_,rfl⟩;obtain⟨wb,hwb⟩:∃ wb,w4.heap.size=wb:=⟨_,rfl⟩;rw[hlb] at H6 s5 ⊢;rw[hwb] at H6 l4 s5 ⊢;have hlb:=hid hlb;have hwb:=hid hwb;have hN3:N<3:=by omega
 go_wp2
 go_loopw [4,6] (Ls B r k w lb wb N i (10+t) (x*100) (y*100-500) b) (fun _ i _=>N-(RowKit.intOf i).toNat)
 case atStart=>exact⟨0,x*100,some ⟨wb+1,0,none⟩,0,[],Nat.zero_le _,rfl,rfl,by omega,by omega,H6.out.mono (by omega)⟩
 case round =>
  clear H6;obtain⟨j,z,G,ck,gs,hj,rfl,rfl,z0,z1,H⟩:=hrel;have H:=hid H;by_cases hlt:j<N
  . go_wp2_with fail;refine(Aj r 20 _ _ H.out.R (by omega) (by omega) (by omega)).mono ?_;rintro e w8 ⟨u,⟨u0,u1⟩,rfl,R8,K8⟩;have H8:=hid (H.out.kept K8 R8);clear K8 R8 H;have c5:=H8.out.L.cell 5 _ rfl;have f5:=H8.out.L.fr 5;have l5:=H8.out.L.lt;go_wp2_with fail
    go_region_law (first | (refine step_append_lies _ rfl (.tmp 44) (.tmp 55) 58 rfl (w.heap.size+1) 60 i0' (box 0 0 0 0) 4 32 Tryz.underlying58 hi.out hz0.out hz1.out hz2.out rfl (by decide) (.slice G j ck) j (Do gs) (by simp[Act.eval,Act.put]) (H9.out.oV.alloc _) ⟨w9.heap.size,0,none⟩ 1 1 (Do [⟨_,_,_,_⟩]) (by simp[Act.eval,Act.put]) rfl (Boxes.one w9 w9.heap.size _ _ _ _ _ rfl).news (Dp _) (by omega) s1.out s2.out (s3.out _) _ rfl ?_; intro g cap w10 O10 G10 hat hlt10; have H10:=hid (LvW.gate (H9.out.alloc _) O10 G10 hat); have c10:=H10.out.L.cell 5 _ rfl; have f10:=H10.out.L.fr 5; have l10:=H10.out.L.lt; clear O10 G10 hat) | (go_simp; go_at_call 32; refine(Aj r 20 _ _ (by first | exact H8.out.R | exact H8.out.R.drew) (by omega) (by omega) (by omega)).mono ?_; rintro e w9 ⟨v,⟨v0,v1⟩,rfl,R9,K9⟩; have H9:=hid (LvW.kept (by first | exact H8.out | exact H8.out.drew) K9 R9); clear K9 R9; have c9:=H9.out.L.cell 5 _ rfl; have f9:=H9.out.L.fr 5; have l9:=H9.out.L.lt; have s1:=hid (show j+1<=maxLen by unfold maxLen; omega); have s2:=hid (show(j+1)*32<=140737488355328 by omega); have s3:=hid (fun ob:Obj=>show w.heap.size+1<=(w9.alloc ob).heap.size by have:=H9.out.L.lt; have:=H9.out.lo; simp; omega)))
    all_goals
     go_wp2
     go_roundw
     case rel=>exact⟨j+1,_,some ⟨g,0,none⟩,cap,_,by omega,by go_num,rfl,by omega,by omega,(H10.out.set 5 (by simp) _).mono (by omega)⟩
     case measure=>simp[RowKit.intOf]; omega
  . go_wp2_with fail;refine(Aj r 20 _ _ H.out.R (by omega) (by omega) (by omega)).mono ?_;rintro e w8 ⟨u,⟨u0,u1⟩,rfl,R8,K8⟩;have H8:=hid (H.out.kept K8 R8);clear K8 R8 H;have c6:=H8.out.L.cell 6 _ rfl;have f6:=H8.out.L.fr 6;have c7:=H8.out.L.cell 7 _ rfl;have f7:=H8.out.L.fr 7;have c8:=H8.out.L.cell 8 _ rfl;have f8:=H8.out.L.fr 8;have c9:=H8.out.L.cell 9 _ rfl;have f9:=H8.out.L.fr 9;have l5:=H8.out.L.lt;go_wp2_with fail;refine(Aj r 4 _ _ ((((H8.out.set 6 (by simp) _).set 7 (by simp) _).set 8 (by simp) _).set 9 (by simp) _).R (by omega) (by omega) (by omega)).mono ?_;rintro e w9 ⟨M,⟨M0,M1⟩,rfl,R9,K9⟩
    have H9:=LvW.kept ((((H8.out.set 6 (by simp) _).set 7 (by simp) _).set 8 (by simp) _).set 9 (by simp) _) K9 R9;clear K9 R9 H8 c6 c7 c8 c9 f6 f7 f8 f9;have H9:=hid H9;obtain⟨M,rfl⟩:=Int.eq_ofNat_of_zero_le M0;have hM:M<4:=by omega
    have hj10:j<=10:=by omega
    clear hlt;go_wp2
    go_loopw [7] (Jw B r k w lb M i (10+t) (x*100) (y*100-500) G j ck (z+500+u*100) (-4000) (z+500+u*100+6000) 4000 b gs) (fun i _=>M-(RowKit.intOf i).toNat)
    case atStart=>exact⟨0,some ⟨wb,0,none⟩,0,[],Nat.zero_le _,rfl,Wok.nil,H9.out.mono (by omega)⟩
    case round =>
     clear H9;obtain⟨j2,A,c,ws,hj2,rfl,HL,H⟩:=hrel;have HL:=hid HL;have H:=hid H;by_cases hlt:j2<M
     . go_wp2_with fail;refine(Aj r 40 _ _ H.out.R (by omega) (by omega) (by omega)).mono ?_;rintro e w5 ⟨a,⟨a0,a1⟩,rfl,R5,K5⟩;have H5:=hid (H.out.kept K5 R5);clear K5 R5 H;go_wp2_with fail;refine(Aj r 20 _ _ H5.out.R (by omega) (by omega) (by omega)).mono ?_;rintro e w6 ⟨d,⟨d0,d1⟩,rfl,R6,K6⟩;have H6:=hid (H5.out.kept K6 R6);clear K6 R6 H5;go_wp2_with fail;refine(Aj r 2 _ _ H6.out.R (by omega) (by omega) (by omega)).mono ?_;rintro e w7 ⟨f,⟨f0,f1⟩,rfl,R7,K7⟩;have H7:=hid (H6.out.kept K7 R7);clear K7 R7 H6;obtain⟨S1,S2⟩:=Jy d0 d1 f0 f1
       have H8:=hid (H7.out.alloc (.cells #[.int .i64 (a*400-2000),.int .i64 ((1500+d*100)*(1-2*f))] 57));have P:PCell (w7.alloc (.cells #[.int .i64 (a*400-2000),.int .i64 ((1500+d*100)*(1-2*f))] 57)) w7.heap.size (a*400-2000) ((1500+d*100)*(1-2*f)):=PCell.new _ _ _ _ _ rfl;have l7:=H7.out.L.lt;have hw7:w.heap.size<w7.heap.size:=by have:=H7.out.lo; omega
       have nr:w7.heap.size≠r:=by omega
       have nl:lb≠w7.heap.size:=by omega
       have s1:=hid (show j2+1<=maxLen by unfold maxLen; omega);have s2:=hid (show(j2+1)*32<=140737488355328 by omega);have nA7:=hid (show(Value.slice A j2 c).ownBlock≠some w7.heap.size from fun e=>by have:=(H7.out.oA.lt _ e).2; omega);clear H7;go_wp2_with fail;generalize hzz:(1500+d*100)*(1-2*f)=zz at *;have hzz:=hid hzz;have c5:=H8.out.L.cell 4 _ rfl;have f5:=H8.out.L.fr 4;have l5:=H8.out.L.lt
       refine wp_region_held_drew (S:=fun w'=>w'.cell? ⟨w7.heap.size,0,none⟩=some (.int .i64 (a*400-2000))/\w'.cell? ⟨w7.heap.size,1,none⟩=some (.int .i64 zz)) (by kernel_rfl) (AU (by repeat (first | with_reducible exact P10 | with_reducible exact P9 | with_reducible exact P | with_reducible refine PCell.far ?_ (by omega) _ _ | with_reducible refine PCell.alloc ?_ _ | with_reducible refine PCell.drew ?_))) (fun hHeld=>?_);refine tl 0 ?_ ?_ hHeld ?_;rotate_left
       . intro w hSw
         try dsimp only at hSw
         go_simp
         all_goals with_reducible rfl
       try simp only[Act.put,sx]
       refine tl 2 ?_ ?_ hHeld ?_;rotate_left
       . intro w hSw
         try dsimp only at hSw
         go_simp
         all_goals with_reducible rfl
       try simp only[Act.put,sx]
       refine tl 3 ?_ ?_ hHeld ?_;rotate_left
       . intro w hSw
         try dsimp only at hSw
         go_simp
         all_goals with_reducible rfl
       try simp only[Act.put,sx]
       refine tl 4 ?_ ?_ hHeld ?_;rotate_left
       . intro w hSw
         try dsimp only at hSw
         go_simp
         all_goals with_reducible rfl
       try simp only[Act.put,sx]
       refine tl 5 ?_ ?_ hHeld ?_;rotate_left
       . intro w hSw
         try dsimp only at hSw
         go_simp
         all_goals with_reducible rfl
       try simp only[Act.put,sx]
       refine tl 6 ?_ ?_ hHeld ?_;rotate_left
       . intro w hSw
         try dsimp only at hSw
         go_simp
         all_goals with_reducible rfl
       try simp only[Act.put,sx]
       refine tl 7 ?_ ?_ hHeld ?_;rotate_left
       . intro w hSw
         try dsimp only at hSw
         go_simp
         all_goals with_reducible rfl
       try simp only[Act.put,sx]
       refine tl 8 ?_ ?_ hHeld ?_;rotate_left
       . intro w hSw
         try dsimp only at hSw
         go_simp
         all_goals with_reducible rfl
       try simp only[Act.put,sx]
       refine tl 9 ?_ ?_ hHeld ?_;rotate_left
       . intro w hSw
         try dsimp only at hSw
         go_simp
         all_goals with_reducible rfl
       try simp only[Act.put,sx]
       refine tl 10 ?_ ?_ hHeld ?_;rotate_left
       . intro w hSw
         try dsimp only at hSw
         go_simp
         all_goals with_reducible rfl
       try simp only[Act.put,sx]
       refine tl 11 ?_ ?_ hHeld ?_;rotate_left
       . intro w hSw
         try dsimp only at hSw
         go_simp
         all_goals with_reducible rfl
       try simp only[Act.put,sx]
       refine tl 15 ?_ ?_ hHeld ?_;rotate_left
       . intro w hSw
         try dsimp only at hSw
         go_simp
         all_goals with_reducible rfl
       try simp only[Act.put,sx]
       refine tl 16 ?_ ?_ hHeld ?_;rotate_left
       . intro w hSw
         try dsimp only at hSw
         go_simp
         all_goals with_reducible rfl
       try simp only[Act.put,sx]
       refine tl 17 ?_ ?_ hHeld ?_;rotate_left
       . intro w hSw
         try dsimp only at hSw
         go_simp
         all_goals with_reducible rfl
       try simp only[Act.put,sx]
       refine wpAnyH_ready (rs:=[1,12]) (by kernel_rfl) (by simp) ?_;refine(AllReadyH.cons (o:=_) rfl (fun K hK=>?_) (AllReadyH.cons (o:=_) rfl (fun K hK=>?_) AllReadyH.nil))
       . skip
         go_simp;refine hK.out _ _ (AU (by repeat (first | with_reducible exact P10 | with_reducible exact P9 | with_reducible exact P | with_reducible refine PCell.far ?_ (by omega) _ _ | with_reducible refine PCell.alloc ?_ _ | with_reducible refine PCell.drew ?_))) (fun hHeld=>?_);clear hK K
         try simp only[Act.put,sx]
         refine wpAnyH_ready (rs:=[12]) (by kernel_rfl) (by simp) ?_;refine(AllReadyH.cons (o:=_) rfl (fun K hK=>?_) AllReadyH.nil);go_simp
         go_at_call 32
         refine(Aj r 30 _ _ (by first | exact H8.out.R.drew | exact H8.out.R) (by omega) (by omega) (by omega)).mono ?_;rintro e w9 ⟨v,⟨v0,v1⟩,rfl,R9,K9⟩;have H9:=hid (LvW.kept (by first | exact H8.out.drew | exact H8.out) K9 R9);have P9:=PCell.kept (by first | with_reducible exact P.drew | with_reducible exact P) K9 nr;clear K9 R9 hHeld;have c9:=H9.out.L.cell 4 _ rfl;have f9:=H9.out.L.fr 4;have l9:=H9.out.L.lt;have s3:=hid (fun ob:Obj=>show w.heap.size+1<=(w9.alloc ob).heap.size by have:=H9.out.L.lt; have:=H9.out.lo; simp; omega);go_wp2_with fail
         refine hK.out _ _ (AU (by repeat (first | with_reducible exact P10 | with_reducible exact P9 | with_reducible exact P | with_reducible refine PCell.far ?_ (by omega) _ _ | with_reducible refine PCell.alloc ?_ _ | with_reducible refine PCell.drew ?_))) (fun hHeld=>?_);clear hK K
         try simp only[Act.put,sx]
         refine tl 13 ?_ ?_ hHeld ?_;rotate_left
         . intro w hSw
           try dsimp only at hSw
           go_simp
           all_goals with_reducible rfl
         try simp only[Act.put,sx]
         refine tl 14 ?_ ?_ hHeld ?_;rotate_left
         . intro w hSw
           try dsimp only at hSw
           go_simp
           all_goals with_reducible rfl
         try simp only[Act.put,sx]
         refine tl 18 ?_ ?_ hHeld ?_;rotate_left
         . intro w hSw
           try dsimp only at hSw
           go_simp
           all_goals with_reducible rfl
         try simp only[Act.put,sx]
         refine tl 19 ?_ ?_ hHeld ?_;rotate_left
         . intro w hSw
           try dsimp only at hSw
           go_simp
           all_goals with_reducible rfl
         try simp only[Act.put,sx]
         refine wpAnyH_ready (rs:=[20]) (by kernel_rfl) (by simp) ?_;refine(AllReadyH.cons (o:=_) rfl (fun K hK=>?_) AllReadyH.nil);go_simp;refine hK.out _ _ (AU (by repeat (first | with_reducible exact P10 | with_reducible exact P9 | with_reducible exact P | with_reducible refine PCell.far ?_ (by omega) _ _ | with_reducible refine PCell.alloc ?_ _ | with_reducible refine PCell.drew ?_))) (fun hHeld=>?_);clear hK K
         try simp only[Act.put,sx]
         refine wpAnyH_ready (rs:=[21]) (by kernel_rfl) (by simp) ?_;refine(AllReadyH.cons (o:=_) rfl (fun K hK=>?_) AllReadyH.nil);refine step_append_lies _ rfl (.tmp 93) (.tmp 112) 58 rfl (w.heap.size+1) 60 i0' (box 0 0 0 0) 4 32 Tryz.underlying58 hi.out hz0.out hz1.out hz2.out rfl (by decide) (.slice A j2 c) j2 (Do ws) (by simp[Act.eval,Act.put]) (H9.out.oA.alloc _) ⟨w9.heap.size,0,none⟩ 1 1 (Do [⟨_,_,_,_⟩]) (by simp[Act.eval,Act.put]) rfl (Boxes.one w9 w9.heap.size _ _ _ _ _ rfl).news (Dp _) (by omega) s1.out s2.out (s3.out _) _ rfl ?_;intro g cap w10 O10 G10 hat hlt10;have H10:=hid (LvW.wall (H9.out.alloc _) O10 G10 hat);have c10:=H10.out.L.cell 4 _ rfl
         have f10:=H10.out.L.fr 4;have l10:=H10.out.L.lt;have P10:=PCell.grown (P9.alloc _) G10 nA7.out;clear O10 G10 hat;refine hK.out _ _ (AU (by repeat (first | with_reducible exact P10 | with_reducible exact P9 | with_reducible exact P | with_reducible refine PCell.far ?_ (by omega) _ _ | with_reducible refine PCell.alloc ?_ _ | with_reducible refine PCell.drew ?_))) (fun hHeld=>?_);clear hK K
         try simp only[Act.put,sx]
         refine tl 22 ?_ ?_ hHeld ?_;rotate_left
         . intro w hSw
           try dsimp only at hSw
           go_simp
           all_goals with_reducible rfl
         try simp only[Act.put,sx]
         refine wpAnyH_ready (rs:=[23]) (by kernel_rfl) (by simp) ?_;refine(AllReadyH.cons (o:=_) rfl (fun K hK=>?_) AllReadyH.nil);go_simp;refine hK.out _ _ (AU (by repeat (first | with_reducible exact P10 | with_reducible exact P9 | with_reducible exact P | with_reducible refine PCell.far ?_ (by omega) _ _ | with_reducible refine PCell.alloc ?_ _ | with_reducible refine PCell.drew ?_))) (fun hHeld=>?_);clear hK K
         try simp only[Act.put,sx]
         refine wpAnyH_done (by kernel_rfl) ?_ _;go_wp2
         go_roundw
         case rel=>exact⟨j2+1,some ⟨g,0,none⟩,cap,_,by omega,by go_num,HL.out.snoc (by first | omega | ((try simp(disch:=omega) only[wrap_small]); omega)),(H10.out.set 4 (by simp) _).mono (by omega)⟩
         case measure=>simp[RowKit.intOf]; omega
       . skip
         go_simp
         go_at_call 32
         refine(Aj r 30 _ _ (by first | exact H8.out.R.drew | exact H8.out.R) (by omega) (by omega) (by omega)).mono ?_;rintro e w9 ⟨v,⟨v0,v1⟩,rfl,R9,K9⟩;have H9:=hid (LvW.kept (by first | exact H8.out.drew | exact H8.out) K9 R9);have P9:=PCell.kept (by first | with_reducible exact P.drew | with_reducible exact P) K9 nr;clear K9 R9 hHeld;have c9:=H9.out.L.cell 4 _ rfl;have f9:=H9.out.L.fr 4;have l9:=H9.out.L.lt;have s3:=hid (fun ob:Obj=>show w.heap.size+1<=(w9.alloc ob).heap.size by have:=H9.out.L.lt; have:=H9.out.lo; simp; omega);go_wp2_with fail
         refine hK.out _ _ (AU (by repeat (first | with_reducible exact P10 | with_reducible exact P9 | with_reducible exact P | with_reducible refine PCell.far ?_ (by omega) _ _ | with_reducible refine PCell.alloc ?_ _ | with_reducible refine PCell.drew ?_))) (fun hHeld=>?_);clear hK K
         try simp only[Act.put,sx]
         refine tl 13 ?_ ?_ hHeld ?_;rotate_left
         . intro w hSw
           try dsimp only at hSw
           go_simp
           all_goals with_reducible rfl
         try simp only[Act.put,sx]
         refine tl 14 ?_ ?_ hHeld ?_;rotate_left
         . intro w hSw
           try dsimp only at hSw
           go_simp
           all_goals with_reducible rfl
         try simp only[Act.put,sx]
         refine tl 18 ?_ ?_ hHeld ?_;rotate_left
         . intro w hSw
           try dsimp only at hSw
           go_simp
           all_goals with_reducible rfl
         try simp only[Act.put,sx]
         refine tl 19 ?_ ?_ hHeld ?_;rotate_left
         . intro w hSw
           try dsimp only at hSw
           go_simp
           all_goals with_reducible rfl
         try simp only[Act.put,sx]
         refine wpAnyH_ready (rs:=[1,20]) (by kernel_rfl) (by simp) ?_;refine(AllReadyH.cons (o:=_) rfl (fun K hK=>?_) (AllReadyH.cons (o:=_) rfl (fun K hK=>?_) AllReadyH.nil))
         . skip
           go_simp;refine hK.out _ _ (AU (by repeat (first | with_reducible exact P10 | with_reducible exact P9 | with_reducible exact P | with_reducible refine PCell.far ?_ (by omega) _ _ | with_reducible refine PCell.alloc ?_ _ | with_reducible refine PCell.drew ?_))) (fun hHeld=>?_);clear hK K
           try simp only[Act.put,sx]
           refine wpAnyH_ready (rs:=[20]) (by kernel_rfl) (by simp) ?_;refine(AllReadyH.cons (o:=_) rfl (fun K hK=>?_) AllReadyH.nil);go_simp;refine hK.out _ _ (AU (by repeat (first | with_reducible exact P10 | with_reducible exact P9 | with_reducible exact P | with_reducible refine PCell.far ?_ (by omega) _ _ | with_reducible refine PCell.alloc ?_ _ | with_reducible refine PCell.drew ?_))) (fun hHeld=>?_);clear hK K
           try simp only[Act.put,sx]
           refine wpAnyH_ready (rs:=[21]) (by kernel_rfl) (by simp) ?_;refine(AllReadyH.cons (o:=_) rfl (fun K hK=>?_) AllReadyH.nil);refine step_append_lies _ rfl (.tmp 93) (.tmp 112) 58 rfl (w.heap.size+1) 60 i0' (box 0 0 0 0) 4 32 Tryz.underlying58 hi.out hz0.out hz1.out hz2.out rfl (by decide) (.slice A j2 c) j2 (Do ws) (by simp[Act.eval,Act.put]) (H9.out.oA.alloc _) ⟨w9.heap.size,0,none⟩ 1 1 (Do [⟨_,_,_,_⟩]) (by simp[Act.eval,Act.put]) rfl (Boxes.one w9 w9.heap.size _ _ _ _ _ rfl).news (Dp _) (by omega) s1.out s2.out (s3.out _) _ rfl ?_;intro g cap w10 O10 G10 hat hlt10;have H10:=hid (LvW.wall (H9.out.alloc _) O10 G10 hat);have c10:=H10.out.L.cell 4 _ rfl
           have f10:=H10.out.L.fr 4;have l10:=H10.out.L.lt;have P10:=PCell.grown (P9.alloc _) G10 nA7.out;clear O10 G10 hat;refine hK.out _ _ (AU (by repeat (first | with_reducible exact P10 | with_reducible exact P9 | with_reducible exact P | with_reducible refine PCell.far ?_ (by omega) _ _ | with_reducible refine PCell.alloc ?_ _ | with_reducible refine PCell.drew ?_))) (fun hHeld=>?_);clear hK K
           try simp only[Act.put,sx]
           refine tl 22 ?_ ?_ hHeld ?_;rotate_left
           . intro w hSw
             try dsimp only at hSw
             go_simp
             all_goals with_reducible rfl
           try simp only[Act.put,sx]
           refine wpAnyH_ready (rs:=[23]) (by kernel_rfl) (by simp) ?_;refine(AllReadyH.cons (o:=_) rfl (fun K hK=>?_) AllReadyH.nil);go_simp;refine hK.out _ _ (AU (by repeat (first | with_reducible exact P10 | with_reducible exact P9 | with_reducible exact P | with_reducible refine PCell.far ?_ (by omega) _ _ | with_reducible refine PCell.alloc ?_ _ | with_reducible refine PCell.drew ?_))) (fun hHeld=>?_);clear hK K
           try simp only[Act.put,sx]
           refine wpAnyH_done (by kernel_rfl) ?_ _;go_wp2
           go_roundw
           case rel=>exact⟨j2+1,some ⟨g,0,none⟩,cap,_,by omega,by go_num,HL.out.snoc (by first | omega | ((try simp(disch:=omega) only[wrap_small]); omega)),(H10.out.set 4 (by simp) _).mono (by omega)⟩
           case measure=>simp[RowKit.intOf]; omega
         . skip
           go_simp;refine hK.out _ _ (AU (by repeat (first | with_reducible exact P10 | with_reducible exact P9 | with_reducible exact P | with_reducible refine PCell.far ?_ (by omega) _ _ | with_reducible refine PCell.alloc ?_ _ | with_reducible refine PCell.drew ?_))) (fun hHeld=>?_);clear hK K
           try simp only[Act.put,sx]
           refine wpAnyH_ready (rs:=[1]) (by kernel_rfl) (by simp) ?_;refine(AllReadyH.cons (o:=_) rfl (fun K hK=>?_) AllReadyH.nil);go_simp;refine hK.out _ _ (AU (by repeat (first | with_reducible exact P10 | with_reducible exact P9 | with_reducible exact P | with_reducible refine PCell.far ?_ (by omega) _ _ | with_reducible refine PCell.alloc ?_ _ | with_reducible refine PCell.drew ?_))) (fun hHeld=>?_);clear hK K
           try simp only[Act.put,sx]
           refine wpAnyH_ready (rs:=[21]) (by kernel_rfl) (by simp) ?_;refine(AllReadyH.cons (o:=_) rfl (fun K hK=>?_) AllReadyH.nil);refine step_append_lies _ rfl (.tmp 93) (.tmp 112) 58 rfl (w.heap.size+1) 60 i0' (box 0 0 0 0) 4 32 Tryz.underlying58 hi.out hz0.out hz1.out hz2.out rfl (by decide) (.slice A j2 c) j2 (Do ws) (by simp[Act.eval,Act.put]) (H9.out.oA.alloc _) ⟨w9.heap.size,0,none⟩ 1 1 (Do [⟨_,_,_,_⟩]) (by simp[Act.eval,Act.put]) rfl (Boxes.one w9 w9.heap.size _ _ _ _ _ rfl).news (Dp _) (by omega) s1.out s2.out (s3.out _) _ rfl ?_;intro g cap w10 O10 G10 hat hlt10;have H10:=hid (LvW.wall (H9.out.alloc _) O10 G10 hat);have c10:=H10.out.L.cell 4 _ rfl
           have f10:=H10.out.L.fr 4;have l10:=H10.out.L.lt;have P10:=PCell.grown (P9.alloc _) G10 nA7.out;clear O10 G10 hat;refine hK.out _ _ (AU (by repeat (first | with_reducible exact P10 | with_reducible exact P9 | with_reducible exact P | with_reducible refine PCell.far ?_ (by omega) _ _ | with_reducible refine PCell.alloc ?_ _ | with_reducible refine PCell.drew ?_))) (fun hHeld=>?_);clear hK K
           try simp only[Act.put,sx]
           refine tl 22 ?_ ?_ hHeld ?_;rotate_left
           . intro w hSw
             try dsimp only at hSw
             go_simp
             all_goals with_reducible rfl
           try simp only[Act.put,sx]
           refine wpAnyH_ready (rs:=[23]) (by kernel_rfl) (by simp) ?_;refine(AllReadyH.cons (o:=_) rfl (fun K hK=>?_) AllReadyH.nil);go_simp;refine hK.out _ _ (AU (by repeat (first | with_reducible exact P10 | with_reducible exact P9 | with_reducible exact P | with_reducible refine PCell.far ?_ (by omega) _ _ | with_reducible refine PCell.alloc ?_ _ | with_reducible refine PCell.drew ?_))) (fun hHeld=>?_);clear hK K
           try simp only[Act.put,sx]
           refine wpAnyH_done (by kernel_rfl) ?_ _;go_wp2
           go_roundw
           case rel=>exact⟨j2+1,some ⟨g,0,none⟩,cap,_,by omega,by go_num,HL.out.snoc (by first | omega | ((try simp(disch:=omega) only[wrap_small]); omega)),(H10.out.set 4 (by simp) _).mono (by omega)⟩
           case measure=>simp[RowKit.intOf]; omega
     . go_wp2_with fail;refine(Aj r 6 _ _ H.out.R (by omega) (by omega) (by omega)).mono ?_;rintro e w5 ⟨a,⟨a0,a1⟩,rfl,R5,K5⟩;have H5:=hid (H.out.kept K5 R5);clear K5 R5 H;have n1:lb≠w.heap.size:=by have:=H5.out.lo; omega
       have n2:w.heap.size≠lb:=by omega
       have j4:(j2:Int)<4:=by omega
       by_cases ha:a=0
       . subst ha;have s1:=hid (show j2+1<=maxLen by unfold maxLen; omega);have s2:=hid (show(j2+1)*32<=140737488355328 by omega);have s3:=hid (fun ob:Obj=>show w.heap.size+1<=(w5.alloc ob).heap.size by have:=H5.out.L.lt; have:=H5.out.lo; simp; omega);have c4:=H5.out.L.cell 4 _ rfl;have l4':=H5.out.L.lt
         go_wp2_with (at_builtin; refine wpList_append_lies _ rfl _ _ 58 rfl (w.heap.size+1) 60 i0' (box 0 0 0 0) 4 32 Tryz.underlying58 hi.out hz0.out hz1.out hz2.out rfl (by decide) (.slice A j2 c) j2 (Do ws) rfl (H5.out.oA.alloc _) ⟨w5.heap.size,0,none⟩ 1 1 (Do [⟨_,_,_,_⟩]) rfl rfl (Boxes.one w5 w5.heap.size _ _ _ _ _ rfl).news (Dp _) (by omega) s1.out s2.out (s3.out _) _ rfl ?_);intro g cap w10 O10 G10 hat hlt10;have H10:=hid (LvW.wall (H5.out.alloc _) O10 G10 (by simpa using hat));clear O10 G10 hat H5 c4 l4' s1 s2 s3;have c4:=H10.out.L.cell 4 _ rfl;have f4:=H10.out.L.fr 4;go_upto_region 19 with fail;refine wp_region_lit ?_
         refine Ag rfl 62 (.tmp 3) rfl lb rfl (AW i (10+t) (x*100) (y*100-500) (some ⟨g,0,none⟩) (j2+1) cap G j ck (z+500+u*100) (-4000) (z+500+u*100+6000) 4000 b) (H10.out.set 4 (by simp) _).L Tryz.underlying62 rfl Am ?_;refine Av rfl 62 (.tmp 2) (.tmp 136) rfl w.heap.size rfl (AW i (10+t) (x*100) (y*100-500) (some ⟨g,0,none⟩) (j2+1) cap G j ck (z+500+u*100) (-4000) (z+500+u*100+6000) 4000 b) rfl _ (H10.out.set 4 (by simp) _).D (by simp) Am rfl ?_;go_wp2
         exact bodyPost_ret (v:=Fq i (10+t) (x*100) (y*100-500) (some ⟨g,0,none⟩) (j2+1) cap G j ck (z+500+u*100) (-4000) (z+500+u*100+6000) 4000 b) (Ai rfl w.heap.size rfl (AW i (10+t) (x*100) (y*100-500) (some ⟨g,0,none⟩) (j2+1) cap G j ck (z+500+u*100) (-4000) (z+500+u*100+6000) 4000 b) ((H10.out.set 4 (by simp) _).D.all _ (by simp)) Tryz.underlying62 rfl Am) rfl (LvW.out (k:=k) (H10.out.set 4 (by simp) _) (by omega) (by omega) hj10 (HL.out.snoc (by first | omega | ((try simp(disch:=omega) only[wrap_small]); omega))) (by unfold FF; omega) (Cq _ 0 (Kept.refl _ _)))
       . have hd:(a==0)=false:=beq_eq_false_iff_ne.2 ha;clear ha;go_upto_region 19 with fail;refine wp_region_lit ?_;refine Ag rfl 62 (.tmp 3) rfl lb rfl (AW i (10+t) (x*100) (y*100-500) A j2 c G j ck (z+500+u*100) (-4000) (z+500+u*100+6000) 4000 b) (H5.out).L Tryz.underlying62 rfl Am ?_;refine Av rfl 62 (.tmp 2) (.tmp 136) rfl w.heap.size rfl (AW i (10+t) (x*100) (y*100-500) A j2 c G j ck (z+500+u*100) (-4000) (z+500+u*100+6000) 4000 b) rfl _ (H5.out).D (by simp) Am rfl ?_;go_wp2
         exact bodyPost_ret (v:=Fq i (10+t) (x*100) (y*100-500) A j2 c G j ck (z+500+u*100) (-4000) (z+500+u*100+6000) 4000 b) (Ai rfl w.heap.size rfl (AW i (10+t) (x*100) (y*100-500) A j2 c G j ck (z+500+u*100) (-4000) (z+500+u*100+6000) 4000 b) ((H5.out).D.all _ (by simp)) Tryz.underlying62 rfl Am) rfl (LvW.out (k:=k) H5.out (by omega) (by omega) hj10 HL.out (by unfold FF; omega) (Cq _ 0 (Kept.refl _ _)))
theorem Da{B:Nat}(r:Nat)(k:Int)(w:World)(R:RdU B w r k)(hk:k<=70000) :
 Calls Tryz.prog 53 #[.pointer (some ⟨r,0,none⟩)] w (Jv B r k w) :=
 (FG r k w R hk).mono fun e w' ⟨i,t,x,y,A,n,c,G,m,kk,p,q,s,z,b,ws,gs,_,h⟩=>⟨i,t,x,y,A,n,c,G,m,kk,p,q,s,z,b,ws,gs,h⟩
end Go.Proofs.YtgbiagonfbnooaaGreatDoor
