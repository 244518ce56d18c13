import Derived.Test.YtaemcekcancpdabGreatDoorZCelS
set_option linter.all false
set_option maxRecDepth 100000
set_option maxHeartbeats 8000000
open Go.Lib
namespace Go.Proofs.YtaemcekcancpdabGreatDoor
open Go.RowKit
open M
structure ICell(w:World)(b:Nat)(x:Int):Prop where
 c0:w.cell? ⟨b,0,none⟩=some (.int .i64 x)
 f0:w.frozen? ⟨b,0,none⟩=false
 lt:b<w.heap.size
theorem ICell.of{W w':World}{b:Nat}{x:Int}(h:ICell W b x)(e:w'.heap[b]?=W.heap[b]?)(hs:W.heap.size<=w'.heap.size):ICell w' b x :=
 ⟨(World.cell?_of_block (a:=⟨b,0,none⟩) e).trans h.c0,(World.frozen?_of_block (a:=⟨b,0,none⟩) e).trans h.f0,Nat.lt_of_lt_of_le h.lt hs⟩
theorem ICell.step{W w':World}{b:Nat}{x:Int}(h:ICell W b x)(B:Below W.heap.size W w'):ICell w' b x:=h.of (B.block b h.lt) B.size
theorem ICell.alloc{W:World}{b:Nat}{x:Int}(h:ICell W b x)(o:Obj):ICell (W.alloc o) b x:=h.step (Aa (Ac W) o)
theorem ICell.drew{W:World}{b:Nat}{x:Int}(h:ICell W b x):ICell W.drew b x:=⟨h.c0,h.f0,h.lt⟩
theorem ICell.new(W:World)(b:Nat)(x:Int)(ty:TypeId)(hb:b=W.heap.size):ICell (W.alloc (.cells #[.int .i64 x] ty)) b x:=by
 subst hb;exact⟨by simp,by simp,by simp⟩
theorem ICell.set{W:World}{b:Nat}{x:Int}(h:ICell W b x)(z:Int):ICell (W.setCell ⟨b,0,none⟩ (.int .i64 z)) b z :=
 ⟨World.cell?_setCell_same' _ _ _ (by rw[h.c0]; rfl),(by rw[World.frozen?_setCell]; exact h.f0),(by rw[World.size_setCell]; exact h.lt)⟩
theorem Kept.mine{r:Nat}{w a:World}(h:Kept r w a)(o:Nat)(v:Value):Kept r w (a.setCell ⟨r,o,none⟩ v) :=
 ⟨h.os,h.tape,h.output,by simpa[World.setCell] using h.size,fun k hk hr=>(Below.heap_setCell a ⟨r,o,none⟩ v k hr).trans (h.block k hk hr)⟩
theorem Kept.drewd{r:Nat}{w a:World}(h:Kept r w a):Kept r w a.drew:=⟨h.os,h.tape,h.output,h.size,h.block⟩
def Off(A:Option Addr)(n b:Nat):Prop:=0<n->∀ k off,A=some ⟨k,off,none⟩->k≠b
theorem Ints.kept{w w':World}{A:Option Addr}{n r:Nat}{xs:List Int}(h:Ints w A n xs)(K:Kept r w w')(hA:Off A n r):Ints w' A n xs :=
 ⟨h.1,fun hn=>by
  obtain⟨b,off,e,hb,hc⟩:=h.2 hn;exact⟨b,off,e,Nat.lt_of_lt_of_le hb K.size,fun k hk=>(K.cell (p:=⟨b,off+k,none⟩) hb (hA hn b off e)).trans (hc k hk)⟩⟩
theorem Ints.off{w:World}{A:Option Addr}{n:Nat}{xs:List Int}(h:Ints w A n xs){b:Nat}(hb:w.heap.size<=b):Off A n b:=fun hn k off e=>by
 obtain⟨b',off',e',hb',_⟩:=h.2 hn;rw[e'] at e;cases e
 omega
theorem implOk'(n:Int)(b:Bool)(w:World)(h:okB n=b):Calls Tryz.prog 130 #[.int .i64 n] w fun e w'=>e=.returned (.bool b)/\w=w':=by
 subst h;exact HU n w
theorem SB{n:Int}(h:n.tmod 1000003<0):n % 1000003=n.tmod 1000003+1000003:=by
 have e:=@Int.tmod_eq_emod n 1000003;by_cases c:0<=n\/(1000003:Int) ∣ n
 . rw[if_pos c] at e;omega
 . rw[if_neg c] at e;omega
theorem Qz{n:Int}(h:0<=n.tmod 1000003):n % 1000003=n.tmod 1000003:=by
 have e:=@Int.tmod_eq_emod n 1000003;by_cases c:0<=n\/(1000003:Int) ∣ n
 . rw[if_pos c] at e;omega
 . rw[if_neg c] at e;omega
theorem SC(n r:Int)(w:World)(hr:n % 1000003=r):Calls Tryz.prog 69 #[.int .i64 n] w fun e w'=>e=.returned (.int .i64 r)/\w=w':=by
 have t1:-1000003<n.tmod 1000003:=Int.lt_tmod_of_pos n (by omega);have t2:n.tmod 1000003<1000003:=Int.tmod_lt_of_pos n (by omega);by_cases h:n.tmod 1000003<0
 . have E:=hid (hr.symm.trans (SB h));clear hr;go_enter Tryz.func69,Tryz.ntmps69;go_wp2;go_ret;exact⟨AX (by rw[E.out]),rfl⟩
 . have E:=hid (hr.symm.trans (Qz (by omega)));clear hr;go_enter Tryz.func69,Tryz.ntmps69;go_wp2;go_ret;exact⟨AX (by rw[E.out]),rfl⟩
def SD(w:World)(b n:Nat)(h:Int)(xs:List Int)(i:Value)(W:World):Prop :=
 ∃ k:Nat,k<=n/\i=.int .i64 k/\ICell W b (GL h (xs.take k))/\Kept b w W
def Vt(w:World)(b:Nat)(v:Int)(e:Ending)(w':World):Prop:=e=.returned (.int .i64 v)/\ICell w' b v/\Kept b w w'
theorem QA(h:Int)(A:Option Addr)(n cap b:Nat)(xs:List Int)(w:World)(h0:0<=h)(h1:h<1000003)(I:Ints w A n xs)(hA:Off A n b)(C:ICell w b h)(hn:n<=281474976710656) :
 Calls Tryz.prog 68 #[.slice A n cap,.pointer (some ⟨b,0,none⟩)] w (Vt w b (GL h xs)):=by
 have I:=hid I;have hA:=hid hA;have C:=hid C;go_enter Tryz.func68,Tryz.ntmps68;go_wp2
 go_loopw [8] (SD w b n h xs) (fun i _=>n-(intOf i).toNat)
 case atStart=>exact⟨0,Nat.zero_le _,rfl,C.out,Kept.refl _ _⟩
 case round =>
  obtain⟨k,hk,rfl,D,K⟩:=hrel;clear C;obtain⟨b0,b1⟩:=Pm h0 h1 (xs.take k);have hl:=hid I.out.1;by_cases hlt:k<n
  . obtain⟨b',off,rfl,hb,hcell⟩:=(I.out.kept K hA.out).2 (by omega);have hck:=hcell k hlt;have HS:=hid (KF (h:=h) (xs:=xs) (k:=k) (by have:=hl.out; omega));clear hcell;generalize xs.getD k 0=z at *;generalize GL h (xs.take k)=v at *;obtain⟨r,er⟩:∃ r,z % 1000003=r:=⟨_,rfl⟩;have r0:0<=r:=by omega
    have r1:r<1000003:=by omega
    have HS:=hid (show GL h (List.take (k+1) xs)=(v*8191+r+1) % 1000003 by rw[HS.out,<- er]; unfold Ri; rw[Int.mul_comm]);have er:=hid er;have K:=hid K;have dc:=D.c0;have df:=D.f0;have dl:=D.lt;go_wp2_with fail
    go_region_with ((go_at_call 69; (with_reducible refine(SC _ r _ er.out).mono ?_); rintro e wn ⟨rfl,rfl⟩))
    all_goals
     go_wp2
     go_roundw
     case rel=>exact⟨k+1,by omega,by go_num,by rw[HS.out]; repeat (first | with_reducible exact D.set _ | with_reducible refine ICell.drew ?_ | with_reducible exact(ICell.drew D).set _ | with_reducible exact(ICell.drew (ICell.drew D)).set _),by repeat (first | with_reducible exact K.out | with_reducible refine Kept.mine ?_ _ _ | with_reducible refine Kept.drewd ?_)⟩
     case measure=>simp[intOf]; omega
  . have e:(xs.take k)=xs:=List.take_of_length_le (by have:=hl.out; omega);rw[e] at D;have dc:=D.c0;have K:=hid K;go_wp2;go_ret;exact⟨rfl,D,K.out⟩
theorem OI(w:World):Calls Tryz.prog 38 #[] w fun e w'=>e=.returned (.func (.func 68) #[] #[.pointer (some ⟨w.heap.size,0,none⟩)])/\ICell w' w.heap.size 17/\Below w.heap.size w w':=by
 have hmf:∀(fn:Fn) (first cap:Array Value) (w:World),(Instr.makeFunc fn first cap).run Tryz.prog w=.ok (.func fn first cap) w:=fun _ _ _ _=>rfl;go_enter Tryz.func38,Tryz.ntmps38;go_wp2;go_ret;exact⟨rfl,ICell.new _ _ _ _ rfl,Aa (Ac _) _⟩
open Go.RowKit
open M
structure M.Pt where
 x:Int
 y:Int
def M.pz:Pt:=⟨0,0⟩
structure PtAt(w:World)(b o:Nat)(q:Pt):Prop where
 c0:w.cell? ⟨b,o,none⟩=some (.int .i64 q.x)
 c1:w.cell? ⟨b,o+1,none⟩=some (.int .i64 q.y)
def Points(w:World)(A:Option Addr)(n:Nat)(xs:List Pt):Prop :=
 xs.length=n/\(0<n->∃ b off,A=some ⟨b,off,none⟩/\b<w.heap.size/\∀ k,k<n->PtAt w b (off+k*2) (xs.getD k pz))
theorem PtAt.of{w w':World}{b o:Nat}{q:Pt}(h:PtAt w b o q)(e:w'.heap[b]?=w.heap[b]?):PtAt w' b o q :=
 ⟨(World.cell?_of_block (a:=⟨b,o,none⟩) e).trans h.c0,(World.cell?_of_block (a:=⟨b,o+1,none⟩) e).trans h.c1⟩
theorem Points.step{w w':World}{A:Option Addr}{n:Nat}{xs:List Pt}(h:Points w A n xs)(B:Below w.heap.size w w'):Points w' A n xs :=
 ⟨h.1,fun hn=>by
  obtain⟨b,off,e,hb,hc⟩:=h.2 hn;exact⟨b,off,e,Nat.lt_of_lt_of_le hb B.size,fun k hk=>(hc k hk).of (B.block b hb)⟩⟩
theorem Points.alloc{w:World}{A:Option Addr}{n:Nat}{xs:List Pt}(h:Points w A n xs)(o:Obj):Points (w.alloc o) A n xs:=h.step (Aa (Ac w) o)
theorem Points.drew{w:World}{A:Option Addr}{n:Nat}{xs:List Pt}(h:Points w A n xs):Points w.drew A n xs:=h.step (Ac w).drew
theorem Points.nil(w:World)(A:Option Addr):Points w A 0 []:=⟨rfl,fun h=>absurd h (by omega)⟩
theorem Points.kept{w w':World}{A:Option Addr}{n r:Nat}{xs:List Pt}(h:Points w A n xs)(K:Kept r w w')(hA:0<n->∀ k off,A=some ⟨k,off,none⟩->k≠r):Points w' A n xs :=
 ⟨h.1,fun hn=>by
  obtain⟨b,off,e,hb,hc⟩:=h.2 hn;exact⟨b,off,e,Nat.lt_of_lt_of_le hb K.size,fun k hk=>(hc k hk).of (K.block b hb (hA hn b off e))⟩⟩
theorem Points.grown{W w':World}{A:Option Addr}{n:Nat}{xs:List Pt}{row:Option Nat}(h:Points W A n xs)(hg:W.grownBy w' row)(hr:0<n->∀ k off,A=some ⟨k,off,none⟩->row≠some k):Points w' A n xs :=
 ⟨h.1,fun hn=>by
  obtain⟨b,off,e,hb,hc⟩:=h.2 hn;exact⟨b,off,e,Nat.lt_of_lt_of_le hb hg.size,fun k hk=>(hc k hk).of (hg.block b hb (fun e'=>hr hn b off e e'.symm))⟩⟩
theorem Points.lt{w:World}{A:Option Addr}{n:Nat}{xs:List Pt}(h:Points w A n xs)(hn:0<n):∀ k off,A=some ⟨k,off,none⟩->k<w.heap.size:=fun k off e=>by
 obtain⟨b,off',e',hb,_⟩:=h.2 hn;rw[e'] at e;cases e
 exact hb
theorem Points.take{w:World}{A:Option Addr}{n:Nat}{xs:List Pt}(h:Points w A n xs){j:Nat}(hj:j<=n):Points w A j (xs.take j) :=
 ⟨by rw[List.length_take,h.1]; omega,fun h0=>by
  obtain⟨b,off,e,hb,hc⟩:=h.2 (by omega);refine⟨b,off,e,hb,fun k hk=>?_⟩;have t:=hc k (by omega);have e2:(xs.take j).getD k pz=xs.getD k pz:=by simp[List.getD_eq_getElem?_getD,List.getElem?_take,hk]
  rw[e2];exact t⟩
def Hk:List Pt->List Value
 | []=>[]
 | q::xs=>.int .i64 q.x::.int .i64 q.y::Hk xs
def Wm(q:Pt):Nat->Value
 | 0=>.int .i64 q.x
 | _=>.int .i64 q.y
theorem Wh:∀(xs:List Pt) (k r:Nat),k<xs.length->r<2->(Hk xs)[k*2+r]?=some (Wm (xs.getD k pz) r)
 | [],k,r,h,_=>absurd h (by simp)
 | q::xs,0,r,_,hr=>by
  match r,hr with
  | 0,_=>rfl
  | 1,_=>rfl
 | q::xs,k+1,r,h,hr=>by
  have t:=Wh xs k r (by simpa using h) hr;have e:(k+1)*2+r=(k*2+r)+1+1:=by omega
  rw[e];simp only[Hk,List.getElem?_cons_succ];rw[t];rfl
theorem Hz:∀ xs:List Pt,(Hk xs).length=xs.length*2
 | []=>rfl
 | q::xs=>by simp only[Hk,List.length_cons,Hz xs]; omega
theorem IE:∀ qs xs:List Pt,Hk (qs++xs)=Hk qs++Hk xs
 | [],_=>rfl
 | q::qs,xs=>by simp only[List.cons_append,Hk,IE qs xs]
theorem Wi:∀ xs:List Pt,∀ u∈Hk xs,u.oneCell'=true
 | [],u,h=>by cases h
 | q::xs,u,h=>by
  simp only[Hk,List.mem_cons] at h;rcases h with rfl | rfl | h
  . rfl
  . rfl
  . exact Wi xs u h
theorem PtAt.comp{w:World}{b o:Nat}{q:Pt}(h:PtAt w b o q){r:Nat}(hr:r<2):w.cell? ⟨b,o+r,none⟩=some (Wm q r):=by
 match r,hr with
 | 0,_=>exact h.c0
 | 1,_=>exact h.c1
theorem Points.news{w:World}{b off m:Nat}{xs:List Pt}(I:Points w (some ⟨b,off,Option.none⟩) m xs):∀ j u,(Hk xs)[j]?=some u->w.cell? ((⟨b,off,Option.none⟩:Addr).add j)=some u:=by
 intro j u hj;have hl:j<xs.length*2:=by
  rw[<- Hz];rcases Nat.lt_or_ge j (Hk xs).length with h | h
  . exact h
  . rw[List.getElem?_eq_none h] at hj; cases hj
 obtain⟨b',off',e,_,hc⟩:=I.2 (by have:=I.1; omega);cases e
 have ej:j=(j / 2)*2+j % 2:=by omega
 have hk:j / 2<xs.length:=by omega
 rw[ej,Wh xs _ _ hk (by omega)] at hj;cases hj
 rw[Addr.add_lit];have t:=(hc (j / 2) (by have:=I.1; omega)).comp (r:=j % 2) (by omega);rw[Nat.add_assoc,<- ej] at t;exact t
theorem Points.of_own{w:World}{base:Nat}{e:TypeId}{v:Value}{n:Nat}{xs:List Pt}(h:w.ownsRow base e 2 v n (Hk xs)):∃ A cap,v=.slice A n cap/\Points w A n xs/\(∀ g off,A=some ⟨g,off,none⟩->base<=g):=by
 have hl:xs.length=n:=by have:=h.1; rw[Hz] at this; omega
 have h0:=h;rcases h0.2 with⟨rfl,rfl⟩ | ⟨g,cap,cur,rfl,hbg,hh,_⟩
 . exact⟨none,0,rfl,⟨hl,fun hn=>by omega⟩,fun g off e=>by cases e⟩
 . refine⟨_,_,rfl,⟨hl,fun _=>⟨g,0,rfl,(h.lt g rfl).2,fun k hk=>?_⟩⟩,fun g' off e=>by cases e; exact hbg⟩;have hc:∀ r,r<2->w.cell? ⟨g,0+k*2+r,none⟩=some (Wm (xs.getD k pz) r):=fun r hr=>by
    rw[Nat.zero_add,h.cellAt (k*2+r) (by omega),Wh xs _ _ (by omega) hr]
   exact⟨hc 0 (by omega),hc 1 (by omega)⟩
theorem P2:(Tryz.prog.info? 24).map (fun i=>(i.zero,i.size,i.bytes))=some (some (Bu 0 0),2,16):=by kernel_rfl
theorem Ho(w:World)(base:Nat)(ty:TypeId)(v:Value)(n:Nat)(xs:List Value)(hown:w.ownsRow base 24 2 v n xs)(c:Nat) :
 (Builtin.append_ #[40,40] ty #[v,.slice none 0 c]).run Tryz.prog w=.ok v w:=by
 obtain⟨i0,hi,hz0,hz1,hz2⟩:=info_parts P2;rcases hown.2 with⟨rfl,rfl⟩ | ⟨g,cap,cur,rfl,_,_,hnc,_⟩
 . simp[Builtin.append_,run_underlying Tryz.underlying40,sizeOf,typeInfo,hi,Builtin.lenOf,Builtin.firstCells]
 . simp[Builtin.append_,run_underlying Tryz.underlying40,sizeOf,typeInfo,hi,Builtin.lenOf,Builtin.firstCells,hnc,storeCells]
theorem Hl(w:World)(base:Nat)(ty:TypeId)(v:Value)(n:Nat)(qs:List Pt)(hown:w.ownsRow base 24 2 v n (Hk qs))(A:Option Addr)(m c:Nat)(xs:List Pt)(I:Points w A m xs)
 (hn:n+m<=10000000) (hb:base<=w.heap.size) :
 ∃ v' w',(Builtin.append_ #[40,40] ty #[v,.slice A m c]).run Tryz.prog w=.ok v' w'/\w'.ownsRow base 24 2 v' (n+m) (Hk (qs++xs))/\w.grownBy w' v.ownBlock/\(v'.ownBlock=v.ownBlock\/v'.ownBlock=some w.heap.size):=by
 obtain⟨i0,hi,hz0,hz1,hz2⟩:=info_parts P2;by_cases h:∃ b off,A=some ⟨b,off,Option.none⟩
 . obtain⟨b,off,rfl⟩:=h;obtain⟨v',w',hr,h2,h3,_,h5⟩:=run_append_own_at (P:=Tryz.prog) w base 40 ty 24 i0 (Bu 0 0) 2 16 Tryz.underlying40 hi hz0 hz1 hz2 rfl (by decide) v n _ hown ⟨b,off,Option.none⟩ m c (Hk xs) (by rw[Hz,I.1]) I.news (Wi _) (by unfold maxLen; omega) (by omega) hb;exact⟨v',w',hr,by rw[IE]; exact h2,h3,h5⟩
 . have hm:m=0:=by
    rcases Nat.eq_zero_or_pos m with h0 | h0
    . exact h0
    . obtain⟨b,off,e,_⟩:=I.2 h0;exact(h ⟨b,off,e⟩).elim
   subst hm;have hy:xs=[]:=List.eq_nil_of_length_eq_zero I.1;subst hy;cases A with
   | none=>exact⟨v,w,Ho w base ty v n _ hown c,by simpa using hown,World.grownBy.refl w _,.inl rfl⟩
   | some ad =>
    obtain⟨v',w',hr,h2,h3,_,h5⟩:=run_append_own_at (P:=Tryz.prog) w base 40 ty 24 i0 (Bu 0 0) 2 16 Tryz.underlying40 hi hz0 hz1 hz2 rfl (by decide) v n _ hown ad 0 c [] rfl (fun j u hj=>by simp at hj) (fun u hu=>by simp at hu) (by unfold maxLen; omega) (by omega) hb;exact⟨v',w',hr,by simpa using h2,h3,h5⟩
theorem S9(w:World){ops:Array Oper}{rest:List Oper}{o:Oper}{a:Act}{Q:Exit->Act->World->Prop}(hgd:o.guard=Option.none)(s x:Operand)
 (ho:o.op=.call { callee:=.builtin .append,args:=#[s,x],argTypes:=#[40,40] }) (base:Nat) (v:Value) (n:Nat) (qs:List Pt) (hs:a.eval s=v) (hown:w.ownsRow base 24 2 v n (Hk qs))
 (A:Option Addr) (m c:Nat) (xs:List Pt) (hx:a.eval x=.slice A m c) (I:Points w A m xs) (hn:n+m<=10000000) (hb:base<=w.heap.size)
 (h:∀ v' w',w'.ownsRow base 24 2 v' (n+m) (Hk (qs++xs))->w.grownBy w' v.ownBlock->(v'.ownBlock=v.ownBlock\/v'.ownBlock=some w.heap.size)->wpList Tryz.prog ops Q rest (a.put o.dst v') w') :
 wpList Tryz.prog ops Q (o::rest) a w:=by
 refine wpList_plain hgd fun K hK=>?_;obtain⟨v',w',hr,h2,h3,h4⟩:=Hl w base o.type v n qs hown A m c xs I hn hb;unfold Oper.wp execOp;simp only[ho,resolve,invoke,builtin,Sem.run_bind,Sem.run_pure,Result.andThen_ok,List.map_toArray,List.map_cons,List.map_nil,hs,hx,hr];exact hK _ _ (h v' w' h2 h3 h4)
theorem Points.one(w:World)(B:Nat)(s p:Int)(t:TypeId)(hB:B=w.heap.size):Points (w.alloc (.cells #[.int .i64 s,.int .i64 p] t)) (some ⟨B,0,none⟩) 1 [⟨s,p⟩] :=
 hB▸⟨rfl,fun _=>⟨w.heap.size,0,rfl,by simp,fun k hk=>by
  match k,hk with
  | 0,_=>exact⟨by simp,by simp⟩⟩⟩
theorem Wg(W:World)(base B:Nat)(hB:B=W.heap.size)(hb:base<=W.heap.size):(W.alloc (.cells #[] 24)).ownsRow base 24 2 (.slice (some ⟨B,0,none⟩) 0 0) 0 (Hk []):=by
 subst hB;exact World.ownsRow_lit W #[] 0 hb (Nat.zero_le _) rfl
end Go.Proofs.YtaemcekcancpdabGreatDoor
