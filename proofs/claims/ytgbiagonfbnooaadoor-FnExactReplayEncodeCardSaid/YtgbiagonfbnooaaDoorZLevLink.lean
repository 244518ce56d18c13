import Derived.Test.YtgbiagonfbnooaaDoorZDrawIn
import Derived.RangeFuncNested
import Derived.RangeFuncBound
import Derived.RangeFuncCalls
import Derived.RangeFuncLeaves
import Derived.Shelf.Abstract
import Derived.Shelf.RegionOpen
import Derived.Stop.RegionWithIn
import Derived.OwnWalkIn
import Derived.TacticsInMore
import Derived.LoopNIn
import Derived.LoopIn
import Derived.Deep.LoopGhost
import Derived.Test.YtgbiagonfbnooaaDoorZBans
import Derived.Lib.AppendZerosOnto
import Derived.Lib.SliceRun
set_option linter.all false
set_option maxRecDepth 100000
set_option maxHeartbeats 8000000
open Go.Lib
namespace Go.Proofs.YtgbiagonfbnooaaDoor
open Go.RowKit Go.Shelf
open M
attribute [local go_sem] Oper.semAt_some
structure KpW(m r:Nat)(A B:World):Prop where
 os:B.os=A.os
 tape:B.tape=A.tape
 output:B.output=A.output
 size:A.heap.size<=B.heap.size
 block:∀ k,k<m->k<A.heap.size->k≠r->B.heap[k]?=A.heap[k]?
theorem KpW.refl(m r:Nat)(W:World):KpW m r W W:=⟨rfl,rfl,rfl,Nat.le_refl _,fun _ _ _ _=>rfl⟩
theorem KpW.trans{m r:Nat}{A B C:World}(h:KpW m r A B)(k:KpW m r B C):KpW m r A C :=
 ⟨k.os.trans h.os,k.tape.trans h.tape,k.output.trans h.output,Nat.le_trans h.size k.size,fun i hi hs hr=>(k.block i hi (Nat.lt_of_lt_of_le hs h.size) hr).trans (h.block i hi hs hr)⟩
theorem KpW.grown{m r:Nat}{A B:World}{row:Option Nat}(hg:A.grownBy B row)(hr:∀ g,row=some g->m<=g\/g=r):KpW m r A B :=
 ⟨hg.os,hg.tape,hg.output,hg.size,fun k hk hs hne=>hg.block k hs (fun e=>by rcases hr k e.symm with h | h<;>omega)⟩
theorem KpW.put{m r:Nat}{w:World}(hm:m<=w.heap.size)(W:World)(l:Nat)(o o':Obj)(hl:w.heap.size<=l)(_:W.heap[l]?=some o)(_:o.isCells=false)(_:o.isWalk=false):KpW m r W (W.putObj l o') :=
 KpW.grown (grownBy_putObj' W l o') (fun g e=>by cases e; exact .inl (by omega))
theorem KpW.below{m r:Nat}{A B:World}(B':Below A.heap.size A B):KpW m r A B:=⟨B'.os,B'.tape,B'.output,B'.size,fun k _ hs _=>B'.block k hs⟩
theorem KpW.set{m r:Nat}{A B:World}(h:KpW m r A B)(o:Nat)(v:Value):KpW m r A (B.setCell ⟨r,o,none⟩ v) :=
 ⟨h.os,h.tape,h.output,by simpa[World.setCell] using h.size,fun k hk hs hne=>(Below.heap_setCell B ⟨r,o,none⟩ v k hne).trans (h.block k hk hs hne)⟩
def dn(n j:Nat):List Nat:=(List.range (n-j)).map fun t=>n-1-t
theorem Ld(n:Nat):dn n n=[]:=by simp[dn]
theorem Le(n j:Nat):(dn n j).length=n-j:=by simp[dn]
theorem JY{n i:Nat}(h:i<n):dn n i=dn n (i+1)++[i]:=by
 unfold dn;have e:n-i=(n-(i+1))+1:=by omega
 rw[e,List.range_succ,List.map_append];simp;omega
def gd(bs:List Bx)(j:Nat):Bx:=bs.getD j bz
theorem CellsAt.own{W W':World}{row:Option Nat}{b:Nat}{v0:Value}{vs:List Value}(h:CellsAt W b (v0::vs))(hg:W.grownBy W' row)(hr:∀ r,row=some r->∃ o:Obj,W.heap[r]?=some o/\o.isCells=false):CellsAt W' b (v0::vs):=by
 obtain⟨o,ho,hc⟩:=cells_of_cell (h.cell 0 v0 rfl);exact h.of (grownBy_keeps_cells hg hr ho hc) hg.size
theorem BO{W W':World}(B:Below W.heap.size W W'):KeepsOthers W W':=⟨B.size,fun k _ hk _=>(B.block k (Array.getElem?_eq_some_iff.1 hk).1).trans hk⟩
end Go.Proofs.YtgbiagonfbnooaaDoor
namespace Go.Proofs.YtgbiagonfbnooaaDoor
open Go.RowKit
open M
theorem It{n lo hi:Int}(h:n<lo):Ax n lo hi=false:=Cr (by omega)
theorem GC{n lo hi:Int}(h:hi<n):Ax n lo hi=false:=Cr (by omega)
open Go.RowKit
open Go.Maps
open M
theorem DC(s p:Int)(z:Bool)(w:World):Calls Tryd.prog 73 #[Bw s p z] w fun e w'=>e=.returned (.bool (A5 s p z))/\Below w.heap.size w w':=by
 cases z
 . by_cases s0:s< -1
   . have ds:decide ((-1:Int)<=s)=false:=decide_eq_false (by omega);have E:=hid (show A5 s p false=false by simp[A5,It s0]);go_enter Tryd.func73,Tryd.ntmps73;go_wp2;go_ret;exact⟨Am (by rw[E.out]),Ab (Ac w) _⟩
   have s0:-1<=s:=by omega
   by_cases s1:1<s
   . have ds:decide (s<=(1:Int))=false:=decide_eq_false (by omega);have E:=hid (show A5 s p false=false by simp[A5,GC s1]);go_enter Tryd.func73,Tryd.ntmps73;go_wp2;go_ret;exact⟨Am (by rw[E.out]),Ab (Ac w) _⟩
   have s1:s<=1:=by omega
   by_cases p0:p<0
   . have dp:decide ((0:Int)<=p)=false:=decide_eq_false (by omega);have E:=hid (show A5 s p false=false by simp[A5,It p0]);go_enter Tryd.func73,Tryd.ntmps73;go_wp2;go_ret;exact⟨Am (by rw[E.out]),Ab (Ac w) _⟩
   have p0:0<=p:=by omega
   by_cases p1:2<p
   . have dp:decide (p<=(2:Int))=false:=decide_eq_false (by omega);have E:=hid (show A5 s p false=false by simp[A5,GC p1]);go_enter Tryd.func73,Tryd.ntmps73;go_wp2;go_ret;exact⟨Am (by rw[E.out]),Ab (Ac w) _⟩
   have p1:p<=2:=by omega
   have E:=hid (show A5 s p false=true by simp[A5,CC (n:=s) (lo:=-1) (hi:=1) ⟨s0,s1⟩,CC (n:=p) (lo:=0) (hi:=2) ⟨p0,p1⟩]);go_enter Tryd.func73,Tryd.ntmps73;go_wp2;go_ret;exact⟨Am (by rw[E.out]),Ab (Ac w) _⟩
 . by_cases hs:s=0
   . subst hs;by_cases hp:p=0
     . subst hp;have E:=hid (show A5 0 0 true=true by decide);go_enter Tryd.func73,Tryd.ntmps73;go_wp2;go_ret;exact⟨Am (by rw[E.out]),Ab (Ac w) _⟩
     . have dp:(p==0)=false:=beq_eq_false_iff_ne.2 hp;have E:=hid (show A5 0 p true=false by simp[A5,hp]);clear hp;go_enter Tryd.func73,Tryd.ntmps73;go_wp2;go_ret;exact⟨Am (by rw[E.out]),Ab (Ac w) _⟩
   . have ds:(s==0)=false:=beq_eq_false_iff_ne.2 hs;have E:=hid (show A5 s p true=false by simp[A5,hs]);clear hs;go_enter Tryd.func73,Tryd.ntmps73;go_wp2;go_ret;exact⟨Am (by rw[E.out]),Ab (Ac w) _⟩
theorem Hm(s p:Int)(z:Bool)(w:World):Calls Tryd.prog 76 #[Bw s p z] w fun e w'=>e=.returned (.int .i64 (LB s p z))/\Below w.heap.size w w':=by
 have V:=fun W=>DC s p z W;cases h:A5 s p z
 . rw[h] at V;have E:=hid (LC h);have V:=hid V;clear h;go_enter Tryd.func76,Tryd.ntmps76;go_wp2_with fail;refine(V.out _).mono ?_;rintro e w1 ⟨rfl,B⟩;have H:=hid (Aa (Ab (Ac w) _) B);clear B;go_wp2;go_ret;exact⟨AF (by rw[E.out]),H.out⟩
 . obtain⟨⟨s1,s2⟩,⟨p1,p2⟩,hz⟩:=Cy h;rw[h] at V;have E:=hid (Ir h);have V:=hid V;clear h;cases z
   . clear hz;go_enter Tryd.func76,Tryd.ntmps76;go_wp2_with fail;refine(V.out _).mono ?_;rintro e w1 ⟨rfl,B⟩;have P:CellsAt w1 w.heap.size (AD s p false):=(CellsAt.new w _ _ _ rfl).step B;have H:=hid (Aa (Ab (Ac w) _) B);clear B;obtain⟨c0,c1,c2⟩:=Bs P;have l1:=P.lt;go_wp2;go_ret;exact⟨AF (by rw[E.out]; rfl),H.out⟩
   . obtain⟨rfl,rfl⟩:=hz rfl;go_enter Tryd.func76,Tryd.ntmps76;go_wp2_with fail;refine(V.out _).mono ?_;rintro e w1 ⟨rfl,B⟩;have P:CellsAt w1 w.heap.size (AD 0 0 true):=(CellsAt.new w _ _ _ rfl).step B;have H:=hid (Aa (Ab (Ac w) _) B);clear B;obtain⟨c0,c1,c2⟩:=Bs P;have l1:=P.lt;go_wp2;go_ret;exact⟨AF (by rw[E.out]; rfl),H.out⟩
end Go.Proofs.YtgbiagonfbnooaaDoor
namespace Go.Proofs.YtgbiagonfbnooaaDoor
open Go.RowKit
open M
open Go.RowKit
open M
open Go.RowKit
open M
theorem DD{W w':World}{g o n:Nat}(h:W.there g o n)(B:Below W.heap.size W w')(hg:g<W.heap.size):w'.there g o n:=fun j hj=>by
 rw[B.cell (p:=⟨g,o+j,none⟩) hg,B.frozen (p:=⟨g,o+j,none⟩) hg];exact h j hj
theorem CR{W:World}{g n:Nat}(h:W.there g 0 n)(o:Nat)(v:Value):(W.setCell ⟨g,o,none⟩ v).there g 0 n:=fun j hj=>by
 refine⟨?_,by rw[World.frozen?_setCell]; exact(h j hj).2⟩;by_cases e:(0+j)=o
 . rw[e,World.cell?_setCell_same' _ _ _ (by have:=(h j hj).1; rw[e] at this; exact this)];rfl
 . rw[World.cell?_setCell_other _ _ _ _ (by first | (simp; done) | (simp; omega))];exact(h j hj).1
theorem BoxAt.other{W:World}{g o:Nat}{q:Bx}(h:BoxAt W g o q){p:Nat}(hp:p<o\/o+3<p)(v:Value):BoxAt (W.setCell ⟨g,p,none⟩ v) g o q :=
 ⟨(World.cell?_setCell_other _ _ _ _ (by first | (simp; done) | (simp; omega))).trans h.c0,(World.cell?_setCell_other _ _ _ _ (by first | (simp; done) | (simp; omega))).trans h.c1,(World.cell?_setCell_other _ _ _ _ (by first | (simp; done) | (simp; omega))).trans h.c2,(World.cell?_setCell_other _ _ _ _ (by first | (simp; done) | (simp; omega))).trans h.c3⟩
theorem EV{W:World}{p:Addr}(h:(W.cell? p).isSome=true):∃ u,W.cell? p=some u:=Option.isSome_iff_exists.1 h
end Go.Proofs.YtgbiagonfbnooaaDoor
