import Derived.Test.YtbeohbhhmcjokaaZLevS
import Derived.Test.YtbeohbhhmcjokaaZBoxP
import Derived.RangeFuncNested
import Derived.RangeFuncBound
import Derived.RangeFuncCalls
import Derived.RangeFuncLeaves
import Derived.Shelf.Abstract
import Derived.Shelf.RegionOpen
import Derived.Stop.RegionWithIn
import Derived.OwnWalkIn
import Derived.TacticsInMore
import Derived.LoopNIn
import Derived.LoopIn
set_option linter.all false
set_option maxRecDepth 100000
set_option maxHeartbeats 8000000
open Go.Lib
namespace Go.Proofs.Ytbeohbhhmcjokaa
open Go.RowKit Go.Shelf
open M
attribute [local go_sem] Oper.semAt_some
structure KpW(m r:Nat)(A B:World):Prop where
 os:B.os=A.os
 tape:B.tape=A.tape
 output:B.output=A.output
 size:A.heap.size<=B.heap.size
 block:∀ k,k<m->k<A.heap.size->k≠r->B.heap[k]?=A.heap[k]?
theorem KpW.refl(m r:Nat)(W:World):KpW m r W W:=⟨rfl,rfl,rfl,Nat.le_refl _,fun _ _ _ _=>rfl⟩
theorem KpW.trans{m r:Nat}{A B C:World}(h:KpW m r A B)(k:KpW m r B C):KpW m r A C :=
 ⟨k.os.trans h.os,k.tape.trans h.tape,k.output.trans h.output,Nat.le_trans h.size k.size,fun i hi hs hr=>(k.block i hi (Nat.lt_of_lt_of_le hs h.size) hr).trans (h.block i hi hs hr)⟩
theorem KpW.grown{m r:Nat}{A B:World}{row:Option Nat}(hg:A.grownBy B row)(hr:∀ g,row=some g->m<=g\/g=r):KpW m r A B :=
 ⟨hg.os,hg.tape,hg.output,hg.size,fun k hk hs hne=>hg.block k hs (fun e=>by rcases hr k e.symm with h | h<;>omega)⟩
theorem KpW.put{m r:Nat}{w:World}(hm:m<=w.heap.size)(W:World)(l:Nat)(o o':Obj)(hl:w.heap.size<=l)(_:W.heap[l]?=some o)(_:o.isCells=false)(_:o.isWalk=false):KpW m r W (W.putObj l o') :=
 KpW.grown (grownBy_putObj' W l o') (fun g e=>by cases e; exact .inl (by omega))
theorem KpW.below{m r:Nat}{A B:World}(B':Below A.heap.size A B):KpW m r A B:=⟨B'.os,B'.tape,B'.output,B'.size,fun k _ hs _=>B'.block k hs⟩
theorem KpW.set{m r:Nat}{A B:World}(h:KpW m r A B)(o:Nat)(v:Value):KpW m r A (B.setCell ⟨r,o,none⟩ v) :=
 ⟨h.os,h.tape,h.output,by simpa[World.setCell] using h.size,fun k hk hs hne=>(Below.heap_setCell B ⟨r,o,none⟩ v k hne).trans (h.block k hk hs hne)⟩
def Src(r:Nat)(A:Option Addr)(n c:Nat)(bs:List Bx)(W:World):Prop :=
 r+1<W.heap.size/\W.cell? ⟨r+1,0,none⟩=some (.slice A n c)/\bs.length=n/\(0<n->∃ b off,A=some ⟨b,off,none⟩/\b<r/\∀ k,k<n->BoxAt W b (off+k*4) (bs.getD k bz))
theorem Src.kp{r:Nat}{A:Option Addr}{n c:Nat}{bs:List Bx}{W W':World}(h:Src r A n c bs W)(K:KpW (r+2) r W W'):Src r A n c bs W' :=
 ⟨Nat.lt_of_lt_of_le h.1 K.size,(World.cell?_of_block (a:=⟨r+1,0,none⟩) (K.block (r+1) (by omega) h.1 (by omega))).trans h.2.1,h.2.2.1,fun hn=>by
  obtain⟨b,off,e,hb,hc⟩:=h.2.2.2 hn;exact⟨b,off,e,hb,fun k hk=>(hc k hk).of (K.block b (by omega) (by have:=h.1; omega) (by omega))⟩⟩
def dn(n j:Nat):List Nat:=(List.range (n-j)).map fun t=>n-1-t
theorem GZ(n:Nat):dn n n=[]:=by simp[dn]
theorem G1(n j:Nat):(dn n j).length=n-j:=by simp[dn]
theorem Gr{n i:Nat}(h:i<n):dn n i=dn n (i+1)++[i]:=by
 unfold dn;have e:n-i=(n-(i+1))+1:=by omega
 rw[e,List.range_succ,List.map_append];simp;omega
theorem Fu(A:Option Addr)(n c:Nat)(w:World):Calls Try.prog 120 #[.slice A n c] w fun e w'=>e=.returned (.func (.func 123) #[] #[.pointer (some ⟨w.heap.size,0,none⟩)])/\w.alloc (.cells #[.slice A n c] 54)=w':=by
 have hmf:∀(fn:Fn) (first cap:Array Value) (w:World),(Instr.makeFunc fn first cap).run Try.prog w=.ok (.func fn first cap) w:=fun _ _ _ _=>rfl;go_enter Try.func120,Try.ntmps120;go_wp2;go_ret;exact⟨rfl,rfl⟩
def gd(bs:List Bx)(j:Nat):Bx:=bs.getD j bz
abbrev GH(bs:List Bx)(j:Nat):Array Value:=#[.int .i64 j,box (gd bs j).a (gd bs j).b (gd bs j).c (gd bs j).d]
theorem DW(nn r:Nat)(hnn:1<=nn)(A:Option Addr)(n c:Nat)(bs:List Bx)(w:World)(_hs:r+2<=w.heap.size)(hQ:Src r A n c bs w)(hn:n<=281474976710656) :
 SeqStopsK Fence.wide nn Try.prog 123 #[.pointer (some ⟨r+1,0,none⟩)] (GH bs) (KpW (r+2) r) (fun xs=>xs=dn n 0) (fun _=>True) n w:=fun l J Jx W hW hJ hJx hY h0=>by
 have hQW:=hQ.kp (KpW.below hW);have s1:=hQW.2.1;have s0:=hQW.1;refine callsIn_of_wp Try.func123 rfl trivial ?_ rfl;simp only[Try.ntmps123,List.size_toArray,List.length_cons,List.length_nil,Nat.reduceAdd,Nat.reduceSub,Array.replicate_succ,Array.replicate_zero,List.push_toArray,List.append_toArray,List.nil_append,List.cons_append]
 gi_wp2
 gi_loopw [3] (fun p wr=>∃ j:Nat,j<=n/\p=.int .i64 ((j:Int)-1)/\J (dn n j) wr/\Src r A n c bs wr) (fun p _=>(RowKit.intOf p+1).toNat)
 case atStart=>exact⟨n,Nat.le_refl _,rfl,by rw[GZ]; exact h0,hQW⟩
 case round =>
  obtain⟨j,hj,rfl,hJr,hS⟩:=hrel;clear s1 s0;have s1:=hS.2.1;have s0:=hS.1;by_cases hz:j=0
  . subst hz
    gi_wp2
    go_end0
    exact⟨⟨_,rfl⟩,.inl ⟨_,rfl,hJr⟩⟩
  obtain⟨i,rfl⟩:∃ i,j=i+1:=⟨j-1,by omega⟩;have ei:((i+1:Nat):Int)-1=(i:Int):=by omega
  rw[ei];obtain⟨b,off,rfl,hb,hcell⟩:=hS.2.2.2 (by omega);obtain⟨c0,c1,c2,c3⟩:=hcell i (by omega);clear hcell ei;obtain⟨fn,tmps,assign,body,hy,hR⟩:=hY (dn n (i+1)) i wr hJr (by rw[G1]; omega);dsimp only[GH] at hy;change wr.cell? _=some (.int .i64 (gd bs i).a) at c0;change wr.cell? _=some (.int .i64 (gd bs i).b) at c1;change wr.cell? _=some (.int .i64 (gd bs i).c) at c2;change wr.cell? _=some (.int .i64 (gd bs i).d) at c3;generalize gd bs i=z at hy c0 c1 c2 c3;obtain⟨za,zb,zc,zd⟩:=z;simp only at hy c0 c1 c2 c3;have hi0:(0:Int)<=(i:Int):=by omega
  have hin:(i:Int)<(n:Int):=by omega
  gi_wp2
  refine hR.mono ?_;rintro e W3 (⟨rfl,hJ3,hk3⟩ | ⟨rfl,hJx3⟩)
  . gi_wp2
    go_roundw
    case rel=>exact⟨i,by omega,rfl,by rw[Gr (by omega)]; exact hJ3,hS.kp hk3⟩
    case measure=>first | (simp[RowKit.intOf]; done) | (simp[RowKit.intOf]; omega)
  . gi_wp2
    refine bodyPost_ret (results_none rfl _ _ _) rfl ?_;exact⟨⟨_,rfl⟩,.inr ⟨_,trivial,hJx3⟩⟩
def Chain(W:World)(lo:Nat):List Bx->Value->Prop
 | [],v=>v=.pointer none
 | q::qs,v=>∃(g:Nat) (nx:Option Addr),v=.pointer (some ⟨g,0,none⟩)/\lo<=g/\CellsAt W g [.int .i64 q.a,.int .i64 q.b,.int .i64 q.c,.int .i64 q.d,.pointer nx]/\Chain W lo qs (.pointer nx)
theorem CellsAt.own{W W':World}{row:Option Nat}{b:Nat}{v0:Value}{vs:List Value}(h:CellsAt W b (v0::vs))(hg:W.grownBy W' row)(hr:∀ r,row=some r->∃ o:Obj,W.heap[r]?=some o/\o.isCells=false):CellsAt W' b (v0::vs):=by
 obtain⟨o,ho,hc⟩:=cells_of_cell (h.cell 0 v0 rfl);exact h.of (grownBy_keeps_cells hg hr ho hc) hg.size
theorem Chain.own{W W':World}{row:Option Nat}{lo:Nat}(hg:W.grownBy W' row)(hr:∀ r,row=some r->∃ o:Obj,W.heap[r]?=some o/\o.isCells=false):∀{qs:List Bx} {v:Value},Chain W lo qs v->Chain W' lo qs v
 | [],_,h=>h
 | _::_,_,h=>by
  obtain⟨g,nx,e,hl,hc,ht⟩:=h;exact⟨g,nx,e,hl,hc.own hg hr,Chain.own hg hr ht⟩
theorem Chain.step{W W':World}{lo:Nat}(B:Below W.heap.size W W'):∀{qs:List Bx} {v:Value},Chain W lo qs v->Chain W' lo qs v
 | [],_,h=>h
 | _::_,_,h=>by
  obtain⟨g,nx,e,hl,hc,ht⟩:=h;exact⟨g,nx,e,hl,hc.step B,Chain.step B ht⟩
theorem Chain.far{W:World}{lo r:Nat}(hr:r<lo)(o:Nat)(u:Value):∀{qs:List Bx} {v:Value},Chain W lo qs v->Chain (W.setCell ⟨r,o,none⟩ u) lo qs v
 | [],_,h=>h
 | _::_,_,h=>by
  obtain⟨g,nx,e,hl,hc,ht⟩:=h;exact⟨g,nx,e,hl,hc.far (by omega) _ _,Chain.far hr o u ht⟩
theorem Chain.alloc{W:World}{lo:Nat}(o:Obj){qs:List Bx}{v:Value}(h:Chain W lo qs v):Chain (W.alloc o) lo qs v:=Chain.step (Ab (Ac W) o) h
theorem Chain.drew{W:World}{lo:Nat}{qs:List Bx}{v:Value}(h:Chain W lo qs v):Chain W.drew lo qs v:=Chain.step (Ac W).drew h
theorem Dr{W W':World}(B:Below W.heap.size W W'):KeepsOthers W W':=⟨B.size,fun k _ hk _=>(B.block k (Array.getElem?_eq_some_iff.1 hk).1).trans hk⟩
theorem G3{bs:List Bx}{n:Nat}(h:bs.length=n):(dn n 0).reverse.map (gd bs)=bs:=by
 have e:(dn n 0).reverse=List.range n:=by
  apply List.ext_getElem
  . simp[dn]
  . intro i h1 h2;simp[dn] at h1 h2 ⊢;omega
 rw[e];apply List.ext_getElem
 . simp[h]
 . intro i h1 h2;simp[gd,List.getD_eq_getElem?_getD,List.getElem?_eq_getElem h2]
def Hp(w:World)(bs:List Bx)(pre:List Nat)(W:World):Prop :=
 (∃ p,CellsAt W w.heap.size [.pointer p]/\Chain W (w.heap.size+2) (pre.reverse.map (gd bs)) (.pointer p))/\Below w.heap.size w W/\w.heap.size+2<=W.heap.size
def Linked(w:World)(bs:List Bx)(e:Ending)(w':World):Prop :=
 ∃ p,e=.returned (.pointer p)/\Chain w' w.heap.size bs (.pointer p)/\Below w.heap.size w w'
theorem Chain.low{W:World}{lo lo':Nat}(hl:lo'<=lo):∀{qs:List Bx} {v:Value},Chain W lo qs v->Chain W lo' qs v
 | [],_,h=>h
 | _::_,_,h=>by
  obtain⟨g,nx,e,h1,hc,ht⟩:=h;exact⟨g,nx,e,by omega,hc,Chain.low hl ht⟩
theorem Fv(A:Option Addr)(n c:Nat)(bs:List Bx)(w:World)(I:Boxes w A n bs)(hn:n<=281474976710656) :
 Calls Try.prog 113 #[.slice A n c] w (Linked w bs):=by
 have hl:=I.1;refine(callsIn_wide (n:=5)).1 ?_;have hf:Fence.wide.fn 120:=trivial;refine callsIn_of_wp_marks Try.func113 rfl trivial ?_ rfl;simp only[Try.ntmps113,List.size_toArray,List.length_cons,List.length_nil,Nat.reduceAdd,Nat.reduceSub,Array.replicate_succ,Array.replicate_zero,List.push_toArray,List.append_toArray,List.nil_append,List.cons_append]
 gi_wp2_with (gi_at_call 120; refine(callsIn_wide.2 (Fu _ _ _ _)).mono ?_; rintro e w' ⟨rfl,rfl⟩)
 have F0:CellsAt ((w.alloc (.cells #[.pointer none] 138)).alloc (.cells #[.slice A n c] 54)) w.heap.size [.pointer none]:=(CellsAt.new w _ _ _ rfl).alloc _;have hB0:Below w.heap.size w ((w.alloc (.cells #[.pointer none] 138)).alloc (.cells #[.slice A n c] 54)):=Ab (Ab (Ac w) _) _;have hQ:Src w.heap.size A n c bs ((w.alloc (.cells #[.pointer none] 138)).alloc (.cells #[.slice A n c] 54)):=by
  refine⟨by simp,by simp,hl,fun h0=>?_⟩;obtain⟨b,off,e,hb,hc⟩:=I.2 h0;exact⟨b,off,e,hb,fun k hk=>(hc k hk).of (hB0.block b hb)⟩
 refine wpIn_rangeFunc_ownH rfl (by omega) (gf:=123) (lb:=#[.pointer (some ⟨w.heap.size+1,0,none⟩)]) rfl trivial (enters_of Try.func123 (by kernel_rfl) rfl)
  (DW _ w.heap.size (by omega) A n c bs _ (by simp) hQ hn) KpW.trans (KpW.put (by simp)) (Below.refl _ _) (fun _=>rfl)
  (Hp w bs) (fun _ _ _=>False)
  (fun s X Y row hs hg hr=>⟨by
   obtain⟨p,hF,hC⟩:=hs.1;exact⟨p,hF.own hg (fun r e=>(hr r e).2),hC.own hg (fun r e=>(hr r e).2)⟩,ownFrom_below (Nat.le_refl _) (by simp; omega) () X Y row hs.2.1 hg hr,Nat.le_trans hs.2.2 hg.size⟩)
  (fun c s X Y row hs hg hr=>hs)
  ⟨⟨none,F0,rfl⟩,hB0,by simp⟩
  (fun x a' W=>∃ Bx,w.heap.size+1<Bx/\CellsAt W Bx [.int .i64 (gd bs x).a,.int .i64 (gd bs x).b,.int .i64 (gd bs x).c,.int .i64 (gd bs x).d]/\a'={ tmps:=#[.slice A n c,undef,.pointer none,.pointer (some ⟨w.heap.size,0,none⟩),undef,.pointer (some ⟨Bx,0,none⟩),.slice A n c,.func (.func 123) #[] #[.pointer (some ⟨w.heap.size+1,0,none⟩)],.int .i64 x,box (gd bs x).a (gd bs x).b (gd bs x).c (gd bs x).d,undef,undef,undef,undef,undef,undef],defers:=[] })
  (fun x a' _ X Y row hs hg hr=>by
   obtain⟨Bx,h1,h2,h3⟩:=hs;exact⟨Bx,h1,h2.own hg (fun r e=>(hr r e).2),h3⟩) ?assign ?body ?done ?stop
 case assign =>
  rintro l pre x W K ⟨⟨p,hF,hC⟩,hB,hsz⟩ hK
  gi_wp2
  exact hK _ _ ((KeepsOthers.alloc _ _).from _) (KpW.below (Ab (Ac W) _)) ⟨⟨p,hF.alloc _,hC.alloc _⟩,Ab hB _,by simp; omega⟩ ⟨W.heap.size,by omega,CellsAt.new _ _ _ _ rfl,rfl⟩
 case body =>
  rintro l pre x a' W hl ⟨rr,hr⟩ ⟨⟨p,hF,hC⟩,hB,hsz⟩ ⟨Bx,hBx,hx,rfl⟩ hlt;have ex:(pre++[x]).reverse.map (gd bs)=gd bs x::pre.reverse.map (gd bs):=by simp
  generalize hz:gd bs x=z at *;have ex:=hid ex;have hz:=hid hz;obtain⟨za,zb,zc,zd⟩:=z;have x0:=hx.cell 0 _ rfl;have x1:=hx.cell 1 _ rfl;have x2:=hx.cell 2 _ rfl;have x3:=hx.cell 3 _ rfl;have f0:=hF.cell 0 _ rfl;have f1:=hF.fr 0;have hC:=hid hC;have hB:=hid hB;simp only at x0 x1 x2 x3;have hfc:Fence.wide.fn 111:=trivial
  gi_wp2_with fail
  gi_region_with (gi_at_call 111; refine(callsIn_wide.2 (BN _ _ _ _ _)).mono ?_; rintro e w3 ⟨rfl,B3⟩; have F3:=CellsAt.step (by first | exact hF | exact hF.drew) B3; have y0:=F3.cell 0 _ rfl; have y1:=F3.fr 0; have yl:=F3.lt; have C3:=hid (Chain.step B3 (by first | exact hC.out | exact hC.out.drew)); have HB:=hid (Aa (by first | exact Ac W | exact(Ac W).drew) B3); clear B3)
  all_goals
   gi_wp2
   exact⟨(((Dr HB.out).trans (KeepsOthers.setCell _ _ _)).trans (KeepsOthers.alloc _ _)).from _,((KpW.below HB.out).set _ _).trans (KpW.below (Ab (Ac _) _)),⟨_,(F3.set 0 (by simp) _).alloc _,by rw[ex.out]; exact⟨w3.heap.size,p,rfl,by have:=HB.out.size; omega,CellsAt.new _ _ _ _ (by simp),(C3.out.far (by omega) _ _).alloc _⟩⟩,Ab (Ag (Aa hB.out HB.out) _ _ _ (Nat.le_refl _)) _,by have:=HB.out.size; simp; omega⟩
 case done =>
  rintro D xs W hD rfl ⟨⟨p,hF,hC⟩,hB,hsz⟩ hK;rw[G3 hl] at hC;have f0:=hF.cell 0 _ rfl;have hC:=hid hC;have hB:=hid hB
  gi_wp2
  refine⟨by simp,.inl ⟨_,_,rfl,run_takeDeferred hK,?_⟩⟩;refine⟨.pointer p,?_,p,rfl,Chain.low (by omega) (Chain.own (grownBy_putObj' _ D (.deferred none)) (fun r e=>by cases e; exact⟨_,hK,rfl⟩) hC.out),hB.out.trans (belowK_b (w:=w) (Nat.le_refl _) W D _ _ (by simp at hD; omega) hK rfl rfl)⟩;simp[results,Try.f113,go_sem]
 case stop =>
  rintro D c pre W hD _ hx hK;exact hx.elim
end Go.Proofs.Ytbeohbhhmcjokaa
