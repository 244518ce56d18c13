import Derived.Test.YtgbiagonfbnooaaGreatDoorZLevLink
set_option linter.all false
set_option maxRecDepth 100000
set_option maxHeartbeats 8000000
open Go.Lib
namespace Go.Proofs.YtgbiagonfbnooaaGreatDoor
open Go.RowKit Go.Shelf
open M
attribute [local go_sem] Oper.semAt_some
def SrcPt(r:Nat)(A:Option Addr)(n c:Nat)(bs:List Pt)(W:World):Prop :=
 r+1<W.heap.size/\W.cell? ⟨r+1,0,none⟩=some (.slice A n c)/\bs.length=n/\(0<n->∃ b off,A=some ⟨b,off,none⟩/\b<r/\∀ k,k<n->PtAt W b (off+k*2) (bs.getD k pz))
theorem SrcPt.kp{r:Nat}{A:Option Addr}{n c:Nat}{bs:List Pt}{W W':World}(h:SrcPt r A n c bs W)(K:KpW (r+2) r W W'):SrcPt r A n c bs W' :=
 ⟨Nat.lt_of_lt_of_le h.1 K.size,(World.cell?_of_block (a:=⟨r+1,0,none⟩) (K.block (r+1) (by omega) h.1 (by omega))).trans h.2.1,h.2.2.1,fun hn=>by
  obtain⟨b,off,e,hb,hc⟩:=h.2.2.2 hn;exact⟨b,off,e,hb,fun k hk=>(hc k hk).of (K.block b (by omega) (by have:=h.1; omega) (by omega))⟩⟩
theorem MW(A:Option Addr)(n c:Nat)(w:World):Calls Tryz.prog 75 #[.slice A n c] w fun e w'=>e=.returned (.func (.func 100) #[] #[.pointer (some ⟨w.heap.size,0,none⟩)])/\w.alloc (.cells #[.slice A n c] 39)=w':=by
 have hmf:∀(fn:Fn) (first cap:Array Value) (w:World),(Instr.makeFunc fn first cap).run Tryz.prog w=.ok (.func fn first cap) w:=fun _ _ _ _=>rfl;go_enter Tryz.func75,Tryz.ntmps75;go_wp2;go_ret;exact⟨rfl,rfl⟩
def CQ(bs:List Pt)(j:Nat):Pt:=bs.getD j pz
theorem JS{bs:List Pt}{n:Nat}(h:bs.length=n):(dn n 0).reverse.map (CQ bs)=bs:=by
 have e:(dn n 0).reverse=List.range n:=by
  apply List.ext_getElem
  . simp[dn]
  . intro i h1 h2;simp[dn] at h1 h2 ⊢;omega
 rw[e];apply List.ext_getElem
 . simp[h]
 . intro i h1 h2;simp[CQ,List.getD_eq_getElem?_getD,List.getElem?_eq_getElem h2]
abbrev HV(bs:List Pt)(j:Nat):Array Value:=#[.int .i64 j,.agg #[.int .i64 (CQ bs j).c,.int .i64 (CQ bs j).m]]
theorem FM(nn r:Nat)(hnn:1<=nn)(A:Option Addr)(n c:Nat)(bs:List Pt)(w:World)(hs:r+2<=w.heap.size)(hQ:SrcPt r A n c bs w)(hn:n<=281474976710656) :
 SeqStopsK Fence.wide nn Tryz.prog 100 #[.pointer (some ⟨r+1,0,none⟩)] (HV bs) (KpW (r+2) r) (fun xs=>xs=dn n 0) (fun _=>True) n w:=fun l J Jx W hW hJ hJx hY h0=>by
 have hQW:=hQ.kp (KpW.below hW);have s1:=hQW.2.1;have s0:=hQW.1;refine callsIn_of_wp Tryz.func100 rfl trivial ?_ rfl;simp only[Tryz.ntmps100,List.size_toArray,List.length_cons,List.length_nil,Nat.reduceAdd,Nat.reduceSub,Array.replicate_succ,Array.replicate_zero,List.push_toArray,List.append_toArray,List.nil_append,List.cons_append]
 gi_wp2
 gi_loopw [3] (fun p wr=>∃ j:Nat,j<=n/\p=.int .i64 ((j:Int)-1)/\J (dn n j) wr/\SrcPt r A n c bs wr) (fun p _=>(RowKit.intOf p+1).toNat)
 case atStart=>exact⟨n,Nat.le_refl _,rfl,by rw[JN]; exact h0,hQW⟩
 case round =>
  obtain⟨j,hj,rfl,hJr,hS⟩:=hrel;clear s1 s0;have s1:=hS.2.1;have s0:=hS.1;by_cases hz:j=0
  . subst hz
    gi_wp2
    go_end0
    exact⟨⟨_,rfl⟩,.inl ⟨_,rfl,hJr⟩⟩
  obtain⟨i,rfl⟩:∃ i,j=i+1:=⟨j-1,by omega⟩;have ei:((i+1:Nat):Int)-1=(i:Int):=by omega
  rw[ei];obtain⟨b,off,rfl,hb,hcell⟩:=hS.2.2.2 (by omega);obtain⟨c0,c1⟩:=hcell i (by omega);clear hcell ei;obtain⟨fn,tmps,assign,body,hy,hR⟩:=hY (dn n (i+1)) i wr hJr (by rw[JO]; omega);dsimp only[HV] at hy;change wr.cell? _=some (.int .i64 (CQ bs i).c) at c0;change wr.cell? _=some (.int .i64 (CQ bs i).m) at c1;generalize CQ bs i=z at hy c0 c1;obtain⟨vc,vm⟩:=z;simp only at hy c0 c1;have hi0:(0:Int)<=(i:Int):=by omega
  have hin:(i:Int)<(n:Int):=by omega
  gi_wp2
  refine hR.mono ?_;rintro e W3 (⟨rfl,hJ3,hk3⟩ | ⟨rfl,hJx3⟩)
  . gi_wp2
    go_roundw
    case rel=>exact⟨i,by omega,rfl,by rw[HK (by omega)]; exact hJ3,hS.kp hk3⟩
    case measure=>first | (simp[RowKit.intOf]; done) | (simp[RowKit.intOf]; omega)
  . gi_wp2
    refine bodyPost_ret (results_none rfl _ _ _) rfl ?_;exact⟨⟨_,rfl⟩,.inr ⟨_,trivial,hJx3⟩⟩
def LF(w:World)(bs:List Pt)(pre:List Nat)(W:World):Prop :=
 (∃ p,CellsAt W w.heap.size [.pointer p]/\ChainP W (w.heap.size+2) W.heap.size (pre.reverse.map (CQ bs)) (.pointer p))/\Below w.heap.size w W/\w.heap.size+2<=W.heap.size
theorem He(A:Option Addr)(n c:Nat)(bs:List Pt)(w:World)(I:Parts w A n bs)(hn:n<=281474976710656) :
 Calls Tryz.prog 48 #[.slice A n c] w (HP w (bs)):=by
 have hl:=I.1;refine(callsIn_wide (n:=5)).1 ?_;have hf:Fence.wide.fn 75:=trivial;refine callsIn_of_wp_marks Tryz.func48 rfl trivial ?_ rfl;simp only[Tryz.ntmps48,List.size_toArray,List.length_cons,List.length_nil,Nat.reduceAdd,Nat.reduceSub,Array.replicate_succ,Array.replicate_zero,List.push_toArray,List.append_toArray,List.nil_append,List.cons_append]
 gi_wp2_with (gi_at_call 75; refine(callsIn_wide.2 (MW _ _ _ _)).mono ?_; rintro e w' ⟨rfl,rfl⟩)
 have F0:CellsAt ((w.alloc (.cells #[.pointer none] 74)).alloc (.cells #[.slice A n c] 39)) w.heap.size [.pointer none]:=(CellsAt.new w _ _ _ rfl).alloc _;have hB0:Below w.heap.size w ((w.alloc (.cells #[.pointer none] 74)).alloc (.cells #[.slice A n c] 39)):=Ab (Ab (Ac w) _) _;have hQ:SrcPt w.heap.size A n c bs ((w.alloc (.cells #[.pointer none] 74)).alloc (.cells #[.slice A n c] 39)):=by
  refine⟨by simp,by simp,hl,fun h0=>?_⟩;obtain⟨b,off,e,hb,hc⟩:=I.2 h0;exact⟨b,off,e,hb,fun k hk=>(hc k hk).of (hB0.block b hb)⟩
 refine wpIn_rangeFunc_ownH rfl (by omega) (gf:=100) (lb:=#[.pointer (some ⟨w.heap.size+1,0,none⟩)]) rfl trivial (enters_of Tryz.func100 (by kernel_rfl) rfl)
  (FM _ w.heap.size (by omega) A n c bs _ (by simp) hQ hn) KpW.trans (KpW.put (by simp)) (Below.refl _ _) (fun _=>rfl)
  (LF w bs) (fun _ _ _=>False)
  (fun s X Y row hs hg hr=>⟨by
   obtain⟨p,hF,hC⟩:=hs.1;exact⟨p,hF.own hg (fun r e=>(hr r e).2),ChainP.low (Nat.le_refl _) hg.size (hC.own hg (fun r e=>(hr r e).2))⟩,ownFrom_below (Nat.le_refl _) (by simp; omega) () X Y row hs.2.1 hg hr,Nat.le_trans hs.2.2 hg.size⟩)
  (fun c s X Y row hs hg hr=>hs)
  ⟨⟨none,F0,rfl⟩,hB0,by simp⟩
  (fun x a' W=>∃ Bx,w.heap.size+1<Bx/\CellsAt W Bx [.int .i64 (CQ bs x).c,.int .i64 (CQ bs x).m]/\a'={ tmps:=#[.slice A n c,undef,.pointer none,.pointer (some ⟨w.heap.size,0,none⟩),undef,.pointer (some ⟨Bx,0,none⟩),.slice A n c,.func (.func 100) #[] #[.pointer (some ⟨w.heap.size+1,0,none⟩)],.int .i64 x,.agg #[.int .i64 (CQ bs x).c,.int .i64 (CQ bs x).m],undef,undef,undef,undef,undef],defers:=[] })
  (fun x a' _ X Y row hs hg hr=>by
   obtain⟨Bx,h1,h2,h3⟩:=hs;exact⟨Bx,h1,h2.own hg (fun r e=>(hr r e).2),h3⟩) ?assign ?body ?done ?stop
 case assign =>
  rintro l pre x W K ⟨⟨p,hF,hC⟩,hB,hsz⟩ hK
  gi_wp2
  exact hK _ _ ((KeepsOthers.alloc _ _).from _) (KpW.below (Ab (Ac W) _)) ⟨⟨p,hF.alloc _,ChainP.low (Nat.le_refl _) (by simp) (hC.alloc _)⟩,Ab hB _,by simp; omega⟩ ⟨W.heap.size,by omega,CellsAt.new _ _ _ _ rfl,rfl⟩
 case body =>
  rintro l pre x a' W hl ⟨rr,hr⟩ ⟨⟨p,hF,hC⟩,hB,hsz⟩ ⟨Bx,hBx,hx,rfl⟩ hlt;have ex:(pre++[x]).reverse.map (CQ bs)=CQ bs x::pre.reverse.map (CQ bs):=by simp
  generalize hz:CQ bs x=z at *;have ex:=hid ex;have hz:=hid hz;obtain⟨vc,vm⟩:=z;have x0:=hx.cell 0 _ rfl;have x1:=hx.cell 1 _ rfl;have f0:=hF.cell 0 _ rfl;have f1:=hF.fr 0;have f2:=hF.lt;replace hC:=hid hC;replace hB:=hid hB;simp only at x0 x1
  gi_wp2
  exact⟨((KeepsOthers.setCell _ _ _).trans (KeepsOthers.alloc _ _)).from _,((KpW.refl _ _ _).set _ _).trans (KpW.below (Ab (Ac _) _)),⟨_,(hF.set 0 (by simp) _).alloc _,by rw[ex.out]; exact⟨W.heap.size,p,rfl,by omega,by simp,CellsAt.new _ _ _ _ (by simp),(ChainP.far _ _ (.inl (by omega)) hC.out).alloc _⟩⟩,Ab (Ar hB.out _ _ _ (Nat.le_refl _)) _,by simp; omega⟩
 case done =>
  rintro D xs W hD rfl ⟨⟨p,hF,hC⟩,hB,hsz⟩ hK;rw[JS hl] at hC;have f0:=hF.cell 0 _ rfl;replace hC:=hid hC;replace hB:=hid hB
  gi_wp2
  refine⟨by simp,.inl ⟨_,_,rfl,run_takeDeferred hK,?_⟩⟩;refine⟨.pointer p,?_,p,rfl,ChainP.low (by omega) (by simp) (ChainP.own (grownBy_putObj' _ D (.deferred none)) (fun r e=>by cases e; exact⟨_,hK,rfl⟩) hC.out),hB.out.trans (belowK_b (w:=w) (Nat.le_refl _) W D _ _ (by simp at hD; omega) hK rfl rfl)⟩;simp[results,Tryz.f48,go_sem]
 case stop =>
  rintro D c pre W hD _ hx hK;exact hx.elim
end Go.Proofs.YtgbiagonfbnooaaGreatDoor
