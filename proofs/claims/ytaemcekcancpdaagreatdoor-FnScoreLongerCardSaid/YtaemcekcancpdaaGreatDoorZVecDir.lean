import Derived.Test.YtaemcekcancpdaaGreatDoorZVecP
import Derived.RangeFuncNested
import Derived.RangeFuncBound
import Derived.RangeFuncCalls
import Derived.RangeFuncLeaves
import Derived.Shelf.Abstract
import Derived.Shelf.RegionOpen
import Derived.OwnWalkIn
import Derived.TacticsInMore
import Derived.LoopNIn
import Derived.LoopIn
set_option linter.all false
set_option maxRecDepth 100000
set_option maxHeartbeats 8000000
open Go.Lib
namespace Go.Proofs.YtaemcekcancpdaaGreatDoor
open Go.RowKit Go.Shelf
open M
attribute [local go_sem] Oper.semAt_some
structure Quarter(w:World):Prop where
 q0:w.cell? ⟨0,0,none⟩=some (.int .i64 1000)
 q1:w.cell? ⟨0,1,none⟩=some (.int .i64 0)
 q2:w.cell? ⟨0,2,none⟩=some (.int .i64 924)
 q3:w.cell? ⟨0,3,none⟩=some (.int .i64 383)
 q4:w.cell? ⟨0,4,none⟩=some (.int .i64 707)
 q5:w.cell? ⟨0,5,none⟩=some (.int .i64 707)
 q6:w.cell? ⟨0,6,none⟩=some (.int .i64 383)
 q7:w.cell? ⟨0,7,none⟩=some (.int .i64 924)
 lt:0<w.heap.size
theorem Quarter.low{n:Nat}{W w':World}(h:Quarter W)(hn:0<n)(B:Below n W w'):Quarter w' :=
 ⟨(B.cell (p:=⟨0,0,none⟩) hn).trans h.q0,(B.cell (p:=⟨0,1,none⟩) hn).trans h.q1,(B.cell (p:=⟨0,2,none⟩) hn).trans h.q2,(B.cell (p:=⟨0,3,none⟩) hn).trans h.q3,(B.cell (p:=⟨0,4,none⟩) hn).trans h.q4,(B.cell (p:=⟨0,5,none⟩) hn).trans h.q5,(B.cell (p:=⟨0,6,none⟩) hn).trans h.q6,(B.cell (p:=⟨0,7,none⟩) hn).trans h.q7,Nat.lt_of_lt_of_le h.lt B.size⟩
theorem Quarter.step{W w':World}(h:Quarter W)(B:Below W.heap.size W w'):Quarter w':=h.low h.lt B
theorem Quarter.alloc{W:World}(h:Quarter W)(o:Obj):Quarter (W.alloc o):=h.step (Aa (Ac W) o)
theorem VCell.set{W:World}{b:Nat}{x y:Int}(h:VCell W b x y)(x' y':Int):VCell ((W.setCell ⟨b,0,none⟩ (.int .i64 x')).setCell ⟨b,1,none⟩ (.int .i64 y')) b x' y':=by
 obtain⟨h0,h1,g0,g1,hl⟩:=h;refine⟨?_,?_,?_,?_,?_⟩
 . rw[World.cell?_setCell_other _ _ _ _ (by simp)]; exact World.cell?_setCell_same' _ _ _ (by rw[h0]; rfl)
 . exact World.cell?_setCell_same' _ _ _ (by rw[World.cell?_setCell_other _ _ _ _ (by simp),h1]; rfl)
 . rw[World.frozen?_setCell,World.frozen?_setCell]; exact g0
 . rw[World.frozen?_setCell,World.frozen?_setCell]; exact g1
 . simpa using hl
theorem grown_of{W W':World}(B:Below W.heap.size W W'):W.grownBy W' none:=⟨B.os,B.tape,B.output,B.size,fun k hk _=>B.block k hk⟩
def upto(k:Int):List Int:=(List.range k.toNat).map fun i:Nat=>(i:Int)
theorem OT:upto 0=[]:=rfl
theorem Cy{k:Int}(h:0<=k):upto (k+1)=upto k++[k]:=by
 unfold upto;have e:(k+1).toNat=k.toNat+1:=by omega
 rw[e,List.range_succ,List.map_append];simp;omega
theorem DG{k:Int}:(upto k).length=k.toNat:=by simp[upto]
theorem Qx{k d:Int}(h:d∈upto k):0<=d/\d<k:=by
 simp only[upto,List.mem_map,List.mem_range] at h;obtain⟨i,hi,rfl⟩:=h;omega
theorem Qy{k d:Int}(h0:0<=d)(h:d<k):d∈upto k:=by
 simp only[upto,List.mem_map,List.mem_range];exact⟨d.toNat,by omega,by omega⟩
theorem F9{i:Int}(h0:0<=i)(h1:i+4<=15):BL (i+4)=-BM i/\BM (i+4)=BL i:=by
 obtain⟨e1,e2,_⟩:=QO (d:=i) (BR (by omega));have e:(i+4) % 16=i+4:=by omega
 rw[e] at e1 e2;exact⟨e1,e2⟩
theorem Kr{d:Int}(h0:0<=d)(h1:d<=15):(-1000<=BL d/\BL d<=1000)/\(-1000<=BM d/\BM d<=1000):=by
 obtain⟨a,b,_⟩:=QN (d:=d) (BR (by omega));exact⟨a,b⟩
theorem Ek(x y:Int)(w:World)(y1:-1000<=y)(y2:y<=1000):Calls Tryz.prog 106 #[Bs x y] w fun e w'=>e=.returned (Bs (-y) x)/\Below w.heap.size w w':=by
 go_enter Tryz.func106,Tryz.ntmps106;go_wp2;exact bodyPost_ret (v:=Bs (-y) x) (by simp[results,Tryz.results106,go_sem]) rfl ⟨rfl,by repeat (first | exact Ac _ | refine Aa ?_ _ | refine Ap ?_ _ _ _ (by omega) | refine BD ?_ _)⟩
theorem Qz(w:World):Calls Tryz.prog 100 #[] w fun e w'=>e=.returned (.func (.func 105) #[] #[])/\w=w':=by
 go_enter Tryz.func100,Tryz.ntmps100;go_wp2;go_ret;exact⟨rfl,rfl⟩
abbrev LF(d:Int):Array Value:=#[.int .i64 d,Bs (BL d) (BM d)]
theorem Mt(n n₀:Nat)(hn:1<=n)(w:World)(hp:0<n₀)(hle:n₀<=w.heap.size)(hQ:Quarter w) :
 SeqStopsK Fence.wide n Tryz.prog 105 #[] LF (Below n₀) (fun xs=>xs=upto 16) (fun pre=>∃ k:Int,0<=k/\k<=16/\pre=upto k) 16 w:=fun l J Jx W hW hJ hJx hY h0=>by
 have hQW:=hQ.step hW;have hsW:n₀<=W.heap.size:=Nat.le_trans hle hW.size;have hf:Fence.wide.fn 106:=trivial;refine callsIn_of_wp Tryz.func105 rfl trivial ?_ rfl;simp only[Tryz.ntmps105,List.size_toArray,List.length_cons,List.length_nil,Nat.reduceAdd,Nat.reduceSub,Array.replicate_succ,Array.replicate_zero,List.push_toArray,List.append_toArray,List.nil_append,List.cons_append]
 gi_wp2
 gi_loopw [4] (fun p wr=>∃ k:Int,0<=k/\k<=16/\p=.int .i64 k/\J (upto k) wr/\Quarter wr/\n₀<=wr.heap.size) (fun p _=>(16-intOf p).toNat)
 case atStart=>exact⟨0,by omega,by omega,rfl,by rw[OT]; exact h0,hQW,hsW⟩
 case round =>
  obtain⟨k,k0,k1,rfl,hJr,hQr,hsr⟩:=hrel;by_cases hk:k=16
  . subst hk
    gi_wp2
    go_end0
    exact⟨⟨_,rfl⟩,.inl ⟨_,rfl,hJr⟩⟩
  obtain⟨q,q0,q1,hq⟩:∃ q:Int,0<=q/\q<=3/\(k=4*q\/k=4*q+1\/k=4*q+2\/k=4*q+3):=⟨k / 4,by omega,by omega,by omega⟩;clear hk;rcases hq with rfl | rfl | rfl | rfl
  ·
   have e1:(4*q:Int).tmod 4=0:=by rw[Int.tmod_eq_emod_of_nonneg (by omega)]; omega
   have e2:(4*q:Int).tdiv 4=q:=by rw[Int.tdiv_eq_ediv_of_nonneg (by omega)]; omega
   have e3:(4*q:Int) % 4=0:=by omega
   have e4:(4*q:Int) / 4=q:=by omega
   have c0:=hQr.q0;have c1:=hQr.q1;have hlt:(4*q:Int)<16:=by omega
   obtain⟨wo,rfl⟩:∃ wo:World,wo=wr:=⟨_,rfl⟩
   gi_wp2
   gi_loopw [13] (fun p wi=>∃ i:Int,0<=i/\i<=q/\p=.int .i64 i/\VCell wi wo.heap.size (BL (4*i)) (BM (4*i))/\Below wo.heap.size wo wi) (fun p _=>(q-intOf p).toNat)
   case atStart=>exact⟨0,by omega,by omega,rfl,VCell.new _ _ _ _ _ rfl,Aa (Ac wo) _⟩
   case round =>
    obtain⟨i,i0,i1,rfl,hV,hB⟩:=hrel;have z0:=hV.c0;have z1:=hV.c1;have z2:=hV.f0;have z3:=hV.f1;have bd:=Kr (d:=4*i) (by omega) (by omega);by_cases c:i<q
    . have t:=F9 (i:=4*i) (by omega) (by omega);have e5:4*(i+1)=4*i+4:=by omega
      have T:=hid t;have E5:=hid e5;clear t e5
      gi_wp2_with (gi_at_call 106; refine(callsIn_wide.2 (Ek _ _ _ (by omega) (by omega))).mono ?_; rintro e w3 ⟨rfl,B3⟩; have V3:=hV.step B3; have y0:=V3.c0; have y1:=V3.c1; have y2:=V3.f0; have y3:=V3.f1)
      go_roundw
      case rel=>exact⟨i+1,by omega,by omega,rfl,by rw[E5.out,T.out.1,T.out.2]; exact V3.set _ _,((hB.trans (B3.mono hB.size)).setCell (p:=⟨wo.heap.size,0,none⟩) (Nat.le_refl _) _).setCell (p:=⟨wo.heap.size,1,none⟩) (Nat.le_refl _) _⟩
      case measure=>simp[intOf]; omega
    . obtain rfl:i=q:=by omega
      have hJ':J (upto (4*i)) wr:=hJ _ _ _ none hJr (grown_of hB) (fun r e=>by cases e);obtain⟨fn,tmps,assign,body,hy,hR⟩:=hY (upto (4*i)) (4*i) wr hJ' (by rw[DG]; omega);dsimp only[LF] at hy
      gi_wp2
      refine hR.mono ?_;rintro e W3 (⟨rfl,hJ3,hk3⟩ | ⟨rfl,hJx3⟩)
      . gi_wp2
        go_roundw
        case rel=>exact⟨4*i+1,by omega,by omega,rfl,by rw[Cy (by omega)]; exact hJ3,(hQr.step hB).low hp hk3,Nat.le_trans hsr (Nat.le_trans hB.size hk3.size)⟩
        case measure=>simp[intOf]; omega
      . gi_wp2
        refine bodyPost_ret (results_none rfl _ _ _) rfl ?_;exact⟨⟨_,rfl⟩,.inr ⟨upto (4*i+1),⟨4*i+1,by omega,by omega,rfl⟩,by rw[Cy (by omega)]; exact hJx3⟩⟩
  ·
   have e1:(4*q+1:Int).tmod 4=1:=by rw[Int.tmod_eq_emod_of_nonneg (by omega)]; omega
   have e2:(4*q+1:Int).tdiv 4=q:=by rw[Int.tdiv_eq_ediv_of_nonneg (by omega)]; omega
   have e3:(4*q+1:Int) % 4=1:=by omega
   have e4:(4*q+1:Int) / 4=q:=by omega
   have c0:=hQr.q2;have c1:=hQr.q3;have hlt:(4*q+1:Int)<16:=by omega
   obtain⟨wo,rfl⟩:∃ wo:World,wo=wr:=⟨_,rfl⟩
   gi_wp2
   gi_loopw [13] (fun p wi=>∃ i:Int,0<=i/\i<=q/\p=.int .i64 i/\VCell wi wo.heap.size (BL (4*i+1)) (BM (4*i+1))/\Below wo.heap.size wo wi) (fun p _=>(q-intOf p).toNat)
   case atStart=>exact⟨0,by omega,by omega,rfl,VCell.new _ _ _ _ _ rfl,Aa (Ac wo) _⟩
   case round =>
    obtain⟨i,i0,i1,rfl,hV,hB⟩:=hrel;have z0:=hV.c0;have z1:=hV.c1;have z2:=hV.f0;have z3:=hV.f1;have bd:=Kr (d:=4*i+1) (by omega) (by omega);by_cases c:i<q
    . have t:=F9 (i:=4*i+1) (by omega) (by omega);have e5:4*(i+1)+1=4*i+1+4:=by omega
      have T:=hid t;have E5:=hid e5;clear t e5
      gi_wp2_with (gi_at_call 106; refine(callsIn_wide.2 (Ek _ _ _ (by omega) (by omega))).mono ?_; rintro e w3 ⟨rfl,B3⟩; have V3:=hV.step B3; have y0:=V3.c0; have y1:=V3.c1; have y2:=V3.f0; have y3:=V3.f1)
      go_roundw
      case rel=>exact⟨i+1,by omega,by omega,rfl,by rw[E5.out,T.out.1,T.out.2]; exact V3.set _ _,((hB.trans (B3.mono hB.size)).setCell (p:=⟨wo.heap.size,0,none⟩) (Nat.le_refl _) _).setCell (p:=⟨wo.heap.size,1,none⟩) (Nat.le_refl _) _⟩
      case measure=>simp[intOf]; omega
    . obtain rfl:i=q:=by omega
      have hJ':J (upto (4*i+1)) wr:=hJ _ _ _ none hJr (grown_of hB) (fun r e=>by cases e);obtain⟨fn,tmps,assign,body,hy,hR⟩:=hY (upto (4*i+1)) (4*i+1) wr hJ' (by rw[DG]; omega);dsimp only[LF] at hy
      gi_wp2
      refine hR.mono ?_;rintro e W3 (⟨rfl,hJ3,hk3⟩ | ⟨rfl,hJx3⟩)
      . gi_wp2
        go_roundw
        case rel=>exact⟨4*i+1+1,by omega,by omega,rfl,by rw[Cy (by omega)]; exact hJ3,(hQr.step hB).low hp hk3,Nat.le_trans hsr (Nat.le_trans hB.size hk3.size)⟩
        case measure=>simp[intOf]; omega
      . gi_wp2
        refine bodyPost_ret (results_none rfl _ _ _) rfl ?_;exact⟨⟨_,rfl⟩,.inr ⟨upto (4*i+1+1),⟨4*i+1+1,by omega,by omega,rfl⟩,by rw[Cy (by omega)]; exact hJx3⟩⟩
  ·
   have e1:(4*q+2:Int).tmod 4=2:=by rw[Int.tmod_eq_emod_of_nonneg (by omega)]; omega
   have e2:(4*q+2:Int).tdiv 4=q:=by rw[Int.tdiv_eq_ediv_of_nonneg (by omega)]; omega
   have e3:(4*q+2:Int) % 4=2:=by omega
   have e4:(4*q+2:Int) / 4=q:=by omega
   have c0:=hQr.q4;have c1:=hQr.q5;have hlt:(4*q+2:Int)<16:=by omega
   obtain⟨wo,rfl⟩:∃ wo:World,wo=wr:=⟨_,rfl⟩
   gi_wp2
   gi_loopw [13] (fun p wi=>∃ i:Int,0<=i/\i<=q/\p=.int .i64 i/\VCell wi wo.heap.size (BL (4*i+2)) (BM (4*i+2))/\Below wo.heap.size wo wi) (fun p _=>(q-intOf p).toNat)
   case atStart=>exact⟨0,by omega,by omega,rfl,VCell.new _ _ _ _ _ rfl,Aa (Ac wo) _⟩
   case round =>
    obtain⟨i,i0,i1,rfl,hV,hB⟩:=hrel;have z0:=hV.c0;have z1:=hV.c1;have z2:=hV.f0;have z3:=hV.f1;have bd:=Kr (d:=4*i+2) (by omega) (by omega);by_cases c:i<q
    . have t:=F9 (i:=4*i+2) (by omega) (by omega);have e5:4*(i+1)+2=4*i+2+4:=by omega
      have T:=hid t;have E5:=hid e5;clear t e5
      gi_wp2_with (gi_at_call 106; refine(callsIn_wide.2 (Ek _ _ _ (by omega) (by omega))).mono ?_; rintro e w3 ⟨rfl,B3⟩; have V3:=hV.step B3; have y0:=V3.c0; have y1:=V3.c1; have y2:=V3.f0; have y3:=V3.f1)
      go_roundw
      case rel=>exact⟨i+1,by omega,by omega,rfl,by rw[E5.out,T.out.1,T.out.2]; exact V3.set _ _,((hB.trans (B3.mono hB.size)).setCell (p:=⟨wo.heap.size,0,none⟩) (Nat.le_refl _) _).setCell (p:=⟨wo.heap.size,1,none⟩) (Nat.le_refl _) _⟩
      case measure=>simp[intOf]; omega
    . obtain rfl:i=q:=by omega
      have hJ':J (upto (4*i+2)) wr:=hJ _ _ _ none hJr (grown_of hB) (fun r e=>by cases e);obtain⟨fn,tmps,assign,body,hy,hR⟩:=hY (upto (4*i+2)) (4*i+2) wr hJ' (by rw[DG]; omega);dsimp only[LF] at hy
      gi_wp2
      refine hR.mono ?_;rintro e W3 (⟨rfl,hJ3,hk3⟩ | ⟨rfl,hJx3⟩)
      . gi_wp2
        go_roundw
        case rel=>exact⟨4*i+2+1,by omega,by omega,rfl,by rw[Cy (by omega)]; exact hJ3,(hQr.step hB).low hp hk3,Nat.le_trans hsr (Nat.le_trans hB.size hk3.size)⟩
        case measure=>simp[intOf]; omega
      . gi_wp2
        refine bodyPost_ret (results_none rfl _ _ _) rfl ?_;exact⟨⟨_,rfl⟩,.inr ⟨upto (4*i+2+1),⟨4*i+2+1,by omega,by omega,rfl⟩,by rw[Cy (by omega)]; exact hJx3⟩⟩
  ·
   have e1:(4*q+3:Int).tmod 4=3:=by rw[Int.tmod_eq_emod_of_nonneg (by omega)]; omega
   have e2:(4*q+3:Int).tdiv 4=q:=by rw[Int.tdiv_eq_ediv_of_nonneg (by omega)]; omega
   have e3:(4*q+3:Int) % 4=3:=by omega
   have e4:(4*q+3:Int) / 4=q:=by omega
   have c0:=hQr.q6;have c1:=hQr.q7;have hlt:(4*q+3:Int)<16:=by omega
   obtain⟨wo,rfl⟩:∃ wo:World,wo=wr:=⟨_,rfl⟩
   gi_wp2
   gi_loopw [13] (fun p wi=>∃ i:Int,0<=i/\i<=q/\p=.int .i64 i/\VCell wi wo.heap.size (BL (4*i+3)) (BM (4*i+3))/\Below wo.heap.size wo wi) (fun p _=>(q-intOf p).toNat)
   case atStart=>exact⟨0,by omega,by omega,rfl,VCell.new _ _ _ _ _ rfl,Aa (Ac wo) _⟩
   case round =>
    obtain⟨i,i0,i1,rfl,hV,hB⟩:=hrel;have z0:=hV.c0;have z1:=hV.c1;have z2:=hV.f0;have z3:=hV.f1;have bd:=Kr (d:=4*i+3) (by omega) (by omega);by_cases c:i<q
    . have t:=F9 (i:=4*i+3) (by omega) (by omega);have e5:4*(i+1)+3=4*i+3+4:=by omega
      have T:=hid t;have E5:=hid e5;clear t e5
      gi_wp2_with (gi_at_call 106; refine(callsIn_wide.2 (Ek _ _ _ (by omega) (by omega))).mono ?_; rintro e w3 ⟨rfl,B3⟩; have V3:=hV.step B3; have y0:=V3.c0; have y1:=V3.c1; have y2:=V3.f0; have y3:=V3.f1)
      go_roundw
      case rel=>exact⟨i+1,by omega,by omega,rfl,by rw[E5.out,T.out.1,T.out.2]; exact V3.set _ _,((hB.trans (B3.mono hB.size)).setCell (p:=⟨wo.heap.size,0,none⟩) (Nat.le_refl _) _).setCell (p:=⟨wo.heap.size,1,none⟩) (Nat.le_refl _) _⟩
      case measure=>simp[intOf]; omega
    . obtain rfl:i=q:=by omega
      have hJ':J (upto (4*i+3)) wr:=hJ _ _ _ none hJr (grown_of hB) (fun r e=>by cases e);obtain⟨fn,tmps,assign,body,hy,hR⟩:=hY (upto (4*i+3)) (4*i+3) wr hJ' (by rw[DG]; omega);dsimp only[LF] at hy
      gi_wp2
      refine hR.mono ?_;rintro e W3 (⟨rfl,hJ3,hk3⟩ | ⟨rfl,hJx3⟩)
      . gi_wp2
        go_roundw
        case rel=>exact⟨4*i+3+1,by omega,by omega,rfl,by rw[Cy (by omega)]; exact hJ3,(hQr.step hB).low hp hk3,Nat.le_trans hsr (Nat.le_trans hB.size hk3.size)⟩
        case measure=>simp[intOf]; omega
      . gi_wp2
        refine bodyPost_ret (results_none rfl _ _ _) rfl ?_;exact⟨⟨_,rfl⟩,.inr ⟨upto (4*i+3+1),⟨4*i+3+1,by omega,by omega,rfl⟩,by rw[Cy (by omega)]; exact hJx3⟩⟩
end Go.Proofs.YtaemcekcancpdaaGreatDoor
