import Derived.ProofKit
import Derived.Lib.SmallJoins
import Derived.Deep.Slices
import Derived.Deep.Fields
import Derived.ChangeSame
import Derived.Test.YtgbiagonfbnooaaDoorZInRow
import Derived.Test.YtgbiagonfbnooaaDoorZEng
set_option linter.all false
set_option maxRecDepth 100000
set_option maxHeartbeats 8000000
namespace Go.Proofs.YtgbiagonfbnooaaDoor
open Go.ChangeShapes Go.WideShapes Go.ChangeAt Go.RowKit Go.Joins
theorem GI:Tryd.prog.cellsOf 3=1:=by kernel_rfl
end Go.Proofs.YtgbiagonfbnooaaDoor
namespace Go.Proofs.YtgbiagonfbnooaaDoor
open Go.ChangeShapes Go.WideShapes Go.ChangeAt Go.RowKit Go.Joins Go.Deep
open M
open Go.ChangeShapes Go.WideShapes Go.ChangeAt Go.RowKit Go.Joins Go.Deep
open M
theorem Kc:Tryd.prog.cellsOf 91=3:=by kernel_rfl
theorem Kd:Tryd.prog.cellsOf 4=1:=by kernel_rfl
theorem DK{H:Type}{enc:TypeId × Value->H}{W:World}{base:Nat}{sp:Nat->Bool}{held:Bool}{n:Nat}{c0 c1 c2:Value}{y:DataW H × List MemPlace}
 (h:DataW.trod enc Tryd.prog W base sp held n 91 [c0,c1,c2]=some y):∃(s p:Int) (z:Bool),c0=.int .i64 s/\c1=.int .i64 p/\c2=.bool z:=by
 obtain⟨xs,n,_,_,_,hlen,hg⟩:=DataW.trod_struct Tryd.underlying91 h
 match xs,hlen with
 | [y0,y1,y2],_ =>
  have h0:=hg 0 _ rfl;have h1:=hg 1 _ rfl;have h2:=hg 2 _ rfl;simp[GI] at h0 h1;simp[Kd] at h2;obtain⟨s,e0,_⟩:=DataW.trod_int Tryd.underlying3 h0;obtain⟨p,e1,_⟩:=DataW.trod_int Tryd.underlying3 h1;obtain⟨z,e2,_⟩:=DataW.trod_bool Tryd.underlying4 h2;simp at e0 e1 e2;exact⟨s,p,z,e0,e1,e2⟩
theorem II{H:Type}{enc:TypeId × Value->H}{W:World}{base:Nat}{sp:Nat->Bool}{held:Bool}{n:Nat}{a:Addr}{cs:List Value}{y:DataW H × List MemPlace}
 (hc:W.cells? base a 3=some cs) (h:DataW.trod enc Tryd.prog W base sp held n 91 cs=some y):∃ q:In,W.cell? (a.add 0)=some (.int .i64 q.s)/\W.cell? (a.add 1)=some (.int .i64 q.p)/\W.cell? (a.add 2)=some (.bool q.z):=by
 obtain⟨_,hl,hat⟩:=World.cells?_some hc
 match cs,hl with
 | [c0,c1,c2],_ =>
  obtain⟨s,p,z,rfl,rfl,rfl⟩:=DK h;exact⟨⟨s,p,z⟩,hat 0 (by omega),hat 1 (by omega),hat 2 (by omega)⟩
theorem FA{P:Nat->In->Prop}:∀ n:Nat,(∀ i,i<n->∃ q,P i q)->∃ xs:List In,xs.length=n/\∀ i,i<n->P i (xs.getD i iz)
 | 0,_=>⟨[],rfl,fun _ h=>absurd h (by omega)⟩
 | n+1,h=>by
  obtain⟨xs,hl,hb⟩:=FA n (fun i hi=>h i (by omega));obtain⟨q,hq⟩:=h n (by omega);refine⟨xs++[q],by simp[hl],fun i hi=>?_⟩;by_cases e:i<n
  . rw[List.getD_eq_getElem?_getD,List.getElem?_append_left (by omega),<- List.getD_eq_getElem?_getD];exact hb i e
  . obtain rfl:i=n:=by omega
    rw[List.getD_eq_getElem?_getD,List.getElem?_append_right (by omega),hl];simpa using hq
open Go.ChangeShapes Go.WideShapes Go.ChangeAt Go.RowKit Go.Joins Go.Deep
open M
end Go.Proofs.YtgbiagonfbnooaaDoor
