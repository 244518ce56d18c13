import Derived.ProofKit
import Derived.Lib.SmallJoins
import Derived.Deep.Slices
import Derived.Deep.Fields
import Derived.ChangeSame
import Derived.Test.YtflmmdljkhdjlaaZInRow
import Derived.Test.YtflmmdljkhdjlaaZEng
set_option linter.all false
set_option maxRecDepth 100000
set_option maxHeartbeats 8000000
namespace Go.Proofs.Ytflmmdljkhdjlaa
open Go.ChangeShapes Go.WideShapes Go.ChangeAt Go.RowKit Go.Joins
theorem Mi:Try.prog.cellsOf 3=1:=by kernel_rfl
end Go.Proofs.Ytflmmdljkhdjlaa
namespace Go.Proofs.Ytflmmdljkhdjlaa
open Go.ChangeShapes Go.WideShapes Go.ChangeAt Go.RowKit Go.Joins Go.Deep
open M
open Go.ChangeShapes Go.WideShapes Go.ChangeAt Go.RowKit Go.Joins Go.Deep
open M
theorem Mw:Try.prog.cellsOf 96=3:=by kernel_rfl
theorem Mx:Try.prog.cellsOf 4=1:=by kernel_rfl
theorem LM{H:Type}{enc:TypeId × Value->H}{W:World}{base:Nat}{sp:Nat->Bool}{held:Bool}{n:Nat}{c0 c1 c2:Value}{y:DataW H × List MemPlace}
 (h:DataW.trod enc Try.prog W base sp held n 96 [c0,c1,c2]=some y):∃(s p:Int) (z:Bool),c0=.int .i64 s/\c1=.int .i64 p/\c2=.bool z:=by
 obtain⟨xs,n,_,_,_,hlen,hg⟩:=DataW.trod_struct Try.underlying96 h
 match xs,hlen with
 | [y0,y1,y2],_ =>
  have h0:=hg 0 _ rfl;have h1:=hg 1 _ rfl;have h2:=hg 2 _ rfl;simp[Mi] at h0 h1;simp[Mx] at h2;obtain⟨s,e0,_⟩:=DataW.trod_int Try.underlying3 h0;obtain⟨p,e1,_⟩:=DataW.trod_int Try.underlying3 h1;obtain⟨z,e2,_⟩:=DataW.trod_bool Try.underlying4 h2;simp at e0 e1 e2;exact⟨s,p,z,e0,e1,e2⟩
theorem Ms{H:Type}{enc:TypeId × Value->H}{W:World}{base:Nat}{sp:Nat->Bool}{held:Bool}{n:Nat}{a:Addr}{cs:List Value}{y:DataW H × List MemPlace}
 (hc:W.cells? base a 3=some cs) (h:DataW.trod enc Try.prog W base sp held n 96 cs=some y):∃ q:In,W.cell? (a.add 0)=some (.int .i64 q.s)/\W.cell? (a.add 1)=some (.int .i64 q.p)/\W.cell? (a.add 2)=some (.bool q.z):=by
 obtain⟨_,hl,hat⟩:=World.cells?_some hc
 match cs,hl with
 | [c0,c1,c2],_ =>
  obtain⟨s,p,z,rfl,rfl,rfl⟩:=LM h;exact⟨⟨s,p,z⟩,hat 0 (by omega),hat 1 (by omega),hat 2 (by omega)⟩
theorem L3{P:Nat->In->Prop}:∀ n:Nat,(∀ i,i<n->∃ q,P i q)->∃ xs:List In,xs.length=n/\∀ i,i<n->P i (xs.getD i iz)
 | 0,_=>⟨[],rfl,fun _ h=>absurd h (by omega)⟩
 | n+1,h=>by
  obtain⟨xs,hl,hb⟩:=L3 n (fun i hi=>h i (by omega));obtain⟨q,hq⟩:=h n (by omega);refine⟨xs++[q],by simp[hl],fun i hi=>?_⟩;by_cases e:i<n
  . rw[List.getD_eq_getElem?_getD,List.getElem?_append_left (by omega),<- List.getD_eq_getElem?_getD];exact hb i e
  . obtain rfl:i=n:=by omega
    rw[List.getD_eq_getElem?_getD,List.getElem?_append_right (by omega),hl];simpa using hq
theorem L4{H:Type}{enc:TypeId × Value->H}{W:World}{base:Nat}{sp:Nat->Bool}{held:Bool}{v:Value}{d:DataW H}{p:List MemPlace}{r:Reach}{b0:Nat}
 (hv:Value.okWide Try.prog W r b0 46 v) (h:DataW.Trod enc Try.prog W base sp held 46 v d p):∃(A:Option Addr) (n c:Nat) (xs:List In),v=.slice A n c/\n<=9223372036854775807/\Inputs W A n xs:=by
 obtain⟨A0,n0,c0,rfl⟩:=okWide_slice Try.underlying46 hv;obtain⟨fuel,hf⟩:=h;rcases open_slice Try.underlying46 hf with⟨h0,_⟩ | ⟨a,len,cap,m,n,D,Pl,hcs,hb,hl,hm,hmm,hx,hi⟩
 . simp[Value.cells] at h0;obtain⟨rfl,rfl,rfl⟩:=h0;exact⟨none,0,0,[],rfl,by omega,Inputs.nil W _⟩
 . simp[Value.cells] at hcs;obtain⟨rfl,rfl,rfl⟩:=hcs;unfold maxLen at hm;have hlm:n0<=m:=by rw[hmm]; split<;>omega
   have hq:∀ i,i<n0->∃ q:In,W.cell? (a.add (i*3+0))=some (.int .i64 q.s)/\W.cell? (a.add (i*3+1))=some (.int .i64 q.p)/\W.cell? (a.add (i*3+2))=some (.bool q.z):=fun i hil=>by
    obtain⟨cs',hc,ht⟩:=hi i (by omega);rw[Mw] at hc;obtain⟨q,q0,q1,q2⟩:=Ms hc ht;exact⟨q,by rw[<- add_add]; exact q0,by rw[<- add_add]; exact q1,by rw[<- add_add]; exact q2⟩
   obtain⟨xs,hbl,hbs⟩:=L3 n0 hq;refine⟨some a,n0,c0,xs,rfl,by omega,hbl,fun h0=>?_⟩;have s0:=(hbs 0 h0).1;obtain⟨b,off,spot⟩:=a;have hspot:spot=none:=by simpa[Addr.add] using World.cell?_spot s0
   subst hspot;have e:∀ j,(Addr.mk b off none).add j=⟨b,off+j,none⟩:=fun j=>by by_cases h:j=0<;>simp[Addr.add,h]
   refine⟨b,off,rfl,?_,fun k hk=>?_⟩
   . rw[e] at s0; exact World.block_lt_of_cell? W _ s0
   . obtain⟨q0,q1,q2⟩:=hbs k hk;rw[e] at q0 q1 q2;exact⟨q0,q1,q2⟩
open Go.ChangeShapes Go.WideShapes Go.ChangeAt Go.RowKit Go.Joins Go.Deep
open M
end Go.Proofs.Ytflmmdljkhdjlaa
