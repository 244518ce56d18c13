import Derived.Test.YtflmmdljkhdjlaaZOpenSt
import Derived.Test.YtflmmdljkhdjlaaZRepC
set_option linter.all false
set_option maxRecDepth 100000
set_option maxHeartbeats 8000000
namespace Go.Proofs.Ytflmmdljkhdjlaa
open Go.ChangeShapes Go.WideShapes Go.ChangeAt Go.RowKit Go.Joins Go.Deep
open M
theorem BN{H:Type}{enc:TypeId × Value->H}{W:World}{base:Nat}{sp:Nat->Bool}{held:Bool}{fuel:Nat}{v:Value}{y:DataW H × List MemPlace}
 (h:DataW.trod enc Try.prog W base sp held fuel 46 [v]=some y):∃(A:Option Addr) (n c:Nat) (xs:List In),v=.slice A n c/\n<=9223372036854775807/\Inputs W A n xs:=by
 rcases open_slice Try.underlying46 h with⟨h0,_⟩ | ⟨a,len,cap,m,n,D,Pl,hcs,hb,hl,hm,hmm,hx,hi⟩
 . simp only[List.cons.injEq,and_true] at h0;exact⟨none,0,0,[],h0,by omega,Inputs.nil W _⟩
 . simp only[List.cons.injEq,and_true] at hcs;unfold maxLen at hm;have hlm:len<=m:=by rw[hmm]; split<;>omega
   have hq:∀ i,i<len->∃ q:In,W.cell? (a.add (i*3+0))=some (.int .i64 q.s)/\W.cell? (a.add (i*3+1))=some (.int .i64 q.p)/\W.cell? (a.add (i*3+2))=some (.bool q.z):=fun i hil=>by
    obtain⟨cs',hc,ht⟩:=hi i (by omega);rw[Mw] at hc;obtain⟨q,q0,q1,q2⟩:=Ms hc ht;exact⟨q,by rw[<- add_add]; exact q0,by rw[<- add_add]; exact q1,by rw[<- add_add]; exact q2⟩
   obtain⟨xs,hbl,hbs⟩:=L3 len hq;refine⟨some a,len,cap,xs,hcs,by omega,hbl,fun h0=>?_⟩;have s0:=(hbs 0 h0).1;obtain⟨b,off,spot⟩:=a;have hspot:spot=none:=by simpa[Addr.add] using World.cell?_spot s0
   subst hspot;have e:∀ j,(Addr.mk b off none).add j=⟨b,off+j,none⟩:=fun j=>by by_cases h:j=0<;>simp[Addr.add,h]
   refine⟨b,off,rfl,?_,fun k hk=>?_⟩
   . rw[e] at s0; exact World.block_lt_of_cell? W _ s0
   . obtain⟨q0,q1,q2⟩:=hbs k hk;rw[e] at q0 q1 q2;exact⟨q0,q1,q2⟩
theorem B6{H:Type}{enc:TypeId × Value->H}{W:World}{base:Nat}{sp:Nat->Bool}{held:Bool}{fuel:Nat}{v:Value}{y:DataW H × List MemPlace}
 (h:DataW.trod enc Try.prog W base sp held fuel 39 [v]=some y):∃(A:Option Addr) (n c:Nat) (xs:List Int),v=.slice A n c/\n<=9223372036854775807/\Ints W A n xs:=by
 rcases open_ints Try.underlying39 Try.underlying3 (by kernel_rfl) h with⟨hcs,_⟩ | ⟨x,l,c,zs,hcs,_,hl,hm,hz,_,hcell,hwz⟩
 . simp only[List.cons.injEq,and_true] at hcs;exact⟨none,0,0,[],hcs,by omega,rfl,fun h=>absurd h (by omega)⟩
 . simp only[List.cons.injEq,and_true] at hcs;unfold maxLen at hm;have hlz:l<=zs.length:=by rw[hz]; split<;>omega
   refine⟨some x,l,c,zs.take l,hcs,by omega,by simp; omega,fun h0=>?_⟩;obtain⟨b,off,spot⟩:=x;have hc:=hcell 0 (by omega);have hspot:spot=Option.none:=by simpa[Addr.add] using World.cell?_spot hc
   subst hspot;refine⟨b,off,rfl,?_,fun i hi=>?_⟩
   . have:=World.block_lt_of_cell? W _ hc;simpa[Addr.add] using this
   . have hci:=hcell i (by omega);rw[Addr.add_lit] at hci;rw[hci,List.getD_eq_getElem?_getD,List.getD_eq_getElem?_getD,List.getElem?_take,if_pos hi]
theorem EM:Try.prog.cellsOf 57=6:=by kernel_rfl
theorem ES:Try.prog.cellsOf 46=1:=by kernel_rfl
theorem E1:Try.prog.cellsOf 39=1:=by kernel_rfl
theorem A9{H:Type}{enc:TypeId × Value->H}{W:World}{r:Reach}{b0 base:Nat}{sp:Nat->Bool}{held:Bool}{v:Value}{d:DataW H}{p:List MemPlace}
 (hv:Value.okWide Try.prog W r b0 57 v) (h:DataW.Trod enc Try.prog W base sp held 57 v d p) :
 ∃(l p s:Int) (A:Option Addr) (n c:Nat) (G:Option Addr) (m d:Nat) (t:Int) (xs:List In) (hs:List Int),v=Dp l p s A n c G m d t/\n<=9223372036854775807/\m<=9223372036854775807/\Inputs W A n xs/\Ints W G m hs:=by
 obtain⟨cs,rfl,hsz⟩:=okWide_struct Try.underlying57 hv;rw[EM] at hsz;obtain⟨l⟩:=cs;obtain⟨c0,c1,c2,c3,c4,c5,rfl⟩:∃ c0 c1 c2 c3 c4 c5,l=[c0,c1,c2,c3,c4,c5]:=by
  match l,hsz with
  | [c0,c1,c2,c3,c4,c5],_=>exact⟨c0,c1,c2,c3,c4,c5,rfl⟩
 obtain⟨fuel,hf⟩:=h;obtain⟨xs,n,_,_,_,hlen,hg⟩:=DataW.trod_struct Try.underlying57 hf
 match xs,hlen with
 | [y0,y1,y2,y3,y4,y5],_ =>
  have h0:=hg 0 _ rfl;have h1:=hg 1 _ rfl;have h2:=hg 2 _ rfl;have h3:=hg 3 _ rfl;have h4:=hg 4 _ rfl;have h5:=hg 5 _ rfl;simp[Mi,Value.cells] at h0 h1 h2 h5;simp[ES,Value.cells] at h3;simp[E1,Value.cells] at h4;obtain⟨i,e0,_⟩:=DataW.trod_int Try.underlying3 h0;obtain⟨t,e1,_⟩:=DataW.trod_int Try.underlying3 h1;obtain⟨b,e2,_⟩:=DataW.trod_int Try.underlying3 h2;obtain⟨u,e5,_⟩:=DataW.trod_int Try.underlying3 h5;simp at e0 e1 e2 e5;obtain⟨A,na,c,ws,rfl,hn,I⟩:=BN h3;obtain⟨G,m,kk,gs,rfl,hm,J⟩:=B6 h4;subst e0 e1 e2 e5;exact⟨i,t,b,A,na,c,G,m,kk,u,ws,gs,rfl,hn,hm,I,J⟩
end Go.Proofs.Ytflmmdljkhdjlaa
