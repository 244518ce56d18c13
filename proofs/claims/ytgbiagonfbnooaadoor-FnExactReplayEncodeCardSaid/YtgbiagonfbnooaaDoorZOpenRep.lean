import Derived.Test.YtgbiagonfbnooaaDoorZOpenSt
import Derived.Test.YtgbiagonfbnooaaDoorZRepC
set_option linter.all false
set_option maxRecDepth 100000
set_option maxHeartbeats 8000000
namespace Go.Proofs.YtgbiagonfbnooaaDoor
open Go.ChangeShapes Go.WideShapes Go.ChangeAt Go.RowKit Go.Joins Go.Deep
open M
theorem Eh{H:Type}{enc:TypeId × Value->H}{W:World}{base:Nat}{sp:Nat->Bool}{held:Bool}{fuel:Nat}{v:Value}{y:DataW H × List MemPlace}
 (h:DataW.trod enc Tryd.prog W base sp held fuel 30 [v]=some y):∃(A:Option Addr) (n c:Nat) (xs:List In),v=.slice A n c/\n<=9223372036854775807/\Inputs W A n xs:=by
 rcases open_slice Tryd.underlying30 h with⟨h0,_⟩ | ⟨a,len,cap,m,n,D,Pl,hcs,hb,hl,hm,hmm,hx,hi⟩
 . simp only[List.cons.injEq,and_true] at h0;exact⟨none,0,0,[],h0,by omega,Inputs.nil W _⟩
 . simp only[List.cons.injEq,and_true] at hcs;unfold maxLen at hm;have hlm:len<=m:=by rw[hmm]; split<;>omega
   have hq:∀ i,i<len->∃ q:In,W.cell? (a.add (i*3+0))=some (.int .i64 q.s)/\W.cell? (a.add (i*3+1))=some (.int .i64 q.p)/\W.cell? (a.add (i*3+2))=some (.bool q.z):=fun i hil=>by
    obtain⟨cs',hc,ht⟩:=hi i (by omega);rw[Kc] at hc;obtain⟨q,q0,q1,q2⟩:=II hc ht;exact⟨q,by rw[<- add_add]; exact q0,by rw[<- add_add]; exact q1,by rw[<- add_add]; exact q2⟩
   obtain⟨xs,hbl,hbs⟩:=FA len hq;refine⟨some a,len,cap,xs,hcs,by omega,hbl,fun h0=>?_⟩;have s0:=(hbs 0 h0).1;obtain⟨b,off,spot⟩:=a;have hspot:spot=none:=by simpa[Addr.add] using World.cell?_spot s0
   subst hspot;have e:∀ j,(Addr.mk b off none).add j=⟨b,off+j,none⟩:=fun j=>by by_cases h:j=0<;>simp[Addr.add,h]
   refine⟨b,off,rfl,?_,fun k hk=>?_⟩
   . rw[e] at s0; exact World.block_lt_of_cell? W _ s0
   . obtain⟨q0,q1,q2⟩:=hbs k hk;rw[e] at q0 q1 q2;exact⟨q0,q1,q2⟩
theorem Fy{H:Type}{enc:TypeId × Value->H}{W:World}{base:Nat}{sp:Nat->Bool}{held:Bool}{fuel:Nat}{v:Value}{y:DataW H × List MemPlace}
 (h:DataW.trod enc Tryd.prog W base sp held fuel 24 [v]=some y):∃(A:Option Addr) (n c:Nat) (xs:List Int),v=.slice A n c/\n<=9223372036854775807/\Ints W A n xs:=by
 rcases open_ints Tryd.underlying24 Tryd.underlying3 (by kernel_rfl) h with⟨hcs,_⟩ | ⟨x,l,c,zs,hcs,_,hl,hm,hz,_,hcell,hwz⟩
 . simp only[List.cons.injEq,and_true] at hcs;exact⟨none,0,0,[],hcs,by omega,rfl,fun h=>absurd h (by omega)⟩
 . simp only[List.cons.injEq,and_true] at hcs;unfold maxLen at hm;have hlz:l<=zs.length:=by rw[hz]; split<;>omega
   refine⟨some x,l,c,zs.take l,hcs,by omega,by simp; omega,fun h0=>?_⟩;obtain⟨b,off,spot⟩:=x;have hc:=hcell 0 (by omega);have hspot:spot=Option.none:=by simpa[Addr.add] using World.cell?_spot hc
   subst hspot;refine⟨b,off,rfl,?_,fun i hi=>?_⟩
   . have:=World.block_lt_of_cell? W _ hc;simpa[Addr.add] using this
   . have hci:=hcell i (by omega);rw[Addr.add_lit] at hci;rw[hci,List.getD_eq_getElem?_getD,List.getD_eq_getElem?_getD,List.getElem?_take,if_pos hi]
theorem IF:Tryd.prog.cellsOf 32=6:=by kernel_rfl
theorem IG:Tryd.prog.cellsOf 30=1:=by kernel_rfl
theorem IH:Tryd.prog.cellsOf 24=1:=by kernel_rfl
theorem Fz{H:Type}{enc:TypeId × Value->H}{W:World}{r:Reach}{b0 base:Nat}{sp:Nat->Bool}{held:Bool}{v:Value}{d:DataW H}{p:List MemPlace}
 (hv:Value.okWide Tryd.prog W r b0 32 v) (h:DataW.Trod enc Tryd.prog W base sp held 32 v d p) :
 ∃(l p s:Int) (A:Option Addr) (n c:Nat) (G:Option Addr) (m d:Nat) (t:Int) (xs:List In) (hs:List Int),v=Ci l p s A n c G m d t/\n<=9223372036854775807/\m<=9223372036854775807/\Inputs W A n xs/\Ints W G m hs:=by
 obtain⟨cs,rfl,hsz⟩:=okWide_struct Tryd.underlying32 hv;rw[IF] at hsz;obtain⟨l⟩:=cs;obtain⟨c0,c1,c2,c3,c4,c5,rfl⟩:∃ c0 c1 c2 c3 c4 c5,l=[c0,c1,c2,c3,c4,c5]:=by
  match l,hsz with
  | [c0,c1,c2,c3,c4,c5],_=>exact⟨c0,c1,c2,c3,c4,c5,rfl⟩
 obtain⟨fuel,hf⟩:=h;obtain⟨xs,n,_,_,_,hlen,hg⟩:=DataW.trod_struct Tryd.underlying32 hf
 match xs,hlen with
 | [y0,y1,y2,y3,y4,y5],_ =>
  have h0:=hg 0 _ rfl;have h1:=hg 1 _ rfl;have h2:=hg 2 _ rfl;have h3:=hg 3 _ rfl;have h4:=hg 4 _ rfl;have h5:=hg 5 _ rfl;simp[GI,Value.cells] at h0 h1 h2 h5;simp[IG,Value.cells] at h3;simp[IH,Value.cells] at h4;obtain⟨i,e0,_⟩:=DataW.trod_int Tryd.underlying3 h0;obtain⟨t,e1,_⟩:=DataW.trod_int Tryd.underlying3 h1;obtain⟨b,e2,_⟩:=DataW.trod_int Tryd.underlying3 h2;obtain⟨u,e5,_⟩:=DataW.trod_int Tryd.underlying3 h5;simp at e0 e1 e2 e5;obtain⟨A,na,c,ws,rfl,hn,I⟩:=Eh h3;obtain⟨G,m,kk,gs,rfl,hm,J⟩:=Fy h4;subst e0 e1 e2 e5;exact⟨i,t,b,A,na,c,G,m,kk,u,ws,gs,rfl,hn,hm,I,J⟩
end Go.Proofs.YtgbiagonfbnooaaDoor
