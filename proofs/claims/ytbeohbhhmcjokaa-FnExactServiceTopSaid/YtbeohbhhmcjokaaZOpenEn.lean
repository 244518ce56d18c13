import Derived.Test.YtbeohbhhmcjokaaZEnRow
import Derived.ProofKit
import Derived.Lib.SmallJoins
import Derived.Deep.Slices
import Derived.Deep.Fields
import Derived.ChangeSame
set_option linter.all false
set_option maxRecDepth 100000
set_option maxHeartbeats 8000000
namespace Go.Proofs.Ytbeohbhhmcjokaa
open Go.ChangeShapes Go.WideShapes Go.ChangeAt Go.RowKit Go.Joins Go.Deep
open M
theorem FG:Try.prog.cellsOf 143=2:=by kernel_rfl
theorem FH:Try.prog.cellsOf 3=1:=by kernel_rfl
theorem C9{H:Type}{enc:TypeId × Value->H}{W:World}{base:Nat}{sp:Nat->Bool}{held:Bool}{n:Nat}{c0 c1:Value}{y:DataW H × List MemPlace}
 (h:DataW.trod enc Try.prog W base sp held n 143 [c0,c1]=some y):∃(s p:Int),c0=.int .i64 s/\c1=.int .i64 p:=by
 obtain⟨xs,n,_,_,_,hlen,hg⟩:=DataW.trod_struct Try.underlying143 h
 match xs,hlen with
 | [y0,y1],_ =>
  have h0:=hg 0 _ rfl;have h1:=hg 1 _ rfl;simp[FH] at h0 h1;obtain⟨s,e0,_⟩:=DataW.trod_int Try.underlying3 h0;obtain⟨p,e1,_⟩:=DataW.trod_int Try.underlying3 h1;simp at e0 e1;exact⟨s,p,e0,e1⟩
theorem Hf{H:Type}{enc:TypeId × Value->H}{W:World}{base:Nat}{sp:Nat->Bool}{held:Bool}{n:Nat}{a:Addr}{cs:List Value}{y:DataW H × List MemPlace}
 (hc:W.cells? base a 2=some cs) (h:DataW.trod enc Try.prog W base sp held n 143 cs=some y):∃ q:En,W.cell? (a.add 0)=some (.int .i64 q.p)/\W.cell? (a.add 1)=some (.int .i64 q.s):=by
 obtain⟨_,hl,hat⟩:=World.cells?_some hc
 match cs,hl with
 | [c0,c1],_ =>
  obtain⟨s,p,rfl,rfl⟩:=C9 h;exact⟨⟨s,p⟩,hat 0 (by omega),hat 1 (by omega)⟩
theorem DF{P:Nat->En->Prop}:∀ n:Nat,(∀ i,i<n->∃ q,P i q)->∃ xs:List En,xs.length=n/\∀ i,i<n->P i (xs.getD i ez)
 | 0,_=>⟨[],rfl,fun _ h=>absurd h (by omega)⟩
 | n+1,h=>by
  obtain⟨xs,hl,hb⟩:=DF n (fun i hi=>h i (by omega));obtain⟨q,hq⟩:=h n (by omega);refine⟨xs++[q],by simp[hl],fun i hi=>?_⟩;by_cases e:i<n
  . rw[List.getD_eq_getElem?_getD,List.getElem?_append_left (by omega),<- List.getD_eq_getElem?_getD];exact hb i e
  . obtain rfl:i=n:=by omega
    rw[List.getD_eq_getElem?_getD,List.getElem?_append_right (by omega),hl];simpa using hq
theorem DG{H:Type}{enc:TypeId × Value->H}{W:World}{base:Nat}{sp:Nat->Bool}{held:Bool}{fuel:Nat}{v:Value}{y:DataW H × List MemPlace}
 (h:DataW.trod enc Try.prog W base sp held fuel 115 [v]=some y):∃(A:Option Addr) (n c:Nat) (xs:List En),v=.slice A n c/\n<=9223372036854775807/\Ents W A n xs:=by
 rcases open_slice Try.underlying115 h with⟨h0,_⟩ | ⟨a,len,cap,m,n,D,Pl,hcs,hb,hl,hm,hmm,hx,hi⟩
 . simp only[List.cons.injEq,and_true] at h0;exact⟨none,0,0,[],h0,by omega,Ents.nil W _⟩
 . simp only[List.cons.injEq,and_true] at hcs;unfold maxLen at hm;have hlm:len<=m:=by rw[hmm]; split<;>omega
   have hq:∀ i,i<len->∃ q:En,W.cell? (a.add (i*2+0))=some (.int .i64 q.p)/\W.cell? (a.add (i*2+1))=some (.int .i64 q.s):=fun i hil=>by
    obtain⟨cs',hc,ht⟩:=hi i (by omega);rw[FG] at hc;obtain⟨q,q0,q1⟩:=Hf hc ht;exact⟨q,by rw[<- add_add]; exact q0,by rw[<- add_add]; exact q1⟩
   obtain⟨xs,hbl,hbs⟩:=DF len hq;refine⟨some a,len,cap,xs,hcs,by omega,hbl,fun h0=>?_⟩;have s0:=(hbs 0 h0).1;obtain⟨b,off,spot⟩:=a;have hspot:spot=none:=by simpa[Addr.add] using World.cell?_spot s0
   subst hspot;have e:∀ j,(Addr.mk b off none).add j=⟨b,off+j,none⟩:=fun j=>by by_cases h:j=0<;>simp[Addr.add,h]
   refine⟨b,off,rfl,?_,fun k hk=>?_⟩
   . rw[e] at s0; exact World.block_lt_of_cell? W _ s0
   . obtain⟨q0,q1⟩:=hbs k hk;rw[e] at q0 q1;exact⟨q0,q1⟩
end Go.Proofs.Ytbeohbhhmcjokaa
