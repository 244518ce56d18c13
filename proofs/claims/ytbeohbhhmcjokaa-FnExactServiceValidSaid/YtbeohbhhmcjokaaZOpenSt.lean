import Derived.ProofKit
import Derived.Lib.SmallJoins
import Derived.Deep.Slices
import Derived.Deep.Fields
import Derived.ChangeSame
import Derived.Test.YtbeohbhhmcjokaaZEng
set_option linter.all false
set_option maxRecDepth 100000
set_option maxHeartbeats 8000000
namespace Go.Proofs.Ytbeohbhhmcjokaa
open Go.ChangeShapes Go.WideShapes Go.ChangeAt Go.RowKit Go.Joins
theorem Ew:Try.prog.cellsOf 48=4:=by kernel_rfl
theorem Ex:Try.prog.cellsOf 45=2:=by kernel_rfl
theorem Ey:Try.prog.cellsOf 3=1:=by kernel_rfl
theorem A2{H:Type}{enc:TypeId × Value->H}{W:World}{base:Nat}{sp:Nat->Bool}{held:Bool}{n:Nat}{c0 c1:Value}{y:DataW H × List MemPlace}
 (h:DataW.trod enc Try.prog W base sp held n 45 [c0,c1]=some y):∃ x z:Int,c0=.int .i64 x/\c1=.int .i64 z:=by
 obtain⟨y0,y1,m,_,_,h0,h1⟩:=trod_struct2 Try.underlying45 h;simp[Ey] at h0 h1;obtain⟨x,e0,_⟩:=DataW.trod_int Try.underlying3 h0;obtain⟨z,e1,_⟩:=DataW.trod_int Try.underlying3 h1;simp at e0 e1;exact⟨x,z,e0,e1⟩
end Go.Proofs.Ytbeohbhhmcjokaa
namespace Go.Proofs.Ytbeohbhhmcjokaa
open Go.ChangeShapes Go.WideShapes Go.ChangeAt Go.RowKit Go.Joins Go.Deep
open M
theorem BR{H:Type}{enc:TypeId × Value->H}{W:World}{base:Nat}{sp:Nat->Bool}{held:Bool}{n:Nat}{c0 c1 c2 c3:Value}{y:DataW H × List MemPlace}
 (h:DataW.trod enc Try.prog W base sp held n 48 [c0,c1,c2,c3]=some y):∃ a b c d:Int,c0=.int .i64 a/\c1=.int .i64 b/\c2=.int .i64 c/\c3=.int .i64 d:=by
 obtain⟨y0,y1,m,_,_,h0,h1⟩:=trod_struct2 Try.underlying48 h;simp[Ex] at h0 h1;obtain⟨a,b,rfl,rfl⟩:=A2 h0;obtain⟨c,d,rfl,rfl⟩:=A2 h1;exact⟨a,b,c,d,rfl,rfl,rfl,rfl⟩
theorem Ez:Try.prog.cellsOf 50=11:=by kernel_rfl
theorem Gy:Try.prog.cellsOf 46=1:=by kernel_rfl
theorem Hg{H:Type}{enc:TypeId × Value->H}{W:World}{base:Nat}{sp:Nat->Bool}{held:Bool}{n:Nat}{a:Addr}{cs:List Value}{y:DataW H × List MemPlace}
 (hc:W.cells? base a 4=some cs) (h:DataW.trod enc Try.prog W base sp held n 48 cs=some y):∃ q:Bx,W.cell? (a.add 0)=some (.int .i64 q.a)/\W.cell? (a.add 1)=some (.int .i64 q.b)/\W.cell? (a.add 2)=some (.int .i64 q.c)/\W.cell? (a.add 3)=some (.int .i64 q.d):=by
 obtain⟨_,hl,hat⟩:=World.cells?_some hc
 match cs,hl with
 | [c0,c1,c2,c3],_ =>
  obtain⟨p,q,s,t,rfl,rfl,rfl,rfl⟩:=BR h;exact⟨⟨p,q,s,t⟩,hat 0 (by omega),hat 1 (by omega),hat 2 (by omega),hat 3 (by omega)⟩
theorem EA{P:Nat->Bx->Prop}:∀ n:Nat,(∀ i,i<n->∃ q,P i q)->∃ bs:List Bx,bs.length=n/\∀ i,i<n->P i (bs.getD i bz)
 | 0,_=>⟨[],rfl,fun _ h=>absurd h (by omega)⟩
 | n+1,h=>by
  obtain⟨bs,hl,hb⟩:=EA n (fun i hi=>h i (by omega));obtain⟨q,hq⟩:=h n (by omega);refine⟨bs++[q],by simp[hl],fun i hi=>?_⟩;by_cases e:i<n
  . rw[List.getD_eq_getElem?_getD,List.getElem?_append_left (by omega),<- List.getD_eq_getElem?_getD];exact hb i e
  . obtain rfl:i=n:=by omega
    rw[List.getD_eq_getElem?_getD,List.getElem?_append_right (by omega),hl];simpa using hq
theorem Cx{H:Type}{enc:TypeId × Value->H}{W:World}{base:Nat}{sp:Nat->Bool}{held:Bool}{fuel:Nat}{v:Value}{y:DataW H × List MemPlace}
 (h:DataW.trod enc Try.prog W base sp held fuel 46 [v]=some y):∃(A:Option Addr) (n c:Nat) (bs:List Bx),v=.slice A n c/\n<=9223372036854775807/\Boxes W A n bs:=by
 rcases open_slice Try.underlying46 h with⟨h0,_⟩ | ⟨a,len,cap,m,n,D,Pl,hcs,hb,hl,hm,hmm,hx,hi⟩
 . simp only[List.cons.injEq,and_true] at h0;exact⟨none,0,0,[],h0,by omega,Boxes.nil W _⟩
 . simp only[List.cons.injEq,and_true] at hcs;unfold maxLen at hm;have hlm:len<=m:=by rw[hmm]; split<;>omega
   have hq:∀ i,i<len->∃ q:Bx,W.cell? (a.add (i*4+0))=some (.int .i64 q.a)/\W.cell? (a.add (i*4+1))=some (.int .i64 q.b)/\W.cell? (a.add (i*4+2))=some (.int .i64 q.c)/\W.cell? (a.add (i*4+3))=some (.int .i64 q.d):=fun i hil=>by
    obtain⟨cs',hc,ht⟩:=hi i (by omega);rw[Ew] at hc;obtain⟨q,q0,q1,q2,q3⟩:=Hg hc ht;exact⟨q,by rw[<- add_add]; exact q0,by rw[<- add_add]; exact q1,by rw[<- add_add]; exact q2,by rw[<- add_add]; exact q3⟩
   obtain⟨bs,hbl,hbs⟩:=EA len hq;refine⟨some a,len,cap,bs,hcs,by omega,hbl,fun h0=>?_⟩;have s0:=(hbs 0 h0).1;obtain⟨b,off,spot⟩:=a;have hspot:spot=none:=by simpa[Addr.add] using World.cell?_spot s0
   subst hspot;have e:∀ j,(Addr.mk b off none).add j=⟨b,off+j,none⟩:=fun j=>by by_cases h:j=0<;>simp[Addr.add,h]
   refine⟨b,off,rfl,?_,fun k hk=>?_⟩
   . rw[e] at s0; exact World.block_lt_of_cell? W _ s0
   . obtain⟨q0,q1,q2,q3⟩:=hbs k hk;rw[e] at q0 q1 q2 q3;exact⟨q0,q1,q2,q3⟩
open Go.ChangeShapes Go.WideShapes Go.ChangeAt Go.RowKit Go.Joins Go.Deep
open M
open Go.ChangeShapes Go.WideShapes Go.ChangeAt Go.RowKit Go.Joins Go.Deep
open M
end Go.Proofs.Ytbeohbhhmcjokaa
