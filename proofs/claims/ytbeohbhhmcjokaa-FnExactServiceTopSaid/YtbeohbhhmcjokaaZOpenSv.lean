import Derived.Test.YtbeohbhhmcjokaaZOpenSt
import Derived.Test.YtbeohbhhmcjokaaZOpenEn
import Derived.Test.YtbeohbhhmcjokaaZSvZ
set_option linter.all false
set_option maxRecDepth 100000
set_option maxHeartbeats 8000000
namespace Go.Proofs.Ytbeohbhhmcjokaa
open Go.ChangeShapes Go.WideShapes Go.ChangeAt Go.RowKit Go.Joins Go.Deep
open M
theorem FI:Try.prog.cellsOf 117=12:=by kernel_rfl
theorem FJ:Try.prog.cellsOf 115=1:=by kernel_rfl
theorem FK:Try.prog.cellsOf 38=1:=by kernel_rfl
theorem FL:Try.prog.cellsOf 23=1:=by kernel_rfl
theorem FM:Try.prog.cellsOf 40=3:=by kernel_rfl
theorem Da{H:Type}{enc:TypeId × Value->H}{W:World}{base:Nat}{sp:Nat->Bool}{held:Bool}{fuel:Nat}{c0 c1 c2 c3 c4 c5 c6 c7 c8 c9 c10:Value}{y:DataW H × List MemPlace}
 (hf:DataW.trod enc Try.prog W base sp held fuel 50 [c0,c1,c2,c3,c4,c5,c6,c7,c8,c9,c10]=some y) :
 ∃(i t x y:Int) (A:Option Addr) (n c:Nat) (G:Option Addr) (m kk:Nat) (p q s z b:Int) (ws gs:List Bx),[c0,c1,c2,c3,c4,c5,c6,c7,c8,c9,c10]=AV i t x y A n c G m kk p q s z b/\n<=9223372036854775807/\m<=9223372036854775807/\Boxes W A n ws/\Boxes W G m gs:=by
 obtain⟨xs,n,_,_,_,hlen,hg⟩:=DataW.trod_struct Try.underlying50 hf
 match xs,hlen with
 | [y0,y1,y2,y3,y4,y5,y6],_ =>
  have h0:=hg 0 _ rfl;have h1:=hg 1 _ rfl;have h2:=hg 2 _ rfl;have h3:=hg 3 _ rfl;have h4:=hg 4 _ rfl;have h5:=hg 5 _ rfl;have h6:=hg 6 _ rfl;simp[Ey,Value.cells] at h0 h1 h6;simp[Ex,Value.cells] at h2;simp[Gy,Value.cells] at h3 h4;simp[Ew,Value.cells] at h5;obtain⟨i,e0,_⟩:=DataW.trod_int Try.underlying3 h0;obtain⟨t,e1,_⟩:=DataW.trod_int Try.underlying3 h1;obtain⟨b,e6,_⟩:=DataW.trod_int Try.underlying3 h6;simp at e0 e1 e6;obtain⟨x,y,rfl,rfl⟩:=A2 h2;obtain⟨p,q,s,z,rfl,rfl,rfl,rfl⟩:=BR h5;obtain⟨A,na,c,ws,rfl,hn,I⟩:=Cx h3;obtain⟨G,m,kk,gs,rfl,hm,J⟩:=Cx h4;subst e0 e1 e6
  exact⟨i,t,x,y,A,na,c,G,m,kk,p,q,s,z,b,ws,gs,rfl,hn,hm,I,J⟩
theorem Db{H:Type}{enc:TypeId × Value->H}{W:World}{base:Nat}{sp:Nat->Bool}{held:Bool}{fuel:Nat}{cs:List Value}{y:DataW H × List MemPlace}
 (hl:cs.length=12) (hf:DataW.trod enc Try.prog W base sp held fuel 117 cs=some y):∃ q:Tk,cs=q.cs/\q.AtW W:=by
 obtain⟨c0,c1,c2,c3,c4,c5,c6,c7,c8,c9,c10,c11,rfl⟩:∃ c0 c1 c2 c3 c4 c5 c6 c7 c8 c9 c10 c11,cs=[c0,c1,c2,c3,c4,c5,c6,c7,c8,c9,c10,c11]:=by
  match cs,hl with
  | [c0,c1,c2,c3,c4,c5,c6,c7,c8,c9,c10,c11],_=>exact⟨c0,c1,c2,c3,c4,c5,c6,c7,c8,c9,c10,c11,rfl⟩
 obtain⟨xs,n,_,_,_,hlen,hg⟩:=DataW.trod_struct Try.underlying117 hf
 match xs,hlen with
 | [y0,y1],_ =>
  have h0:=hg 0 _ rfl;have h1:=hg 1 _ rfl;simp[Ez,Value.cells] at h0;simp[Ez,FJ,Value.cells] at h1;obtain⟨i,t,x,y,A,na,c,G,m,kk,p,q,s,z,b,ws,gs,e,hn,hm,I,J⟩:=Da h0;obtain⟨D,l,cc,es,e1,hl3,E⟩:=DG h1;simp only[AV,List.cons.injEq,and_true] at e;obtain⟨rfl,rfl,rfl,rfl,rfl,rfl,rfl,rfl,rfl,rfl,rfl⟩:=e;subst e1;exact⟨⟨⟨i,t,x,y,A,na,c,G,m,kk,p,q,s,z,b,ws,gs⟩,D,l,cc,es⟩,rfl,I,J,E,hn,hm,hl3⟩
theorem DI{P:Nat->Tk->Prop}:∀ n:Nat,(∀ i,i<n->∃ q,P i q)->∃ xs:List Tk,xs.length=n/\∀ i q,xs[i]?=some q->P i q
 | 0,_=>⟨[],rfl,fun _ _ h=>by cases h⟩
 | n+1,h=>by
  obtain⟨xs,hl,hb⟩:=DI n (fun i hi=>h i (by omega));obtain⟨q,hq⟩:=h n (by omega);refine⟨xs++[q],by simp[hl],fun i p hi=>?_⟩;by_cases e:i<n
  . rw[List.getElem?_append_left (by omega)] at hi;exact hb i p hi
  . rw[List.getElem?_append_right (by omega)] at hi;obtain rfl:i=n:=by
     rcases Nat.lt_or_ge (i-xs.length) 1 with h1 | h1
     . omega
     . rw[List.getElem?_eq_none (by simpa using h1)] at hi; cases hi
    rw[hl,Nat.sub_self] at hi;cases hi
    exact hq
theorem CJ{H:Type}{enc:TypeId × Value->H}{W:World}{base:Nat}{sp:Nat->Bool}{held:Bool}{fuel:Nat}{v:Value}{y:DataW H × List MemPlace}
 (h:DataW.trod enc Try.prog W base sp held fuel 38 [v]=some y):∃(A:Option Addr) (n c:Nat) (ts:List Tk),v=.slice A n c/\n<=9223372036854775807/\TracksW W A n ts:=by
 rcases open_slice Try.underlying38 h with⟨h0,_⟩ | ⟨a,len,cap,m,n,D,Pl,hcs,hb,hl,hm,hmm,hx,hi⟩
 . simp only[List.cons.injEq,and_true] at h0;exact⟨none,0,0,[],h0,by omega,⟨rfl,fun h=>absurd h (by omega),fun q hq=>by cases hq⟩⟩
 . simp only[List.cons.injEq,and_true] at hcs;unfold maxLen at hm;have hlm:len<=m:=by rw[hmm]; split<;>omega
   have hq:∀ i,i<len->∃ q:Tk,q.AtW W/\∀ j u,q.cs[j]?=some u->W.cell? (a.add (i*12+j))=some u:=fun i hil=>by
    obtain⟨cs',hc,ht⟩:=hi i (by omega);rw[FI] at hc;obtain⟨_,hl12,hat⟩:=World.cells?_some hc;obtain⟨q,rfl,hq⟩:=Db hl12 ht;refine⟨q,hq,fun j u hj=>?_⟩;have hjl:j<12:=by
     rcases Nat.lt_or_ge j 12 with h1 | h1
     . exact h1
     . rw[List.getElem?_eq_none (by rw[hl12]; exact h1)] at hj; cases hj
    have t:=hat j (by omega);rw[<- add_add,t];exact hj
   obtain⟨ts,hbl,hbs⟩:=DI len hq;refine⟨some a,len,cap,ts,hcs,by omega,hbl,fun h0=>?_,fun q hqm=>?_⟩
   . have hs:=(hbs 0 _ (List.getElem?_eq_getElem (by omega))).2 0 _ rfl;obtain⟨b,off,spot⟩:=a;have hspot:spot=none:=by simpa[Addr.add] using World.cell?_spot hs
     subst hspot;have e:∀ j,(Addr.mk b off none).add j=⟨b,off+j,none⟩:=fun j=>by by_cases h:j=0<;>simp[Addr.add,h]
     refine⟨b,off,rfl,?_,fun k q hk j u hj=>?_⟩
     . rw[e] at hs; exact World.block_lt_of_cell? W _ hs
     . have t:=(hbs k q hk).2 j u hj;rw[e] at t;rw[<- t,Nat.add_assoc]
   . obtain⟨k,hk,rfl⟩:=List.getElem_of_mem hqm;exact(hbs k _ (List.getElem?_eq_getElem hk)).1
theorem BS{H:Type}{enc:TypeId × Value->H}{W:World}{base:Nat}{sp:Nat->Bool}{held:Bool}{fuel:Nat}{v:Value}{y:DataW H × List MemPlace}
 (h:DataW.trod enc Try.prog W base sp held fuel 23 [v]=some y):∃(A:Option Addr) (n c:Nat) (xs:List Int),v=.slice A n c/\n<=9223372036854775807/\Ints W A n xs:=by
 rcases open_ints Try.underlying23 Try.underlying3 (by kernel_rfl) h with⟨hcs,_⟩ | ⟨x,l,c,zs,hcs,_,hl,hm,hz,_,hcell,hwz⟩
 . simp only[List.cons.injEq,and_true] at hcs;exact⟨none,0,0,[],hcs,by omega,rfl,fun h=>absurd h (by omega)⟩
 . simp only[List.cons.injEq,and_true] at hcs;unfold maxLen at hm;have hlz:l<=zs.length:=by rw[hz]; split<;>omega
   refine⟨some x,l,c,zs.take l,hcs,by omega,by simp; omega,fun h0=>?_⟩;obtain⟨b,off,spot⟩:=x;have hc:=hcell 0 (by omega);have hspot:spot=Option.none:=by simpa[Addr.add] using World.cell?_spot hc
   subst hspot;refine⟨b,off,rfl,?_,fun i hi=>?_⟩
   . have:=World.block_lt_of_cell? W _ hc;simpa[Addr.add] using this
   . have hci:=hcell i (by omega);rw[Addr.add_lit] at hci;rw[hci,List.getD_eq_getElem?_getD,List.getD_eq_getElem?_getD,List.getElem?_take,if_pos hi]
theorem BC{H:Type}{enc:TypeId × Value->H}{W:World}{r:Reach}{b0 base:Nat}{sp:Nat->Bool}{held:Bool}{v:Value}{d:DataW H}{p:List MemPlace}
 (hv:Value.okWide Try.prog W r b0 40 v) (h:DataW.Trod enc Try.prog W base sp held 40 v d p):∃ s:Sv,v=s.val/\s.AtW W:=by
 obtain⟨cs,rfl,hsz⟩:=okWide_struct Try.underlying40 hv;rw[FM] at hsz;obtain⟨l⟩:=cs;obtain⟨c0,c1,c2,rfl⟩:∃ c0 c1 c2,l=[c0,c1,c2]:=by
  match l,hsz with
  | [c0,c1,c2],_=>exact⟨c0,c1,c2,rfl⟩
 obtain⟨fuel,hf⟩:=h;obtain⟨xs,n,_,_,_,hlen,hg⟩:=DataW.trod_struct Try.underlying40 hf
 match xs,hlen with
 | [y0,y1,y2],_ =>
  have h0:=hg 0 _ rfl;have h1:=hg 1 _ rfl;have h2:=hg 2 _ rfl;simp[FK,FL,Value.cells] at h0 h1 h2;obtain⟨A,n,c,ts,rfl,hn,T⟩:=CJ h0;obtain⟨H,m,d,ks,rfl,hm,K⟩:=BS h1;obtain⟨G,l,e,gs,rfl,hl,S⟩:=BS h2;exact⟨⟨A,n,c,H,m,d,G,l,e,ts,ks,gs⟩,rfl,T,K,S,hn,hm,hl⟩
end Go.Proofs.Ytbeohbhhmcjokaa
