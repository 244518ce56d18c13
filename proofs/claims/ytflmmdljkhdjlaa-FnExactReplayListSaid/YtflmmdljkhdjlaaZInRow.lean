import Derived.Test.YtflmmdljkhdjlaaZInS
import Derived.Test.YtflmmdljkhdjlaaZLevH
import Derived.Test.YtflmmdljkhdjlaaZCelS
set_option linter.all false
set_option maxRecDepth 100000
set_option maxHeartbeats 8000000
namespace Go.Proofs.Ytflmmdljkhdjlaa
open Go.RowKit
open M
structure InAt(w:World)(b o:Nat)(q:In):Prop where
 c0:w.cell? ⟨b,o,none⟩=some (.int .i64 q.s)
 c1:w.cell? ⟨b,o+1,none⟩=some (.int .i64 q.p)
 c2:w.cell? ⟨b,o+2,none⟩=some (.bool q.z)
def Inputs(w:World)(A:Option Addr)(n:Nat)(xs:List In):Prop :=
 xs.length=n/\(0<n->∃ b off,A=some ⟨b,off,none⟩/\b<w.heap.size/\∀ k,k<n->InAt w b (off+k*3) (xs.getD k iz))
theorem InAt.of{w w':World}{b o:Nat}{q:In}(h:InAt w b o q)(e:w'.heap[b]?=w.heap[b]?):InAt w' b o q :=
 ⟨(World.cell?_of_block (a:=⟨b,o,none⟩) e).trans h.c0,(World.cell?_of_block (a:=⟨b,o+1,none⟩) e).trans h.c1,(World.cell?_of_block (a:=⟨b,o+2,none⟩) e).trans h.c2⟩
theorem Inputs.step{w w':World}{A:Option Addr}{n:Nat}{xs:List In}(h:Inputs w A n xs)(B:Below w.heap.size w w'):Inputs w' A n xs :=
 ⟨h.1,fun hn=>by
  obtain⟨b,off,e,hb,hc⟩:=h.2 hn;exact⟨b,off,e,Nat.lt_of_lt_of_le hb B.size,fun k hk=>(hc k hk).of (B.block b hb)⟩⟩
theorem Inputs.alloc{w:World}{A:Option Addr}{n:Nat}{xs:List In}(h:Inputs w A n xs)(o:Obj):Inputs (w.alloc o) A n xs:=h.step (Ab (Ac w) o)
theorem Inputs.drew{w:World}{A:Option Addr}{n:Nat}{xs:List In}(h:Inputs w A n xs):Inputs w.drew A n xs:=h.step (Ac w).drew
theorem Inputs.nil(w:World)(A:Option Addr):Inputs w A 0 []:=⟨rfl,fun h=>absurd h (by omega)⟩
theorem Inputs.kept{w w':World}{A:Option Addr}{n r:Nat}{xs:List In}(h:Inputs w A n xs)(K:Kept r w w')(hA:0<n->∀ k off,A=some ⟨k,off,none⟩->k≠r):Inputs w' A n xs :=
 ⟨h.1,fun hn=>by
  obtain⟨b,off,e,hb,hc⟩:=h.2 hn;exact⟨b,off,e,Nat.lt_of_lt_of_le hb K.size,fun k hk=>(hc k hk).of (K.block b hb (hA hn b off e))⟩⟩
theorem Inputs.grown{W w':World}{A:Option Addr}{n:Nat}{xs:List In}{row:Option Nat}(h:Inputs W A n xs)(hg:W.grownBy w' row)(hr:0<n->∀ k off,A=some ⟨k,off,none⟩->row≠some k):Inputs w' A n xs :=
 ⟨h.1,fun hn=>by
  obtain⟨b,off,e,hb,hc⟩:=h.2 hn;exact⟨b,off,e,Nat.lt_of_lt_of_le hb hg.size,fun k hk=>(hc k hk).of (hg.block b hb (fun e'=>hr hn b off e e'.symm))⟩⟩
theorem Inputs.lt{w:World}{A:Option Addr}{n:Nat}{xs:List In}(h:Inputs w A n xs)(hn:0<n):∀ k off,A=some ⟨k,off,none⟩->k<w.heap.size:=fun k off e=>by
 obtain⟨b,off',e',hb,_⟩:=h.2 hn;rw[e'] at e;cases e
 exact hb
theorem Inputs.take{w:World}{A:Option Addr}{n:Nat}{xs:List In}(h:Inputs w A n xs){j:Nat}(hj:j<=n):Inputs w A j (xs.take j) :=
 ⟨by rw[List.length_take,h.1]; omega,fun h0=>by
  obtain⟨b,off,e,hb,hc⟩:=h.2 (by omega);refine⟨b,off,e,hb,fun k hk=>?_⟩;have t:=hc k (by omega);have e2:(xs.take j).getD k iz=xs.getD k iz:=by simp[List.getD_eq_getElem?_getD,hk]
  rw[e2];exact t⟩
def Ba:List In->List Value
 | []=>[]
 | q::xs=>.int .i64 q.s::.int .i64 q.p::.bool q.z::Ba xs
def Ch(q:In):Nat->Value
 | 0=>.int .i64 q.s
 | 1=>.int .i64 q.p
 | _=>.bool q.z
theorem BM:∀(xs:List In) (k r:Nat),k<xs.length->r<3->(Ba xs)[k*3+r]?=some (Ch (xs.getD k iz) r)
 | [],k,r,h,_=>absurd h (by simp)
 | q::xs,0,r,_,hr=>by
  match r,hr with
  | 0,_=>rfl
  | 1,_=>rfl
  | 2,_=>rfl
 | q::xs,k+1,r,h,hr=>by
  have t:=BM xs k r (by simpa using h) hr;have e:(k+1)*3+r=(k*3+r)+1+1+1:=by omega
  rw[e];simp only[Ba,List.getElem?_cons_succ];rw[t];rfl
theorem AX:∀ xs:List In,(Ba xs).length=xs.length*3
 | []=>rfl
 | q::xs=>by simp only[Ba,List.length_cons,AX xs]; omega
theorem InAt.comp{w:World}{b o:Nat}{q:In}(h:InAt w b o q){r:Nat}(hr:r<3):w.cell? ⟨b,o+r,none⟩=some (Ch q r):=by
 match r,hr with
 | 0,_=>exact h.c0
 | 1,_=>exact h.c1
 | 2,_=>exact h.c2
theorem Inputs.news{w:World}{b off m:Nat}{xs:List In}(I:Inputs w (some ⟨b,off,Option.none⟩) m xs):∀ j u,(Ba xs)[j]?=some u->w.cell? ((⟨b,off,Option.none⟩:Addr).add j)=some u:=by
 intro j u hj;have hl:j<xs.length*3:=by
  rw[<- AX];rcases Nat.lt_or_ge j (Ba xs).length with h | h
  . exact h
  . rw[List.getElem?_eq_none h] at hj; cases hj
 obtain⟨b',off',e,_,hc⟩:=I.2 (by have:=I.1; omega);cases e
 have ej:j=(j / 3)*3+j % 3:=by omega
 have hk:j / 3<xs.length:=by omega
 rw[ej,BM xs _ _ hk (by omega)] at hj;cases hj
 rw[Addr.add_lit];have t:=(hc (j / 3) (by have:=I.1; omega)).comp (r:=j % 3) (by omega);rw[Nat.add_assoc,<- ej] at t;exact t
theorem Inputs.of_own{w:World}{base:Nat}{e:TypeId}{v:Value}{n:Nat}{xs:List In}(h:w.ownsRow base e 3 v n (Ba xs)):∃ A cap,v=.slice A n cap/\Inputs w A n xs/\(∀ g off,A=some ⟨g,off,none⟩->base<=g):=by
 have hl:xs.length=n:=by have:=h.1; rw[AX] at this; omega
 have h0:=h;rcases h0.2 with⟨rfl,rfl⟩ | ⟨g,cap,cur,rfl,hbg,hh,_⟩
 . exact⟨none,0,rfl,⟨hl,fun hn=>by omega⟩,fun g off e=>by cases e⟩
 . refine⟨_,_,rfl,⟨hl,fun _=>⟨g,0,rfl,(h.lt g rfl).2,fun k hk=>?_⟩⟩,fun g' off e=>by cases e; exact hbg⟩;have hc:∀ r,r<3->w.cell? ⟨g,0+k*3+r,none⟩=some (Ch (xs.getD k iz) r):=fun r hr=>by
    rw[Nat.zero_add,h.cellAt (k*3+r) (by omega),BM xs _ _ (by omega) hr]
   exact⟨hc 0 (by omega),hc 1 (by omega),hc 2 (by omega)⟩
theorem Bs:(Try.prog.info? 36).map (fun i=>(i.zero,i.size,i.bytes))=some (some (BH 0 0 false),3,24):=by kernel_rfl
theorem Inputs.one(w:World)(B:Nat)(s p:Int)(z:Bool)(t:TypeId)(hB:B=w.heap.size):Inputs (w.alloc (.cells #[.int .i64 s,.int .i64 p,.bool z] t)) (some ⟨B,0,none⟩) 1 [⟨s,p,z⟩] :=
 hB▸⟨rfl,fun _=>⟨w.heap.size,0,rfl,by simp,fun k hk=>by
  match k,hk with
  | 0,_=>exact⟨by simp,by simp,by simp⟩⟩⟩
end Go.Proofs.Ytflmmdljkhdjlaa
