import Derived.Test.YtbeohbhhmcjokaaZMkV
set_option linter.all false
set_option maxRecDepth 100000
set_option maxHeartbeats 8000000
namespace Go.Proofs.Ytbeohbhhmcjokaa
open Go.RowKit
open M
def Bd(ps:List (Option Addr × Nat))(lo hi:Nat):Prop:=∀ p∈ps,0<p.2->∃ g,p.1=some ⟨g,0,none⟩/\lo<=g/\g<hi
theorem OwnL.bd{lo:Nat}{w:World}{ps:List (Option Addr × Nat)}(O:OwnL lo w ps):Bd ps lo w.heap.size:=fun p hp h0=>by
 obtain⟨g,e,h1,h2,_⟩:=O.all p hp h0;exact⟨g,e,h1,h2⟩
theorem Bd.not{ps:List (Option Addr × Nat)}{lo hi b:Nat}(h:Bd ps lo hi)(hb:b<lo\/hi<=b):∀ p∈ps,0<p.2->p.1≠some ⟨b,0,none⟩:=fun p hp h0 e=>by
 obtain⟨g,e1,h1,h2⟩:=h p hp h0;rw[e] at e1;cases e1
 omega
theorem Bd.sep{ps qs:List (Option Addr × Nat)}{lo hi lo' hi':Nat}(h:Bd ps lo hi)(h':Bd qs lo' hi')(hs:hi<=lo'\/hi'<=lo):∀ p∈ps,0<p.2->∀ r∈qs,0<r.2->r.1≠p.1:=fun p hp h0 r hr h1 e=>by
 obtain⟨g,e1,h2,h3⟩:=h p hp h0;obtain⟨g',e2,h4,h5⟩:=h' r hr h1;rw[e,e1] at e2;cases e2
 omega
theorem CellsAt.fl{ps:List (Option Addr × Nat)}{W W':World}{b:Nat}{vs:List Value}(h:CellsAt W b vs)(F:Fl ps W W')(hb:∀ p∈ps,0<p.2->p.1≠some ⟨b,0,none⟩):CellsAt W' b vs:=h.of (F.2 b h.lt hb) F.1
theorem OwnL.fl{lo:Nat}{ps qs:List (Option Addr × Nat)}{W W':World}(O:OwnL lo W ps)(F:Fl qs W W')(hd:∀ p∈ps,0<p.2->∀ r∈qs,0<r.2->r.1≠p.1):OwnL lo W' ps:=⟨fun p hp=>(O.all p hp).fl F (fun h0=>hd p hp h0),O.ne⟩
theorem M.Sv.At.fl{lo:Nat}{qs:List (Option Addr × Nat)}{W W':World}{s:Sv}(R:s.At W)(O:OwnL lo W s.ps)(F:Fl qs W W')(hd:∀ p∈s.ps,0<p.2->∀ r∈qs,0<r.2->r.1≠p.1):s.At W' :=
 ⟨R.T.fl (lo:=lo) (O.sub (((List.Sublist.refl _).cons _).cons _ |>.cons₂ _)) F (fun p hp=>hd p (by
  simp only[List.mem_cons] at hp;rcases hp with h | h
  . simp[h]
  . simp only[Sv.ps,List.mem_cons]; exact .inr (.inr (.inr h)))),
  R.K.fl F (fun h0 b off e p hp h1 e'=>by
   have h2:=(O.all (s.H,s.m*1) (by simp)).off0 (by simp only; omega) b off e;subst h2;exact hd (s.H,s.m*1) (by simp) (by simp only; omega) p hp h1 (e'.trans e.symm)),
  R.S.fl F (fun h0 b off e p hp h1 e'=>by
   have h2:=(O.all (s.G,s.l*1) (by simp)).off0 (by simp only; omega) b off e;subst h2;exact hd (s.G,s.l*1) (by simp) (by simp only; omega) p hp h1 (e'.trans e.symm)),R.n,R.m,R.l⟩
theorem Ents.flo{lo:Nat}{qs:List (Option Addr × Nat)}{W W':World}{A:Option Addr}{n:Nat}{xs:List En}(R:Ents W A n xs)(O:Mk lo W A (n*2))(F:Fl qs W W')(hd:0<n*2->∀ r∈qs,0<r.2->r.1≠A):Ents W' A n xs :=
 R.fl F (fun h0 b off e p hp h1 e'=>by
  have h2:=O.off0 (by omega) b off e;subst h2;exact hd (by omega) p hp h1 (e'.trans e.symm))
end Go.Proofs.Ytbeohbhhmcjokaa
