import Derived.Test.YtbeohbhhmcjokaaZMk
set_option linter.all false
set_option maxRecDepth 100000
set_option maxHeartbeats 8000000
namespace Go.Proofs.Ytbeohbhhmcjokaa
open Go.RowKit
open M
structure M.Sv where
 A:Option Addr
 n:Nat
 c:Nat
 H:Option Addr
 m:Nat
 d:Nat
 G:Option Addr
 l:Nat
 e:Nat
 ts:List Tk
 ks:List Int
 gs:List Int
abbrev M.Sv.cs(s:Sv):List Value:=[.slice s.A s.n s.c,.slice s.H s.m s.d,.slice s.G s.l s.e]
abbrev M.Sv.val(s:Sv):Value:=.agg #[.slice s.A s.n s.c,.slice s.H s.m s.d,.slice s.G s.l s.e]
def M.sv0:Sv:=⟨none,0,0,none,0,0,none,0,0,[],[],[]⟩
structure M.Sv.At(s:Sv)(w:World):Prop where
 T:Tracks w s.A s.n s.ts
 K:Ints w s.H s.m s.ks
 S:Ints w s.G s.l s.gs
 n:s.n<=281474976710656
 m:s.m<=281474976710656
 l:s.l<=281474976710656
theorem M.Sv.At.step{s:Sv}{w w':World}(h:s.At w)(B:Below w.heap.size w w'):s.At w':=⟨h.T.step B,h.K.step B,h.S.step B,h.n,h.m,h.l⟩
theorem M.Sv.At.zero(w:World):sv0.At w:=⟨Tracks.nil _ _,⟨rfl,fun h=>absurd h (by decide)⟩,⟨rfl,fun h=>absurd h (by decide)⟩,by decide,by decide,by decide⟩
structure M.Tv where
 i:Int
 t:Int
 x:Int
 y:Int
 ws:List Bx
 gs:List Bx
 fp:Int
 fq:Int
 fs:Int
 fz:Int
 b:Int
 es:List En
abbrev M.Tk.v(q:Tk):Tv:=⟨q.L.i,q.L.t,q.L.x,q.L.y,q.L.ws,q.L.gs,q.L.fp,q.L.fq,q.L.fs,q.L.fz,q.L.b,q.es⟩
structure M.Vl where
 ts:List Tv
 ks:List Int
 gs:List Int
abbrev M.Sv.v(s:Sv):Vl:=⟨s.ts.map Tk.v,s.ks,s.gs⟩
abbrev M.Tk.ps(q:Tk):List (Option Addr × Nat):=[(q.L.A,q.L.n*4),(q.L.G,q.L.m*4),(q.D,q.l*2)]
abbrev M.Sv.ps(s:Sv):List (Option Addr × Nat):=(s.A,s.n*12)::(s.H,s.m*1)::(s.G,s.l*1)::s.ts.flatMap Tk.ps
structure OwnL(lo:Nat)(w:World)(ps:List (Option Addr × Nat)):Prop where
 all:∀ p∈ps,Mk lo w p.1 p.2
 ne:ps.Pairwise (fun p q=>0<p.2->0<q.2->p.1≠q.1)
theorem OwnL.step{lo:Nat}{w w':World}{ps:List (Option Addr × Nat)}(h:OwnL lo w ps)(B:Below w.heap.size w w'):OwnL lo w' ps:=⟨fun p hp=>(h.all p hp).step B,h.ne⟩
theorem Mk.low{lo lo':Nat}{w:World}{A:Option Addr}{n:Nat}(h:Mk lo w A n)(hl:lo'<=lo):Mk lo' w A n:=fun hn=>by
 obtain⟨g,e,h1,h2,T⟩:=h hn;exact⟨g,e,Nat.le_trans hl h1,h2,T⟩
theorem OwnL.low{lo lo':Nat}{w:World}{ps:List (Option Addr × Nat)}(h:OwnL lo w ps)(hl:lo'<=lo):OwnL lo' w ps:=⟨fun p hp=>(h.all p hp).low hl,h.ne⟩
theorem Mk.nil(lo:Nat)(w:World)(A:Option Addr):Mk lo w A 0:=fun h=>absurd h (by decide)
theorem OwnL.nil(lo:Nat)(w:World):OwnL lo w []:=⟨(fun p hp=>by cases hp),List.Pairwise.nil⟩
theorem OwnL.cons{lo k:Nat}{w:World}{ps:List (Option Addr × Nat)}{A:Option Addr}{n:Nat}(h:OwnL lo w ps)(M:Mk k w A n)(hk:lo<=k)(hp:∀ p∈ps,0<p.2->∀ g,p.1=some ⟨g,0,none⟩->g<k):OwnL lo w ((A,n)::ps) :=
 ⟨fun p hp'=>by
  rcases List.mem_cons.1 hp' with rfl | h1
  . exact M.low hk
  . exact h.all p h1,List.pairwise_cons.2 ⟨fun p hp' h1 h2 e=>by
  obtain⟨g,e1,h3,_,_⟩:=M h1;have:=hp p hp' h2 g (e▸e1);omega,h.ne⟩⟩
theorem OwnL.cons'{lo:Nat}{w:World}{ps:List (Option Addr × Nat)}{A:Option Addr}{n:Nat}(h:OwnL lo w ps)(M:Mk lo w A n)(hp:∀ p∈ps,0<n->0<p.2->A≠p.1):OwnL lo w ((A,n)::ps) :=
 ⟨fun p hp'=>by
  rcases List.mem_cons.1 hp' with rfl | h1
  . exact M
  . exact h.all p h1,List.pairwise_cons.2 ⟨fun p hp' h1 h2=>hp p hp' h1 h2,h.ne⟩⟩
theorem OwnL.lt{lo:Nat}{w:World}{ps:List (Option Addr × Nat)}(h:OwnL lo w ps):∀ p∈ps,0<p.2->∀ g,p.1=some ⟨g,0,none⟩->lo<=g/\g<w.heap.size:=fun p hp h0 g e=>by
 obtain⟨g',e1,h1,h2,_⟩:=h.all p hp h0;rw[e] at e1;cases e1
 exact⟨h1,h2⟩
theorem OwnL.zero(lo:Nat)(w:World):OwnL lo w sv0.ps :=
 ((OwnL.nil lo w).cons' (Mk.nil _ _ _) (fun p hp=>by cases hp)).cons' (Mk.nil _ _ _) (fun p hp h=>absurd h (by decide)) |>.cons' (Mk.nil _ _ _) (fun p hp h=>absurd h (by decide))
structure Fresh(w w':World)(s:Sv):Prop where
 R:s.At w'
 O:OwnL w.heap.size w' s.ps
 B:Below w.heap.size w w'
theorem Fresh.zero{w w':World}(B:Below w.heap.size w w'):Fresh w w' sv0:=⟨.zero _,.zero _ _,B⟩
theorem Mk.of_own1{W:World}{base:Nat}{e:TypeId}{A:Option Addr}{n c:Nat}{vs:List Value}(O:W.ownsRow base e 1 (.slice A n c) n vs):Mk base W A (n*1):=Mk.of_own O (by decide)
theorem Mk.kept{lo r n:Nat}{w w':World}{A:Option Addr}(h:Mk lo w A n)(K:Kept r w w')(hr:r<lo):Mk lo w' A n:=fun hn=>by
 obtain⟨g,e,h1,h2,T⟩:=h hn;have eb:=K.block g h2 (by omega);exact⟨g,e,h1,Nat.lt_of_lt_of_le h2 K.size,fun j hj=>by
  obtain⟨a,b⟩:=T j hj;exact⟨by rw[World.cell?_of_block (a:=⟨g,0+j,none⟩) eb]; exact a,by rw[World.frozen?_of_block (a:=⟨g,0+j,none⟩) eb]; exact b⟩⟩
theorem OwnL.kept{lo r:Nat}{w w':World}{ps:List (Option Addr × Nat)}(h:OwnL lo w ps)(K:Kept r w w')(hr:r<lo):OwnL lo w' ps:=⟨fun p hp=>(h.all p hp).kept K hr,h.ne⟩
theorem OwnL.tail{lo:Nat}{w:World}{p:Option Addr × Nat}{ps:List (Option Addr × Nat)}(h:OwnL lo w (p::ps)):OwnL lo w ps:=⟨fun q hq=>h.all q (List.mem_cons_of_mem _ hq),(List.pairwise_cons.1 h.ne).2⟩
theorem Mk.at_{lo n:Nat}{w:World}{A:Option Addr}(h:Mk lo w A n)(hn:0<n):∀ g off,A=some ⟨g,off,none⟩->lo<=g:=fun g off e=>by
 obtain⟨g',e',h1,_⟩:=h hn;rw[e] at e';cases e'
 exact h1
theorem M.Tk.At.kept{lo r:Nat}{w w':World}{q:Tk}(h:q.At w)(M:∀ p∈q.ps,Mk lo w p.1 p.2)(K:Kept r w w')(hr:r<lo):q.At w' :=
 ⟨h.I.kept K (fun hn g off e=>by have:=(M (q.L.A,q.L.n*4) (by simp)).at_ (by simp; omega) g off e; omega),
  h.J.kept K (fun hn g off e=>by have:=(M (q.L.G,q.L.m*4) (by simp)).at_ (by simp; omega) g off e; omega),
  h.E.kept K (fun hn g off e=>by have:=(M (q.D,q.l*2) (by simp)).at_ (by simp; omega) g off e; omega),h.n,h.m,h.l⟩
theorem Tracks.kept{lo r:Nat}{w w':World}{A:Option Addr}{n:Nat}{ts:List Tk}(h:Tracks w A n ts)(M:Mk lo w A (n*12))(Ms:∀ q∈ts,∀ p∈q.ps,Mk lo w p.1 p.2)(K:Kept r w w')(hr:r<lo):Tracks w' A n ts :=
 ⟨h.len,fun hn=>by
  obtain⟨b,off,e,hb,hc⟩:=h.at_ hn;have:=M.at_ (by omega) b off e;exact⟨b,off,e,Nat.lt_of_lt_of_le hb K.size,fun k q hq=>Av (hc k q hq) (K.block b hb (by omega))⟩,fun q hq=>(h.all q hq).kept (Ms q hq) K hr⟩
theorem M.Sv.At.kept{lo r:Nat}{w w':World}{s:Sv}(h:s.At w)(O:OwnL lo w s.ps)(K:Kept r w w')(hr:r<lo):s.At w' :=
 ⟨h.T.kept (O.all (s.A,s.n*12) (by simp)) (fun q hq p hp=>O.all p (List.mem_cons_of_mem _ (List.mem_cons_of_mem _ (List.mem_cons_of_mem _ (List.mem_flatMap.2 ⟨q,hq,hp⟩))))) K hr,
  h.K.kept K (fun hn g off e=>by have:=(O.all (s.H,s.m*1) (by simp)).at_ (by simp; omega) g off e; omega),
  h.S.kept K (fun hn g off e=>by have:=(O.all (s.G,s.l*1) (by simp)).at_ (by simp; omega) g off e; omega),h.n,h.m,h.l⟩
theorem Fresh.last{w W W':World}{s:Sv}{r:Nat}(R:s.At W)(O:OwnL (r+1) W s.ps)(B:Below w.heap.size w W)(K:Kept r W W')(hr:w.heap.size<=r):Fresh w W' s :=
 ⟨R.kept O K (Nat.lt_succ_self _),(O.kept K (Nat.lt_succ_self _)).low (by omega),Ax B K hr⟩
def M.newB(ks:List Int):Bool:=decide (ks.length<=10)&&ks.all (fun k=>Al k 0 9999)
def M.newK(ks:List Int):List Int:=ks++List.replicate (10-ks.length) 0
def M.newV(ks:List Int):Vl:=if newB ks then ⟨[],newK ks,[]⟩ else ⟨[],[],[]⟩
end Go.Proofs.Ytbeohbhhmcjokaa
