import Derived.Test.YtkpogcflgghfiaaDoorZRunC
import Derived.Test.YtkpogcflgghfiaaDoorZRunMath
import Derived.Test.YtkpogcflgghfiaaDoorZDrawTo
import Derived.Test.YtkpogcflgghfiaaDoorZRenCtx
set_option maxRecDepth 100000
set_option maxHeartbeats 8000000
namespace Go.Proofs.YtkpogcflgghfiaaDoor
open Go.RowKit
open M
open Ren
open Go.Conc
theorem cell_same {u u':World} (e:u'.heap=u.heap) (a:Addr):u'.cell? a=u.cell? a:=by unfold World.cell?; rw [e]
theorem Boxes.same {u u':World} {A:Option Addr} {n:Nat} {bs:List Bx} (h:Boxes u A n bs) (e:u'.heap=u.heap):Boxes u' A n bs :=
 ⟨h.1,fun hn=>by
  obtain ⟨b,off,e1,hb,hc⟩:=h.2 hn;exact ⟨b,off,e1,by rw [e]; exact hb,fun k hk=>(hc k hk).of (by rw [e])⟩⟩
theorem Inputs.same {u u':World} {A:Option Addr} {n:Nat} {xs:List In} (h:Inputs u A n xs) (e:u'.heap=u.heap):Inputs u' A n xs :=
 ⟨h.1,fun hn=>by
  obtain ⟨b,off,e1,hb,hc⟩:=h.2 hn;exact ⟨b,off,e1,by rw [e]; exact hb,fun k hk=>(hc k hk).of (by rw [e])⟩⟩
theorem Cel.step {w w':World} {A:Option Addr} (h:Cel w A) (B:Below w.heap.size w w'):Cel w' A:=h.of fun a ha=>B.block _ (h.lt ha)
theorem Quarter.same {u u':World} (h:Quarter u) (e:u'.heap=u.heap):Quarter u' :=
 ⟨(cell_same e _).trans h.q0,(cell_same e _).trans h.q1,(cell_same e _).trans h.q2,(cell_same e _).trans h.q3,(cell_same e _).trans h.q4,(cell_same e _).trans h.q5,(cell_same e _).trans h.q6,(cell_same e _).trans h.q7,by rw [e]; exact h.lt⟩
theorem Ready.same {L:Lv} {A:Option Addr} {n cap:Nat} {xs:List In} {u u':World} (h:Ready L A n cap xs u) (e:u'.heap=u.heap):Ready L A n cap xs u' :=
 ⟨⟨h.lv.I.same e,h.lv.J.same e,h.lv.n,h.lv.m,h.lv.ca.of fun _ _=>by rw [e],h.lv.cg.of fun _ _=>by rw [e]⟩,h.ins.same e,h.cel.of fun _ _=>by rw [e],h.small,h.room,h.quarter.same e⟩
theorem Ready.step {L:Lv} {A:Option Addr} {n cap:Nat} {xs:List In} {u u':World} (h:Ready L A n cap xs u) (B:Below u.heap.size u u'):Ready L A n cap xs u' :=
 ⟨⟨h.lv.I.step B,h.lv.J.step B,h.lv.n,h.lv.m,h.lv.ca.step B,h.lv.cg.step B⟩,h.ins.step B,h.cel.step B,h.small,h.room,h.quarter.step B⟩
theorem Quarter.kept {u u':World} {r:Nat} (h:Quarter u) (K:Kept r u u') (hr:r≠0):Quarter u':=by
 have e:=K.block 0 h.lt (Ne.symm hr);exact ⟨(World.cell?_of_block (a:=⟨0,0,none⟩) e).trans h.q0,(World.cell?_of_block (a:=⟨0,1,none⟩) e).trans h.q1,(World.cell?_of_block (a:=⟨0,2,none⟩) e).trans h.q2,(World.cell?_of_block (a:=⟨0,3,none⟩) e).trans h.q3,(World.cell?_of_block (a:=⟨0,4,none⟩) e).trans h.q4,(World.cell?_of_block (a:=⟨0,5,none⟩) e).trans h.q5,(World.cell?_of_block (a:=⟨0,6,none⟩) e).trans h.q6,(World.cell?_of_block (a:=⟨0,7,none⟩) e).trans h.q7,Nat.lt_of_lt_of_le h.lt K.size⟩
theorem Ready.kept {L:Lv} {A:Option Addr} {n cap:Nat} {xs:List In} {u u':World} {r:Nat} (h:Ready L A n cap xs u) (K:Kept r u u') (hr:r≠0) (h1:∀ a,L.A=some a→a.block≠r) (h2:∀ a,L.G=some a→a.block≠r) (h3:∀ a,A=some a→a.block≠r):Ready L A n cap xs u' :=
 ⟨⟨h.lv.I.kept K (fun _ g off e=>h1 _ e),h.lv.J.kept K (fun _ g off e=>h2 _ e),h.lv.n,h.lv.m,h.lv.ca.kept K (fun g off e=>h1 _ e),h.lv.cg.kept K (fun g off e=>h2 _ e)⟩,h.ins.kept K (fun _ g off e=>h3 _ e),h.cel.kept K (fun g off e=>h3 _ e),h.small,h.room,h.quarter.kept K hr⟩
structure Low (L:Lv) (A:Option Addr) (N:Nat):Prop where
 a:∀ a,L.A=some a→a.block<N
 g:∀ a,L.G=some a→a.block<N
 i:∀ a,A=some a→a.block<N
theorem Ready.low {L:Lv} {A:Option Addr} {n cap:Nat} {xs:List In} {u:World} (h:Ready L A n cap xs u):Low L A u.heap.size:=⟨fun a ha=>h.lv.ca.lt ha,fun a ha=>h.lv.cg.lt ha,fun a ha=>h.cel.lt ha⟩
theorem Ready.keep {L:Lv} {A:Option Addr} {n cap:Nat} {xs:List In} {u u':World} {r N:Nat} (h:Ready L A n cap xs u) (l:Low L A N) (K:Kept r u u') (hr:N≤r) (h0:0<N):Ready L A n cap xs u' :=
 h.kept K (by omega) (fun a ha=>by have:=l.a a ha; omega) (fun a ha=>by have:=l.g a ha; omega) (fun a ha=>by have:=l.i a ha; omega)
structure Za (h0:Array Obj) (sz:Nat) (a:Option Addr) (len cap:Nat) (zs:List Int) (T:Array Value) (u:World):Prop where
 size:T.size=sz
 t0:T.getD 0 undef=.slice a len cap
 row:IsRow .u8 u a len cap zs
 q:Quarter u
 hp:Hp h0 u
theorem IsRow.same {u u':World} {a:Option Addr} {len cap:Nat} {zs:List Int} (h:IsRow .u8 u a len cap zs) (e:u'.heap=u.heap):IsRow .u8 u' a len cap zs:=by
 rcases h with h | ⟨x,h1,h2,h3,h4,h5,h6⟩
 · exact .inl h
 · exact .inr ⟨x,h1,h2,h3,h4,fun i hi=>(cell_same e _).trans (h5 i hi),h6⟩
theorem Za.hpo {h0:Array Obj} {sz:Nat} {a:Option Addr} {len cap:Nat} {zs:List Int}:Hpo (Za h0 sz a len cap zs):=fun _ _ _ h e=>⟨h.size,h.t0,h.row.same e,h.q.same e,h.hp.same e⟩
theorem addr_add_block (a:Addr) (n:Nat):(a.add n).block=a.block:=by unfold Addr.add; split<;>rfl
theorem IsRow.veil {w u:World} {a:Option Addr} {len cap:Nat} {zs:List Int} (h:IsRow .u8 w a len cap zs) (ca:Cel w a) (hp:Hp (vh w w.heap.size) u):IsRow .u8 u a len cap zs:=by
 rcases h with h | ⟨x,rfl,h2,h3,h4,h5,h6⟩
 · exact .inl h
 · refine .inr ⟨x,rfl,h2,h3,h4,fun i hi=>?_,h6⟩;have hb:(x.add i).block<w.heap.size:=by rw [addr_add_block]; exact ca.lt rfl
   rw [vh_cell (Nat.le_refl _) hb (hp.block _ (by rw [vh_size (Nat.le_refl _)]; exact hb)) (h5 i hi),vl_int]
structure Vh (h0:Array Obj) (sz:Nat) (L:Lv) (D:Option Addr) (N cc:Nat) (xs:List In) (k0:Int) (b:Nat) (T:Array Value) (u:World):Prop where
 size:T.size=sz
 t3:T.getD 3 undef=ptrB b
 t4:T.getD 4 undef=.slice D N cc
 t5:T.getD 5 undef=.int .i64 k0
 P:CellsAt u b L.cs
 rd:Ready L D N cc xs u
 lo:Low L D b
 hp:Hp h0 u
 lb:h0.size≤b
 bp:0<b
 bd:-2≤k0∧k0≤N+1
 sm:N≤63
theorem Vh.hpo {h0:Array Obj} {sz:Nat} {L:Lv} {D:Option Addr} {N cc:Nat} {xs:List In} {k0:Int} {b:Nat}:Hpo (Vh h0 sz L D N cc xs k0 b):=fun _ _ _ h e=>{ h with P:=h.P.same e,rd:=h.rd.same e,hp:=h.hp.same e }
structure Vo (h0:Array Obj) (sz:Nat) (L:Lv) (D:Option Addr) (N cc:Nat) (xs:List In) (k0:Int) (b c:Nat) (s:St) (ok:Bool) (T:Array Value) (u:World):Prop extends Vh h0 sz L D N cc xs k0 b T u where
 t6:T.getD 6 undef=ptrB c
 t7:T.getD 7 undef=.bool ok
 S:CellsAt u c (svs s)
 lc:b<c
theorem Vo.hpo {h0:Array Obj} {sz:Nat} {L:Lv} {D:Option Addr} {N cc:Nat} {xs:List In} {k0:Int} {b c:Nat} {s:St} {ok:Bool}:Hpo (Vo h0 sz L D N cc xs k0 b c s ok):=fun _ _ _ h e=>{ h with P:=h.P.same e,rd:=h.rd.same e,hp:=h.hp.same e,S:=h.S.same e }
def Lv.fin (L:Lv) (xs:List In) (n:Nat) (k0:Int):St:=if okR L xs n k0 then L.run (xs.take k0.toNat) else z0
theorem Lv.ans_eq (L:Lv) (xs:List In) (n:Nat) (k0:Int):L.ans xs n k0=.tuple #[sva (L.fin xs n k0),.bool (okR L xs n k0)]:=rfl
end Go.Proofs.YtkpogcflgghfiaaDoor
