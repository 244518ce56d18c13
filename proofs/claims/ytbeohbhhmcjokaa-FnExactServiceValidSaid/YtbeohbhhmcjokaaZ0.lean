import Derived.Deep.RegionHeld
import Derived.KernelRfl
set_option linter.all false
set_option maxRecDepth 100000
set_option maxHeartbeats 8000000
namespace Go.Proofs.Ytbeohbhhmcjokaa
theorem sx : (∀{α : Type} {xs : List α} {i : Nat} (h : i < xs.toArray.size), xs.toArray[i] = getElem xs i (by simpa using h)) /\ (∀{α : Type} {a : α} {l : List α} {i : Nat} (h : i + 1 < (a :: l).length), (a :: l)[i + 1] = getElem l i (Nat.lt_of_succ_lt_succ h)) /\ (∀{α : Type} {a : α} {l : List α} (h : 0 < (a :: l).length), (a :: l)[0] = a) /\ (∀{α : Type} {l : List α} {i : Nat} {a : α}, l.toArray.setIfInBounds i a = (l.set i a).toArray) /\ (∀{α : Type} {l : List α} {a b : α}, (a :: l).set 0 b = b :: l) /\ (∀{α : Type} {l : List α} {i : Nat} {a b : α}, (a :: l).set (i + 1) b = a :: l.set i b) :=
 ⟨fun _ => by simp, fun _ => rfl, fun _ => rfl, by simp, rfl, rfl⟩
theorem tk{P : Program}{md : Region.Mode}{ops : Array Oper}{Q : Exit -> Act -> World -> Prop}{S : World -> Prop}{i : Nat}{oi : Oper}{v : Value}{n : Nat}{l : Array Bool}{a : Act}{w : World}(hi : ops[i]? = some oi)(hy : YieldsIf P ops S oi v a)(hS : S w)(h : wpAnyH P md ops Q S n (l.setIfInBounds i true) (a.put oi.dst v) w)(hs : Region.noSelect ops = true := by kernel_rfl)(hf : Region.free md ops l i = true := by kernel_rfl)(hr : (Region.ready md ops l).contains i = true := by kernel_rfl)(hQ : ∀ c a w, Q (.panic c) (a.put oi.dst v) w -> Q (.panic c) a w := by exact fun _ _ _ h => h) : wpAnyH P md ops Q S (n + 1) l a w :=
 wpAnyH_take hi hs hf hr hQ hy hS h
theorem tl{P : Program}{md : Region.Mode}{ops : Array Oper}{Q : Exit -> Act -> World -> Prop}{S : World -> Prop}{oi : Oper}{n : Nat}{l : Array Bool}{a : Act}{w : World}(i : Nat)(v : Value)(hy : ∀ w', S w' -> (execOp a.eval oi).run P w' = .ok (.value v) w')(hS : S w)(h : wpAnyH P md ops Q S n (l.setIfInBounds i true) (a.put oi.dst v) w)(hi : ops[i]? = some oi := by exact rfl)(hw : Region.wanted oi (yielded ops a.tmps) = true := by rfl)(hs : Region.noSelect ops = true := by kernel_rfl)(hf : Region.free md ops l i = true := by kernel_rfl)(hr : (Region.ready md ops l).contains i = true := by kernel_rfl)(hQ : ∀ c a w, Q (.panic c) (a.put oi.dst v) w -> Q (.panic c) a w := by exact fun _ _ _ h => h) : wpAnyH P md ops Q S (n + 1) l a w :=
 wpAnyH_take hi hs hf hr hQ (Or.inl ⟨hw, hy⟩) hS h
theorem rd{P : Program}{md : Region.Mode}{ops : Array Oper}{Q : Exit -> Act -> World -> Prop}{S : World -> Prop}{o : Oper}{n : Nat}{l : Array Bool}{a : Act}{w : World}(i : Nat)(h : ∀ K' : Act -> World -> Prop, Shut (∀ a w, S w -> (S w -> wpAnyH P md ops Q S n (l.setIfInBounds i true) a w) -> K' a w) -> Oper.wp P o a w K' Q)(ho : ops[i]? = some o := by exact rfl)(hr : Region.ready md ops l = [i] := by kernel_rfl)(hw : Region.wanted o (yielded ops a.tmps) = true := by rfl) : wpAnyH P md ops Q S (n + 1) l a w :=
 wpAnyH_ready hr (by simp) (AllReadyH.cons ho (fun K hK => by rw[if_pos hw]; exact h K hK) AllReadyH.nil)
end Go.Proofs.Ytbeohbhhmcjokaa
