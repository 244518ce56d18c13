/-
  What the functions of chapter 2 return in the model, at every argument: the contracts. A vector is a pair of integers; the calls make memory of their own and write nothing that was there.
-/
import Derived.Test.YtmnojoddapdaoabRoot
import Derived.Test.YtmnojoddapdaoabVecMath
import Derived.Below
import Derived.Deep.RegionWith
import Derived.RegionTactic
import Derived.BigQuiet
import Derived.Deep.QuietTactic
namespace Go.Proofs.Ytmnojoddapdaoab
open Go.RowKit
open M

/-- A vector as a value. -/
abbrev vec (x y : Int) : Value := .agg #[.int .i64 x, .int .i64 y]

theorem bcell {W w1 : World} (hb : Below W.heap.size W w1) : (∀ b o, b < W.heap.size → w1.cell? ⟨b, o, none⟩ = W.cell? ⟨b, o, none⟩) ∧ (∀ b o, b < W.heap.size → w1.frozen? ⟨b, o, none⟩ = W.frozen? ⟨b, o, none⟩) :=
  ⟨fun b o h => hb.cell (p := ⟨b, o, none⟩) h, fun b o h => hb.frozen (p := ⟨b, o, none⟩) h⟩
theorem bl_alloc {w a : World} (h : Below w.heap.size w a) (o : Obj) : Below w.heap.size w (a.alloc o) := h.alloc h.size o
theorem bl_set {w a : World} (h : Below w.heap.size w a) (b o : Nat) (v : Value) (hp : w.heap.size ≤ b) : Below w.heap.size w (a.setCell ⟨b, o, none⟩ v) := h.setCell (p := ⟨b, o, none⟩) hp v
theorem bl_trans {w a b : World} (h : Below w.heap.size w a) (k : Below a.heap.size a b) : Below w.heap.size w b := h.trans (k.mono h.size)
theorem bl_drew {w a : World} (h : Below w.heap.size w a) (n : Nat) : Below w.heap.size w (a.drewN n) := h.trans ⟨rfl, rfl, rfl, Nat.le_refl _, fun _ _ => rfl⟩
theorem bl_refl (w : World) : Below w.heap.size w w := Below.refl _ _

theorem quietL {P : Program} {f : FuncId} {args : Array Value} {w : World} {n : Nat} {v : Value} (h : Calls P f args (w.drewN n) fun e w' => e = .returned v ∧ w.drewN n = w') :
    Calls P f args (w.drewN n) fun e w'' => e = .returned v ∧ ∃ m, w'' = w.drewN m := h.mono fun _ _ ⟨he, hm⟩ => ⟨he, n, hm.symm⟩
theorem ret_vb {x y x' y' : Int} {c d : Bool} (h1 : x = x') (h2 : y = y') (g : c = d) : Ending.returned (.tuple #[.agg #[.int .i64 x, .int .i64 y], .bool c]) = .returned (.tuple #[vec x' y', .bool d]) := by rw [h1, h2, g]
theorem ret_v {x y x' y' : Int} (h1 : x = x') (h2 : y = y') : Ending.returned (.agg #[.int .i64 x, .int .i64 y]) = .returned (vec x' y') := by rw [h1, h2]

theorem specVecOk (x y : Int) (w : World) : Calls Try.prog 18 #[vec x y] w fun e w' => e = .returned (.bool (vokB x y)) ∧ Below w.heap.size w w' := by
  cases hx : inB x (-1000000) 1000000
  · have E := Lib.hid (vok_no1 (y := y) hx)
    go_enter Try.func18, Try.ntmps18
    go_wp2_with (go_at_call 35; refine (in_any _ _ _ _).mono ?_; rintro e w' ⟨rfl, rfl⟩)
    go_ret
    exact ⟨ret_b (by rw [E.out]), bl_alloc (Below.refl _ _) _⟩
  · have E := Lib.hid (vok_yes1 (y := y) hx)
    go_enter Try.func18, Try.ntmps18
    go_wp2_with (go_at_call 35; refine (in_any _ _ _ _).mono ?_; rintro e w' ⟨rfl, rfl⟩)
    go_ret
    exact ⟨ret_b (by rw [E.out]), bl_alloc (Below.refl _ _) _⟩

set_option maxHeartbeats 400000 in
theorem specVRange (x y : Int) (w : World) : Calls Try.prog 40 #[vec x y] w fun e w' => e = .returned (.tuple #[vec (rngX x y) (rngY x y), .bool (vokB x y)]) ∧ Below w.heap.size w w' := by
  cases h : vokB x y
  · have E := Lib.hid (rng_no h)
    go_enter Try.func40, Try.ntmps40
    go_wp2_with fail
    refine (specVecOk _ _ _).mono ?_
    rintro e w1 ⟨rfl, B1⟩
    have C1 := B1
    clear B1
    obtain ⟨hc1, hf1⟩ := bcell C1
    have H1 := Lib.hid (bl_trans (bl_alloc (bl_alloc (bl_refl w) _) _) C1)
    go_wp2
    exact bodyPost_ret (v := .tuple #[vec 0 0, .bool false]) (by simp [results, Try.results40, go_sem, hc1]) rfl ⟨ret_vb (by rw [E.out.1]) (by rw [E.out.2]) rfl, bl_set (bl_set (H1.out) _ _ _ (by omega)) _ _ _ (by omega)⟩
  · have E := Lib.hid (rng_yes h)
    go_enter Try.func40, Try.ntmps40
    go_wp2_with fail
    refine (specVecOk _ _ _).mono ?_
    rintro e w1 ⟨rfl, B1⟩
    have C1 := B1
    clear B1
    obtain ⟨hc1, hf1⟩ := bcell C1
    have H1 := Lib.hid (bl_trans (bl_alloc (bl_alloc (bl_refl w) _) _) C1)
    go_wp2
    exact bodyPost_ret (v := .tuple #[vec x y, .bool true]) (by simp [results, Try.results40, go_sem, hc1]) rfl ⟨ret_vb (by rw [E.out.1]) (by rw [E.out.2]) rfl, bl_set (bl_set (H1.out) _ _ _ (by omega)) _ _ _ (by omega)⟩

set_option maxHeartbeats 400000 in
theorem specVAdd (x y u v : Int) (w : World) : Calls Try.prog 25 #[vec x y, vec u v] w fun e w' => e = .returned (.tuple #[vec (vaX x y u v) (vaY x y u v), .bool (vaB x y u v)]) ∧ Below w.heap.size w w' := by
  cases h : vokB x y
  · have E := Lib.hid (va_no1 (u := u) (v := v) h)
    go_enter Try.func25, Try.ntmps25
    go_wp2_with fail
    refine (specVecOk _ _ _).mono ?_
    rintro e w1 ⟨rfl, B1⟩
    have C1 := B1
    clear B1
    obtain ⟨hc1, hf1⟩ := bcell C1
    have H1 := Lib.hid (bl_trans (bl_alloc (bl_alloc (bl_alloc (bl_refl w) _) _) _) C1)
    go_wp2
    exact bodyPost_ret (v := .tuple #[vec 0 0, .bool false]) (by simp [results, Try.results25, go_sem, hc1]) rfl ⟨ret_vb (by rw [E.out.1]) (by rw [E.out.2.1]) (by rw [E.out.2.2]), bl_set (bl_set (H1.out) _ _ _ (by omega)) _ _ _ (by omega)⟩
  cases g : vokB u v
  · have E := Lib.hid (va_no2 (x := x) (y := y) g)
    go_enter Try.func25, Try.ntmps25
    go_wp2_with fail
    refine (specVecOk _ _ _).mono ?_
    rintro e w1 ⟨rfl, B1⟩
    have C1 := B1
    clear B1
    obtain ⟨hc1, hf1⟩ := bcell C1
    have H1 := Lib.hid (bl_trans (bl_alloc (bl_alloc (bl_alloc (bl_refl w) _) _) _) C1)
    go_wp2_with fail
    refine (specVecOk _ _ _).mono ?_
    rintro e w2 ⟨rfl, B2⟩
    have C2 := bl_trans C1 B2
    clear hc1 hf1 C1 B2
    obtain ⟨hc2, hf2⟩ := bcell C2
    have H2 := Lib.hid (bl_trans (bl_alloc (bl_alloc (bl_alloc (bl_refl w) _) _) _) C2)
    go_wp2
    exact bodyPost_ret (v := .tuple #[vec 0 0, .bool false]) (by simp [results, Try.results25, go_sem, hc2]) rfl ⟨ret_vb (by rw [E.out.1]) (by rw [E.out.2.1]) (by rw [E.out.2.2]), bl_set (bl_set (H2.out) _ _ _ (by omega)) _ _ _ (by omega)⟩
  · have E := Lib.hid (va_yes h g)
    obtain ⟨⟨x1, x2⟩, y1, y2⟩ := (vok_iff x y).1 h
    obtain ⟨⟨u1, u2⟩, v1, v2⟩ := (vok_iff u v).1 g
    go_enter Try.func25, Try.ntmps25
    go_wp2_with fail
    refine (specVecOk _ _ _).mono ?_
    rintro e w1 ⟨rfl, B1⟩
    have C1 := B1
    clear B1
    obtain ⟨hc1, hf1⟩ := bcell C1
    have H1 := Lib.hid (bl_trans (bl_alloc (bl_alloc (bl_alloc (bl_refl w) _) _) _) C1)
    go_wp2_with fail
    refine (specVecOk _ _ _).mono ?_
    rintro e w2 ⟨rfl, B2⟩
    have C2 := bl_trans C1 B2
    clear hc1 hf1 C1 B2
    obtain ⟨hc2, hf2⟩ := bcell C2
    have H2 := Lib.hid (bl_trans (bl_alloc (bl_alloc (bl_alloc (bl_refl w) _) _) _) C2)
    go_wp2_with fail
    refine (specVRange _ _ _).mono ?_
    rintro e w3 ⟨rfl, B3⟩
    have C3 := bl_trans C2 B3
    clear hc2 hf2 C2 B3
    obtain ⟨hc3, hf3⟩ := bcell C3
    have H3 := Lib.hid (bl_trans (bl_alloc (bl_alloc (bl_alloc (bl_refl w) _) _) _) C3)
    go_wp2
    exact bodyPost_ret (v := .tuple #[vec (rngX (x + u) (y + v)) (rngY (x + u) (y + v)), .bool (vokB (x + u) (y + v))]) (by simp [results, Try.results25, go_sem, hc3]) rfl ⟨ret_vb (by rw [E.out.1]) (by rw [E.out.2.1]) (by rw [E.out.2.2]), bl_set (bl_set (H3.out) _ _ _ (by omega)) _ _ _ (by omega)⟩

end Go.Proofs.Ytmnojoddapdaoab
