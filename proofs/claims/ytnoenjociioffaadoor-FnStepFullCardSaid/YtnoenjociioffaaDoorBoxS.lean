/-
  Plain arithmetic of boxes: what each function of chapter 3 comes to. No Go text is named here.
  What the functions of chapter 3 return in the model, at every argument: the contracts. A box is four integers.
  What the laws of chapter 3 ask of the plain arithmetic of boxes. No Go text is named here.
-/
import Derived.Test.YtnoenjociioffaaDoorVecS
namespace Go.Proofs.YtnoenjociioffaaDoor
namespace M

theorem ite_max (x y : Int) : (if x < y then y else x) = max x y := by split <;> omega
theorem ite_min (x y : Int) : (if y < x then y else x) = min x y := by split <;> omega

/-- A valid box. -/
def bvB (a b c d : Int) : Bool := vokB a b && vokB c d && decide (a ≤ c) && decide (b ≤ d)
theorem bv_no1 {a b c d : Int} (h : vokB a b = false) : bvB a b c d = false := by simp [bvB, h]
theorem bv_no2 {a b c d : Int} (h : vokB c d = false) : bvB a b c d = false := by simp [bvB, h]
theorem bv_no3 {a b c d : Int} (h : ¬ a ≤ c) : bvB a b c d = false := by
  unfold bvB; rw [decide_eq_false h, Bool.and_false, Bool.false_and]
theorem bv_yes {a b c d : Int} (h : vokB a b = true) (g : vokB c d = true) (k : a ≤ c) : bvB a b c d = decide (b ≤ d) := by simp [bvB, h, g, k]
theorem bv_iff (a b c d : Int) : bvB a b c d = true ↔ ((-1000000 ≤ a ∧ a ≤ 1000000) ∧ (-1000000 ≤ b ∧ b ≤ 1000000)) ∧ ((-1000000 ≤ c ∧ c ≤ 1000000) ∧ (-1000000 ≤ d ∧ d ≤ 1000000)) ∧ a ≤ c ∧ b ≤ d := by
  simp only [bvB, Bool.and_eq_true, vok_iff, decide_eq_true_eq]
  constructor
  · rintro ⟨⟨⟨h1, h2⟩, h3⟩, h4⟩; exact ⟨h1, h2, h3, h4⟩
  · rintro ⟨h1, h2, h3, h4⟩; exact ⟨⟨⟨h1, h2⟩, h3⟩, h4⟩
/-- A point between the sides. -/
def h0B (a b c d x y : Int) : Bool := inB x a c && inB y b d
theorem h0_no {a b c d x y : Int} (h : inB x a c = false) : h0B a b c d x y = false := by simp [h0B, h]
theorem h0_yes {a b c d x y : Int} (h : inB x a c = true) : h0B a b c d x y = inB y b d := by simp [h0B, h]
def bhB (a b c d x y : Int) : Bool := bvB a b c d && vokB x y && h0B a b c d x y
theorem bh_no1 {a b c d x y : Int} (h : bvB a b c d = false) : bhB a b c d x y = false := by simp [bhB, h]
theorem bh_no2 {a b c d x y : Int} (h : vokB x y = false) : bhB a b c d x y = false := by simp [bhB, h]
theorem bh_yes {a b c d x y : Int} (h : bvB a b c d = true) (g : vokB x y = true) : bhB a b c d x y = h0B a b c d x y := by simp [bhB, h, g]
/-- The common part. -/
def mtB (a b c d p q r s : Int) : Bool := bvB a b c d && bvB p q r s && bvB (max a p) (max b q) (min c r) (min d s)
def mtA (a b c d p q r s : Int) : Int := if mtB a b c d p q r s then max a p else 0
def mtE (a b c d p q r s : Int) : Int := if mtB a b c d p q r s then max b q else 0
def mtC (a b c d p q r s : Int) : Int := if mtB a b c d p q r s then min c r else 0
def mtD (a b c d p q r s : Int) : Int := if mtB a b c d p q r s then min d s else 0
theorem mt_no {a b c d p q r s : Int} (h : mtB a b c d p q r s = false) : mtA a b c d p q r s = 0 ∧ mtE a b c d p q r s = 0 ∧ mtC a b c d p q r s = 0 ∧ mtD a b c d p q r s = 0 := by simp [mtA, mtE, mtC, mtD, h]
theorem mt_yes {a b c d p q r s : Int} (h : mtB a b c d p q r s = true) : mtA a b c d p q r s = max a p ∧ mtE a b c d p q r s = max b q ∧ mtC a b c d p q r s = min c r ∧ mtD a b c d p q r s = min d s := by simp [mtA, mtE, mtC, mtD, h]
/-- The nearest point. -/
def nrB (a b c d x y : Int) : Bool := bvB a b c d && vokB x y
def nrX (a b c d x y : Int) : Int := if nrB a b c d x y then max a (min x c) else 0
def nrY (a b c d x y : Int) : Int := if nrB a b c d x y then max b (min y d) else 0
theorem nr_no {a b c d x y : Int} (h : nrB a b c d x y = false) : nrX a b c d x y = 0 ∧ nrY a b c d x y = 0 := by simp [nrX, nrY, h]
theorem nr_yes {a b c d x y : Int} (h : nrB a b c d x y = true) : nrX a b c d x y = max a (min x c) ∧ nrY a b c d x y = max b (min y d) := by simp [nrX, nrY, h]
/-- A circle touches a box. -/
def t0B (a b c d x y r : Int) : Bool := decide ((x - max a (min x c)) * (x - max a (min x c)) + (y - max b (min y d)) * (y - max b (min y d)) ≤ r * r)
def tcB (a b c d x y r : Int) : Bool := bvB a b c d && vokB x y && inB r 0 1000000 && t0B a b c d x y r
theorem tc_no1 {a b c d x y r : Int} (h : bvB a b c d = false) : tcB a b c d x y r = false := by simp [tcB, h]
theorem tc_no2 {a b c d x y r : Int} (h : vokB x y = false) : tcB a b c d x y r = false := by simp [tcB, h]
theorem tc_no3 {a b c d x y r : Int} (h : inB r 0 1000000 = false) : tcB a b c d x y r = false := by simp [tcB, h]
theorem tc_yes {a b c d x y r : Int} (h : bvB a b c d = true) (g : vokB x y = true) (k : inB r 0 1000000 = true) : tcB a b c d x y r = t0B a b c d x y r := by simp [tcB, h, g, k]
theorem gap_bd {a c x : Int} (a1 : -1000000 ≤ a) (c2 : c ≤ 1000000) (ac : a ≤ c) (x1 : -1000000 ≤ x) (x2 : x ≤ 1000000) : -2000000 ≤ x - max a (min x c) ∧ x - max a (min x c) ≤ 2000000 := by omega

end M
end Go.Proofs.YtnoenjociioffaaDoor

namespace Go.Proofs.YtnoenjociioffaaDoor
open Go.RowKit
open M

/-- A box as a value. -/
abbrev box (a b c d : Int) : Value := .agg #[.int .i64 a, .int .i64 b, .int .i64 c, .int .i64 d]
theorem ret_bb {a b c d a' b' c' d' : Int} {p q : Bool} (h1 : a = a') (h2 : b = b') (h3 : c = c') (h4 : d = d') (g : p = q) : Ending.returned (.tuple #[.agg #[.int .i64 a, .int .i64 b, .int .i64 c, .int .i64 d], .bool p]) = .returned (.tuple #[box a' b' c' d', .bool q]) := by rw [h1, h2, h3, h4, g]

set_option maxHeartbeats 400000 in
theorem specBValid (a b c d : Int) (w : World) : Calls Tryd.prog 98 #[box a b c d] w fun e w' => e = .returned (.bool (bvB a b c d)) ∧ Below w.heap.size w w' := by
  cases h : vokB a b
  · have E := Lib.hid (bv_no1 (c := c) (d := d) h)
    go_enter Tryd.func98, Tryd.ntmps98
    go_wp2_with fail
    refine (specVecOk _ _ _).mono ?_
    rintro e w1 ⟨rfl, B1⟩
    have C1 := B1
    clear B1
    obtain ⟨hc1, hf1⟩ := bcell C1
    have H1 := Lib.hid (bl_trans (bl_alloc (bl_refl w) _) C1)
    go_wp2
    go_ret
    exact ⟨ret_b (by rw [E.out]), H1.out⟩
  cases g : vokB c d
  · have E := Lib.hid (bv_no2 (a := a) (b := b) g)
    go_enter Tryd.func98, Tryd.ntmps98
    go_wp2_with fail
    refine (specVecOk _ _ _).mono ?_
    rintro e w1 ⟨rfl, B1⟩
    have C1 := B1
    clear B1
    obtain ⟨hc1, hf1⟩ := bcell C1
    have H1 := Lib.hid (bl_trans (bl_alloc (bl_refl w) _) C1)
    go_wp2_with fail
    refine (specVecOk _ _ _).mono ?_
    rintro e w2 ⟨rfl, B2⟩
    have C2 := bl_trans C1 B2
    clear hc1 hf1 C1 B2
    obtain ⟨hc2, hf2⟩ := bcell C2
    have H2 := Lib.hid (bl_trans (bl_alloc (bl_refl w) _) C2)
    go_wp2
    go_ret
    exact ⟨ret_b (by rw [E.out]), H2.out⟩
  by_cases k : a ≤ c
  · have E := Lib.hid (bv_yes h g k)
    go_enter Tryd.func98, Tryd.ntmps98
    go_wp2_with fail
    refine (specVecOk _ _ _).mono ?_
    rintro e w1 ⟨rfl, B1⟩
    have C1 := B1
    clear B1
    obtain ⟨hc1, hf1⟩ := bcell C1
    have H1 := Lib.hid (bl_trans (bl_alloc (bl_refl w) _) C1)
    go_wp2_with fail
    refine (specVecOk _ _ _).mono ?_
    rintro e w2 ⟨rfl, B2⟩
    have C2 := bl_trans C1 B2
    clear hc1 hf1 C1 B2
    obtain ⟨hc2, hf2⟩ := bcell C2
    have H2 := Lib.hid (bl_trans (bl_alloc (bl_refl w) _) C2)
    go_wp2
    go_ret
    exact ⟨ret_b (by rw [E.out]), H2.out⟩
  · have E := Lib.hid (bv_no3 (b := b) (d := d) k)
    have k2 : decide (a ≤ c) = false := decide_eq_false k
    go_enter Tryd.func98, Tryd.ntmps98
    go_wp2_with fail
    refine (specVecOk _ _ _).mono ?_
    rintro e w1 ⟨rfl, B1⟩
    have C1 := B1
    clear B1
    obtain ⟨hc1, hf1⟩ := bcell C1
    have H1 := Lib.hid (bl_trans (bl_alloc (bl_refl w) _) C1)
    go_wp2_with fail
    refine (specVecOk _ _ _).mono ?_
    rintro e w2 ⟨rfl, B2⟩
    have C2 := bl_trans C1 B2
    clear hc1 hf1 C1 B2
    obtain ⟨hc2, hf2⟩ := bcell C2
    have H2 := Lib.hid (bl_trans (bl_alloc (bl_refl w) _) C2)
    go_wp2
    go_ret
    exact ⟨ret_b (by rw [E.out]), H2.out⟩

set_option maxHeartbeats 400000 in
theorem specBHas0 (a b c d x y : Int) (w : World) : Calls Tryd.prog 110 #[box a b c d, vec x y] w fun e w' => e = .returned (.bool (h0B a b c d x y)) ∧ Below w.heap.size w w' := by
  cases h : inB x a c
  · have E := Lib.hid (h0_no (b := b) (d := d) (y := y) h)
    go_enter Tryd.func110, Tryd.ntmps110
    go_wp2_with (go_at_call 64; refine (in_any _ _ _ _).mono ?_; rintro e w' ⟨rfl, rfl⟩)
    go_ret
    exact ⟨ret_b (by rw [E.out]), bl_alloc (bl_alloc (bl_refl w) _) _⟩
  · have E := Lib.hid (h0_yes (b := b) (d := d) (y := y) h)
    go_enter Tryd.func110, Tryd.ntmps110
    go_wp2_with (go_at_call 64; refine (in_any _ _ _ _).mono ?_; rintro e w' ⟨rfl, rfl⟩)
    go_ret
    exact ⟨ret_b (by rw [E.out]), bl_alloc (bl_alloc (bl_refl w) _) _⟩

set_option maxHeartbeats 400000 in
theorem specBNear0 (a b c d x y : Int) (w : World) : Calls Tryd.prog 115 #[box a b c d, vec x y] w fun e w' => e = .returned (vec (max a (min x c)) (max b (min y d))) ∧ Below w.heap.size w w' := by
  have hmx := ite_max
  have hmn := ite_min
  go_enter Tryd.func115, Tryd.ntmps115
  go_wp2
  exact bodyPost_ret (v := vec (max a (min x c)) (max b (min y d))) (by simp [results, Tryd.results115, go_sem]) rfl ⟨rfl, by repeat (first | exact bl_refl _ | refine bl_alloc ?_ _ | refine bl_set ?_ _ _ _ (by omega))⟩

set_option maxHeartbeats 1000000 in
theorem specBTouch0 (a b c d x y r : Int) (w : World) (hb : bvB a b c d = true) (hv : vokB x y = true) (r0 : 0 ≤ r) (r1 : r ≤ 1000000) : Calls Tryd.prog 100 #[box a b c d, vec x y, .int .i64 r] w fun e w' => e = .returned (.bool (t0B a b c d x y r)) ∧ Below w.heap.size w w' := by
  obtain ⟨⟨⟨a1, a2⟩, b1, b2⟩, ⟨⟨c1, c2⟩, d1, d2⟩, ac, bd⟩ := (bv_iff a b c d).1 hb
  obtain ⟨⟨x1, x2⟩, y1, y2⟩ := (vok_iff x y).1 hv
  have g1 := gap_bd a1 c2 ac x1 x2
  have g2 := gap_bd b1 d2 bd y1 y2
  have n1 : -1000000 ≤ max a (min x c) ∧ max a (min x c) ≤ 1000000 := by omega
  have n2 : -1000000 ≤ max b (min y d) ∧ max b (min y d) ≤ 1000000 := by omega
  have E := Lib.hid (show t0B a b c d x y r = decide ((x - max a (min x c)) * (x - max a (min x c)) + (y - max b (min y d)) * (y - max b (min y d)) ≤ r * r) from rfl)
  have Q := Lib.hid (fun W => specBNear0 a b c d x y W)
  clear hb hv
  generalize max a (min x c) = X at *
  generalize max b (min y d) = Y at *
  have m1 := mul_bd (a := x - X) (b := x - X) (by omega) (by omega) (by omega) (by omega)
  have m2 := mul_bd (a := y - Y) (b := y - Y) (by omega) (by omega) (by omega) (by omega)
  have m3 := mul_bd (a := r) (b := r) (by omega) (by omega) (by omega) (by omega)
  go_enter Tryd.func100, Tryd.ntmps100
  go_wp2_with fail
  refine (Q.out _).mono ?_
  rintro e w1 ⟨rfl, B1⟩
  obtain ⟨hc1, hf1⟩ := bcell B1
  have l0 : w.heap.size < w1.heap.size := by have := B1.size; simp at this; omega
  have l1 : w.heap.size + 1 < w1.heap.size := by have := B1.size; simp at this; omega
  have H1 := Lib.hid (bl_trans (bl_alloc (bl_alloc (bl_refl w) _) _) B1)
  clear B1 Q
  go_wp2
  go_ret
  exact ⟨ret_b (by rw [E.out]), bl_alloc H1.out _⟩

end Go.Proofs.YtnoenjociioffaaDoor

namespace Go.Proofs.YtnoenjociioffaaDoor
namespace M

theorem bool_false {b : Bool} (h : ¬ b = true) : b = false := by cases b <;> simp_all
theorem bh_iff (a b c d x y : Int) : bhB a b c d x y = true ↔ bvB a b c d = true ∧ vokB x y = true ∧ (a ≤ x ∧ x ≤ c) ∧ (b ≤ y ∧ y ≤ d) := by
  simp [bhB, h0B, inB, and_assoc]
theorem bh_mk {a b c d x y : Int} (h : bvB a b c d = true) (hx : a ≤ x ∧ x ≤ c) (hy : b ≤ y ∧ y ≤ d) : bhB a b c d x y = true := by
  have g := (bv_iff a b c d).1 h
  exact (bh_iff _ _ _ _ _ _).2 ⟨h, vok_mk (by omega), hx, hy⟩
theorem bh_not {a b c d x y : Int} (h : ¬ ((a ≤ x ∧ x ≤ c) ∧ (b ≤ y ∧ y ≤ d))) : bhB a b c d x y = false := bool_false fun g => h ((bh_iff _ _ _ _ _ _).1 g).2.2
theorem bv_fields {a b c d : Int} (h : bvB a b c d = true) : ((-1000000 ≤ a ∧ a ≤ 1000000) ∧ (-1000000 ≤ b ∧ b ≤ 1000000)) ∧ ((-1000000 ≤ c ∧ c ≤ 1000000) ∧ (-1000000 ≤ d ∧ d ≤ 1000000)) ∧ a ≤ c ∧ b ≤ d := (bv_iff a b c d).1 h
/-- A box and its corners, and points beyond. -/
theorem bh_corners {p q s t : Int} (h : bvB p q s t = true) : bhB p q s t p q = true ∧ bhB p q s t s t = true ∧ bhB p q s t (s + 1) t = false ∧ bhB p q s t p (q - 1) = false := by
  have g := bv_fields h
  exact ⟨bh_mk h (by omega) (by omega), bh_mk h (by omega) (by omega), bh_not (by omega), bh_not (by omega)⟩
/-- The common part. -/
theorem mt_true {a b c d p q r s : Int} (h : mtB a b c d p q r s = true) : ∃ A E C D, mtA a b c d p q r s = A ∧ mtE a b c d p q r s = E ∧ mtC a b c d p q r s = C ∧ mtD a b c d p q r s = D ∧ A = max a p ∧ E = max b q ∧ C = min c r ∧ D = min d s ∧ bvB a b c d = true ∧ bvB p q r s = true ∧ bvB A E C D = true := by
  obtain ⟨e1, e2, e3, e4⟩ := mt_yes h
  simp only [mtB, Bool.and_eq_true] at h
  exact ⟨_, _, _, _, e1, e2, e3, e4, rfl, rfl, rfl, rfl, h.1.1, h.1.2, h.2⟩
theorem mt_mk {a b c d p q r s A E C D : Int} (h1 : bvB a b c d = true) (h2 : bvB p q r s = true) (h3 : bvB A E C D = true) (eA : max a p = A) (eE : max b q = E) (eC : min c r = C) (eD : min d s = D) : mtA a b c d p q r s = A ∧ mtE a b c d p q r s = E ∧ mtC a b c d p q r s = C ∧ mtD a b c d p q r s = D ∧ mtB a b c d p q r s = true := by
  subst eA eE eC eD
  have hb : mtB a b c d p q r s = true := by simp [mtB, h1, h2, h3]
  obtain ⟨e1, e2, e3, e4⟩ := mt_yes hb
  exact ⟨e1, e2, e3, e4, hb⟩
theorem mt_in {a b c d p q r s A E C D : Int} (h1 : bvB a b c d = true) (h2 : bvB p q r s = true) (h3 : bvB A E C D = true) (eA : A = max a p) (eE : E = max b q) (eC : C = min c r) (eD : D = min d s) :
    (bhB a b c d A E = true ∧ bhB p q r s A E = true) ∧ (bhB a b c d C D = true ∧ bhB p q r s C D = true) := by
  have g1 := bv_fields h1
  have g2 := bv_fields h2
  have g3 := bv_fields h3
  exact ⟨⟨bh_mk h1 (by omega) (by omega), bh_mk h2 (by omega) (by omega)⟩, bh_mk h1 (by omega) (by omega), bh_mk h2 (by omega) (by omega)⟩
theorem mt_point {a b c d p q r s A E C D x y : Int} (h1 : bvB a b c d = true) (h2 : bvB p q r s = true) (h3 : bvB A E C D = true) (eA : A = max a p) (eE : E = max b q) (eC : C = min c r) (eD : D = min d s) :
    bhB A E C D x y = (bhB a b c d x y && bhB p q r s x y) := by
  apply Bool.eq_iff_iff.2
  simp only [Bool.and_eq_true, bh_iff, h1, h2, h3, true_and]
  constructor
  · rintro ⟨hv, hx, hy⟩
    exact ⟨⟨hv, by omega, by omega⟩, hv, by omega, by omega⟩
  · rintro ⟨⟨hv, hx, hy⟩, _, hx2, hy2⟩
    exact ⟨hv, by omega, by omega⟩
theorem mt_none {a b c d p q r s : Int} (h : mtB a b c d p q r s = false) (h1 : bvB a b c d = true) (h2 : bvB p q r s = true) : bhB a b c d p q = false ∧ bhB a b c d r s = false ∧ bhB p q r s a b = false ∧ bhB p q r s c d = false := by
  have g1 := bv_fields h1
  have g2 := bv_fields h2
  have no : ¬ (max a p ≤ min c r ∧ max b q ≤ min d s) := fun g => by
    have hv : bvB (max a p) (max b q) (min c r) (min d s) = true := (bv_iff _ _ _ _).2 (by omega)
    simp [mtB, h1, h2, hv] at h
  exact ⟨bh_not (by omega), bh_not (by omega), bh_not (by omega), bh_not (by omega)⟩
theorem mt_self {a b c d : Int} (h : bvB a b c d = true) : mtA a b c d a b c d = a ∧ mtE a b c d a b c d = b ∧ mtC a b c d a b c d = c ∧ mtD a b c d a b c d = d ∧ mtB a b c d a b c d = true :=
  mt_mk h h h (by omega) (by omega) (by omega) (by omega)
/-- The nearest point. -/
theorem nr_true {a b c d x y : Int} (h : nrB a b c d x y = true) : ∃ X Y, nrX a b c d x y = X ∧ nrY a b c d x y = Y ∧ X = max a (min x c) ∧ Y = max b (min y d) ∧ bvB a b c d = true ∧ vokB x y = true := by
  obtain ⟨e1, e2⟩ := nr_yes h
  simp only [nrB, Bool.and_eq_true] at h
  exact ⟨_, _, e1, e2, rfl, rfl, h.1, h.2⟩
theorem nr_mk {a b c d x y X Y : Int} (h1 : bvB a b c d = true) (h2 : vokB x y = true) (eX : max a (min x c) = X) (eY : max b (min y d) = Y) : nrX a b c d x y = X ∧ nrY a b c d x y = Y ∧ nrB a b c d x y = true := by
  subst eX eY
  have hb : nrB a b c d x y = true := by simp [nrB, h1, h2]
  obtain ⟨e1, e2⟩ := nr_yes hb
  exact ⟨e1, e2, hb⟩
theorem nr_again {a b c d x y X Y : Int} (h1 : bvB a b c d = true) (_h2 : vokB x y = true) (eX : X = max a (min x c)) (eY : Y = max b (min y d)) : nrX a b c d X Y = X ∧ nrY a b c d X Y = Y ∧ nrB a b c d X Y = true := by
  have g := bv_fields h1
  exact nr_mk h1 (vok_mk (by omega)) (by omega) (by omega)
/-- A square of a distance. -/
def dsq (x y u v : Int) : Int := (x - u) * (x - u) + (y - v) * (y - v)
theorem sq_mono_gap {g h : Int} (k : g.natAbs ≤ h.natAbs) : g * g ≤ h * h := sq_le_of_abs k
theorem near_le {a c x z : Int} (az : a ≤ z) (zc : z ≤ c) : (max a (min x c) - x) * (max a (min x c) - x) ≤ (z - x) * (z - x) := sq_mono_gap (by omega)
theorem nr_le {a b c d x y X Y z w : Int} (eX : X = max a (min x c)) (eY : Y = max b (min y d)) (hz : a ≤ z ∧ z ≤ c) (hw : b ≤ w ∧ w ≤ d) : dsq X Y x y ≤ dsq z w x y := by
  subst eX eY
  have p := near_le (x := x) hz.1 hz.2
  have q := near_le (x := y) hw.1 hw.2
  unfold dsq
  omega
theorem nr_has {a b c d x y X Y : Int} (h1 : bvB a b c d = true) (h2 : vokB x y = true) (eX : X = max a (min x c)) (eY : Y = max b (min y d)) : bhB a b c d X Y = true ∧ (bhB a b c d x y = true ↔ X = x ∧ Y = y) := by
  have g := bv_fields h1
  refine ⟨bh_mk h1 (by omega) (by omega), ?_⟩
  simp only [bh_iff, h1, h2, true_and]
  omega
/-- A circle. -/
theorem tc_iff (a b c d x y r : Int) : tcB a b c d x y r = true ↔ bvB a b c d = true ∧ vokB x y = true ∧ (0 ≤ r ∧ r ≤ 1000000) ∧ dsq (max a (min x c)) (max b (min y d)) x y ≤ r * r := by
  have e : ∀ u v : Int, (u - v) * (u - v) = (v - u) * (v - u) := fun u v => by rw [← Int.neg_mul_neg]; congr 1 <;> omega
  simp only [tcB, t0B, inB, Bool.and_eq_true, decide_eq_true_eq, dsq, and_assoc]
  rw [e x, e y]
theorem tc_sq {a b c d x y r X Y : Int} (h1 : bvB a b c d = true) (h2 : vokB x y = true) (r0 : 0 ≤ r) (r1 : r ≤ 1000000) (eX : X = max a (min x c)) (eY : Y = max b (min y d)) : tcB a b c d x y r = decide (dsq X Y x y ≤ r * r) := by
  subst eX eY
  apply Bool.eq_iff_iff.2
  simp only [tc_iff, h1, h2, r0, r1, true_and, decide_eq_true_eq]
theorem tc_more {a b c d x y r m : Int} (h : tcB a b c d x y r = true) (m0 : r ≤ m) (m1 : m ≤ 1000000) : tcB a b c d x y m = true := by
  obtain ⟨h1, h2, ⟨r0, r1⟩, h3⟩ := (tc_iff _ _ _ _ _ _ _).1 h
  have k : r * r ≤ m * m := sq_mono_gap (by omega)
  exact (tc_iff _ _ _ _ _ _ _).2 ⟨h1, h2, ⟨by omega, m1⟩, by omega⟩
theorem dsq_zero {x y u v : Int} (h : dsq x y u v ≤ 0) : x = u ∧ y = v := by
  have e : ∀ z : Int, 0 ≤ z * z := fun z => by
    by_cases g : 0 ≤ z
    · exact Int.mul_nonneg g g
    · exact Int.mul_nonneg_of_nonpos_of_nonpos (by omega) (by omega)
  unfold dsq at h
  have a := e (x - u)
  have b := e (y - v)
  have a0 : (x - u) * (x - u) = 0 := by omega
  have b0 : (y - v) * (y - v) = 0 := by omega
  rcases Int.mul_eq_zero.1 a0 with k | k <;> rcases Int.mul_eq_zero.1 b0 with l | l <;> omega
theorem tc_zero {a b c d x y : Int} (h1 : bvB a b c d = true) (h2 : vokB x y = true) : tcB a b c d x y 0 = bhB a b c d x y := by
  have g := bv_fields h1
  apply Bool.eq_iff_iff.2
  simp only [tc_iff, bh_iff, h1, h2, true_and]
  constructor
  · rintro ⟨_, h⟩
    obtain ⟨k, l⟩ := dsq_zero (by simpa using h)
    omega
  · intro h
    have k : max a (min x c) = x := by omega
    have l : max b (min y d) = y := by omega
    rw [k, l]
    exact ⟨by omega, by simp [dsq]⟩
theorem tc_near {a b c d x y m : Int} (h : bhB a b c d x y = true) (m0 : 0 ≤ m) (m1 : m ≤ 1000000) : tcB a b c d x y m = true := by
  have g := (bh_iff _ _ _ _ _ _).1 h
  have z : tcB a b c d x y 0 = true := (tc_zero g.1 g.2.1).trans h
  exact tc_more z m0 m1
theorem bp_all {x y j : Int} (h : vokB x y = true) (j0 : 0 ≤ j) : bvB x y x y = true ∧ bhB x y x y x y = true ∧ bhB x y x y x (y + 1 + j) = false := by
  have g := (vok_iff x y).1 h
  have hv : bvB x y x y = true := (bv_iff _ _ _ _).2 (by omega)
  exact ⟨hv, bh_mk hv (by omega) (by omega), bh_not (by omega)⟩

end M
end Go.Proofs.YtnoenjociioffaaDoor
