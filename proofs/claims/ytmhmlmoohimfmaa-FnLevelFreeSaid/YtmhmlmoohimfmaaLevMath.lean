/-
  Levels as plain functions of numbers and lists of boxes.
-/
import Derived.Test.YtmhmlmoohimfmaaBoxMath
import Derived.Test.YtmhmlmoohimfmaaHashMath
namespace Go.Proofs.Ytmhmlmoohimfmaa
namespace M

/-- A box: its two corners. -/
structure Bx where
  a : Int
  b : Int
  c : Int
  d : Int
/-- The box that stands where there is none. -/
def bz : Bx := ⟨0, 0, 0, 0⟩
def Bx.ok (q : Bx) : Bool := bvB q.a q.b q.c q.d
def Bx.hit (q : Bx) (x y : Int) : Bool := t0B q.a q.b q.c q.d x y 500
/-- Every box is valid. -/
def bxs (bs : List Bx) : Bool := bs.all Bx.ok
/-- The car is free at a point. -/
def frB (bs : List Bx) (x y : Int) : Bool := bs.all fun q => !(q.hit x y)

theorem take_snocB {bs : List Bx} {k : Nat} (h : k < bs.length) : bs.take (k + 1) = bs.take k ++ [bs.getD k bz] := by
  rw [List.take_succ_eq_append_getElem h, List.getD_eq_getElem?_getD, List.getElem?_eq_getElem h]
  rfl
theorem mem_getD {bs : List Bx} {k : Nat} (h : k < bs.length) : bs.getD k bz ∈ bs := by
  rw [List.getD_eq_getElem?_getD, List.getElem?_eq_getElem h]
  exact List.getElem_mem h
theorem all_next {f : Bx → Bool} {bs : List Bx} {k : Nat} (h : k < bs.length) (ha : (bs.take k).all f = true) (hz : f (bs.getD k bz) = true) : (bs.take (k + 1)).all f = true := by
  rw [take_snocB h, List.all_append, ha, List.all_cons, hz]
  rfl
theorem all_no {f : Bx → Bool} {bs : List Bx} {k : Nat} (h : k < bs.length) (hz : f (bs.getD k bz) = false) : bs.all f = false := by
  rw [List.all_eq_false]
  exact ⟨_, mem_getD h, by rw [hz]; simp⟩
theorem all_end {f : Bx → Bool} {bs : List Bx} {k : Nat} (h : bs.length ≤ k) (ha : (bs.take k).all f = true) : bs.all f = true := by
  rw [List.take_of_length_le h] at ha
  exact ha
theorem all_mem {f : Bx → Bool} {bs : List Bx} (h : bs.all f = true) {k : Nat} (hk : k < bs.length) : f (bs.getD k bz) = true := List.all_eq_true.1 h _ (mem_getD hk)

/-- A valid level. -/
def lvB (i t x y : Int) (ws gs : List Bx) (p q r s b : Int) : Bool :=
  inB i 0 99 && inB t 1 60 && vokB x y && decide (ws.length ≤ 4) && bxs ws && decide (gs.length ≤ 3) && bxs gs && bvB p q r s && inB b 0 3 && frB ws x y
theorem lv_iff (i t x y : Int) (ws gs : List Bx) (p q r s b : Int) : lvB i t x y ws gs p q r s b = true ↔ inB i 0 99 = true ∧ inB t 1 60 = true ∧ vokB x y = true ∧ ws.length ≤ 4 ∧ bxs ws = true ∧ gs.length ≤ 3 ∧ bxs gs = true ∧ bvB p q r s = true ∧ inB b 0 3 = true ∧ frB ws x y = true := by
  simp [lvB, and_assoc]
/-- The car can be at a point. -/
def lfB (i t x y : Int) (ws gs : List Bx) (p q r s b u v : Int) : Bool := lvB i t x y ws gs p q r s b && vokB u v && frB ws u v
/-- Something is forbidden by a number. -/
def bnB (b k : Int) : Bool := decide ((b / k) % 2 = 1)
def lbB (i t x y : Int) (ws gs : List Bx) (p q r s b k : Int) : Bool := lvB i t x y ws gs p q r s b && inB k 1 2 && bnB b k
/-- The numbers of boxes. -/
def flat : List Bx → List Int
  | [] => []
  | q :: bs => q.a :: q.b :: q.c :: q.d :: flat bs
theorem flat_append (as bs : List Bx) : flat (as ++ bs) = flat as ++ flat bs := by
  induction as with
  | nil => rfl
  | cons q as ih => simp [flat, ih]
theorem flat_len (bs : List Bx) : (flat bs).length = 4 * bs.length := by
  induction bs with
  | nil => rfl
  | cons q bs ih => simp [flat, ih]; omega
theorem flat_next {bs : List Bx} {k : Nat} (h : k < bs.length) : flat (bs.take (k + 1)) = flat (bs.take k) ++ [(bs.getD k bz).a, (bs.getD k bz).b, (bs.getD k bz).c, (bs.getD k bz).d] := by
  rw [take_snocB h, flat_append]
  rfl
/-- What is hashed of a level. -/
def lvL (i t x y : Int) (ws gs : List Bx) (p q r s b : Int) : List Int := [i, t, x, y, (ws.length : Int), (gs.length : Int), b] ++ flat ws ++ flat gs ++ [p, q, r, s]
def lhI (i t x y : Int) (ws gs : List Bx) (p q r s b : Int) : Int := if lvB i t x y ws gs p q r s b then hsh 17 (lvL i t x y ws gs p q r s b) else -1
theorem lh_no {i t x y : Int} {ws gs : List Bx} {p q r s b : Int} (h : lvB i t x y ws gs p q r s b = false) : lhI i t x y ws gs p q r s b = -1 := by simp [lhI, h]
theorem lh_yes {i t x y : Int} {ws gs : List Bx} {p q r s b : Int} (h : lvB i t x y ws gs p q r s b = true) : lhI i t x y ws gs p q r s b = hsh 17 (lvL i t x y ws gs p q r s b) := by simp [lhI, h]
theorem hsh_append (h : Int) (xs ys : List Int) : hsh h (xs ++ ys) = hsh (hsh h xs) ys := by simp [hsh, List.foldl_append]

end M
end Go.Proofs.Ytmhmlmoohimfmaa
