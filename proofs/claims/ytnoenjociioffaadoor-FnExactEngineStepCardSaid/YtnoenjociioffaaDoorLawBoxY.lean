/-
  The walks of the exact laws of chapter 3 that make a variable in a region that draws its order.
-/
import Derived.Test.YtnoenjociioffaaDoorLawBoxX
import Derived.Deep.DeepCutAuto
namespace Go.Proofs.YtnoenjociioffaaDoor
open Go.RowKit
open M

theorem BCell.zS {W w' : World} {ty : TypeId} (B : Below (W.alloc (.cells #[.int .i64 0, .int .i64 0, .int .i64 0, .int .i64 0] ty)).heap.size (W.alloc (.cells #[.int .i64 0, .int .i64 0, .int .i64 0, .int .i64 0] ty)) w') : BCell w' W.heap.size 0 0 0 0 := (BCell.new W W.heap.size 0 0 0 0 ty rfl).step B
theorem BCell.zD {W w' : World} {ty : TypeId} (B : Below (W.alloc (.cells #[.int .i64 0, .int .i64 0, .int .i64 0, .int .i64 0] ty)).drew.heap.size (W.alloc (.cells #[.int .i64 0, .int .i64 0, .int .i64 0, .int .i64 0] ty)).drew w') : BCell w' W.heap.size 0 0 0 0 := (BCell.new W W.heap.size 0 0 0 0 ty rfl).drew.step B
theorem BCell.zE {W w' : World} {a b : Obj} {ty : TypeId} (B : Below (((W.alloc a).alloc b).alloc (.cells #[.int .i64 0, .int .i64 0, .int .i64 0, .int .i64 0] ty)).drew.heap.size (((W.alloc a).alloc b).alloc (.cells #[.int .i64 0, .int .i64 0, .int .i64 0, .int .i64 0] ty)).drew w') : BCell w' (W.heap.size + 1 + 1) 0 0 0 0 := by
  have := BCell.zD B
  simpa using this
theorem PCell.zS {W w' : World} {ty : TypeId} (B : Below (W.alloc (.cells #[.int .i64 0, .int .i64 0] ty)).heap.size (W.alloc (.cells #[.int .i64 0, .int .i64 0] ty)) w') : PCell w' W.heap.size 0 0 := (PCell.new W W.heap.size 0 0 ty rfl).step B
theorem PCell.zD {W w' : World} {ty : TypeId} (B : Below (W.alloc (.cells #[.int .i64 0, .int .i64 0] ty)).drew.heap.size (W.alloc (.cells #[.int .i64 0, .int .i64 0] ty)).drew w') : PCell w' W.heap.size 0 0 := (PCell.new W W.heap.size 0 0 ty rfl).drew.step B
theorem PCell.zE {W w' : World} {a b : Obj} {ty : TypeId} (B : Below (((W.alloc a).alloc b).alloc (.cells #[.int .i64 0, .int .i64 0] ty)).drew.heap.size (((W.alloc a).alloc b).alloc (.cells #[.int .i64 0, .int .i64 0] ty)).drew w') : PCell w' (W.heap.size + 1 + 1) 0 0 := by
  have := PCell.zD B
  simpa using this

set_option maxHeartbeats 1000000 in
theorem eqBox_same (p q s t : Int) (w : World) : Calls Tryd.prog 71 #[box p q s t, box p q s t] w fun e w' => e = .returned (.bool true) ∧ Below w.heap.size w w' := by
  have O0 : BCell ((w.alloc (.cells #[.int .i64 p, .int .i64 q, .int .i64 s, .int .i64 t] 27)).alloc (.cells #[.int .i64 p, .int .i64 q, .int .i64 s, .int .i64 t] 27)) w.heap.size p q s t := (BCell.new w w.heap.size p q s t _ rfl).alloc _
  have O1 : BCell ((w.alloc (.cells #[.int .i64 p, .int .i64 q, .int .i64 s, .int .i64 t] 27)).alloc (.cells #[.int .i64 p, .int .i64 q, .int .i64 s, .int .i64 t] 27)) (w.heap.size + 1) p q s t := BCell.new _ (w.heap.size + 1) p q s t _ (by simp)
  go_enter Tryd.func71, Tryd.ntmps71
  go_wp2_with fail
  refine (eqVec_same _ _ _).mono ?_
  rintro e w1 ⟨rfl, B1⟩
  have O2 := O0.step B1
  have O3 := O1.step B1
  have H1 := Lib.hid (bl_trans (bl_alloc (bl_alloc (bl_refl w) _) _) B1)
  clear B1 O0 O1
  have ac0 := O2.c0
  have ac1 := O2.c1
  have ac2 := O2.c2
  have ac3 := O2.c3
  have af0 := O2.f0
  have af1 := O2.f1
  have af2 := O2.f2
  have af3 := O2.f3
  have al := O2.lt
  have bc0 := O3.c0
  have bc1 := O3.c1
  have bc2 := O3.c2
  have bc3 := O3.c3
  have bf0 := O3.f0
  have bf1 := O3.f1
  have bf2 := O3.f2
  have bf3 := O3.f3
  have bl := O3.lt
  go_wp2_with fail
  refine (eqVec_same _ _ _).mono ?_
  rintro e w2 ⟨rfl, B2⟩
  have H2 := Lib.hid (bl_trans H1.out B2)
  clear B2 H1 O2 O3 ac0 ac1 ac2 ac3 af0 af1 af2 af3 al bc0 bc1 bc2 bc3 bf0 bf1 bf2 bf3 bl
  go_wp2
  go_ret
  exact ⟨rfl, H2.out⟩

/-- Between the two calls: the first answer is in a variable of its own. -/
def MeetMid (w : World) (p q s t x y u v : Int) (p5 p6 : Value) (W : World) : Prop :=
  ∃ b : Nat, w.heap.size + 1 < b ∧ p5 = .pointer (some ⟨b, 0, none⟩) ∧ p6 = .bool (mtB p q s t x y u v) ∧ BCell W b (mtA p q s t x y u v) (mtE p q s t x y u v) (mtC p q s t x y u v) (mtD p q s t x y u v) ∧ BCell W (w.heap.size) p q s t ∧ BCell W (w.heap.size + 1) x y u v ∧ Below w.heap.size w W
/-- Behind both calls: both answers are in variables. -/
def MeetEnd (w : World) (b : Nat) (p q s t x y u v : Int) (p5 p6 : Value) (W : World) : Prop :=
  ∃ c : Nat, p5 = .pointer (some ⟨c, 0, none⟩) ∧ p6 = .bool (mtB p q s t x y u v) ∧ BCell W c (mtA p q s t x y u v) (mtE p q s t x y u v) (mtC p q s t x y u v) (mtD p q s t x y u v) ∧ BCell W b (mtA p q s t x y u v) (mtE p q s t x y u v) (mtC p q s t x y u v) (mtD p q s t x y u v) ∧ Below w.heap.size w W

/-- Between the two calls: the first answer is in a variable of its own. -/
def NearMid (w : World) (p q s t x y : Int) (p5 p6 : Value) (W : World) : Prop :=
  ∃ b : Nat, w.heap.size + 1 < b ∧ p5 = .pointer (some ⟨b, 0, none⟩) ∧ p6 = .bool (nrB p q s t x y) ∧ PCell W b (nrX p q s t x y) (nrY p q s t x y) ∧ BCell W (w.heap.size) p q s t ∧ PCell W (w.heap.size + 1) x y ∧ Below w.heap.size w W
/-- Behind both calls: both answers are in variables. -/
def NearEnd (w : World) (b : Nat) (p q s t x y : Int) (p5 p6 : Value) (W : World) : Prop :=
  ∃ c : Nat, p5 = .pointer (some ⟨c, 0, none⟩) ∧ p6 = .bool (nrB p q s t x y) ∧ PCell W c (nrX p q s t x y) (nrY p q s t x y) ∧ PCell W b (nrX p q s t x y) (nrY p q s t x y) ∧ Below w.heap.size w W

end Go.Proofs.YtnoenjociioffaaDoor
