/-
  The walks of the laws of chapter 12 on codes.
-/
import Derived.Test.YtagbeneapmpooaaInImpl
import Derived.Test.YtagbeneapmpooaaInEq
import Derived.Test.YtagbeneapmpooaaDrawIn
namespace Go.Proofs.Ytagbeneapmpooaa
open Go.RowKit
open M

set_option maxRecDepth 100000 in
set_option maxHeartbeats 4000000 in
theorem walk_FnCode (a : Option Addr) (len cap : Nat) (zs : List Int) (w : World) (h : IsRow .u8 w a len cap zs) :
    Calls Try.prog 3 #[.slice a len cap] w fun e w' => e = .returned (.bool true) ∧ Below w.heap.size w w' := by
  have hm := h.bytes.1
  have hm2 := h.bytes.2.1
  unfold maxLen at hm2
  by_cases g : 1048576 < len
  · have g1 : (1048576 : Int) < (len : Int) := by omega
    go_enter Try.func3, Try.ntmps3
    go_wp2
    go_ret
    exact ⟨rfl, Below.refl _ _⟩
  have g1 : (len : Int) ≤ 1048576 := by omega
  clear g hm hm2
  have hgd := input_guard
  go_enter Try.func3, Try.ntmps3
  go_wp2_with fail
  refine (draw_icode a len cap zs w h).mono ?_
  rintro e w1 ⟨s, p, z, hb, rfl, B⟩
  have X : CellsAt (w1.alloc (.cells #[.int .i64 s, .int .i64 p, .bool z] 24)) w1.heap.size (ins s p z) := CellsAt.new _ _ _ _ rfl
  have H := Lib.hid (bl_alloc B (.cells #[.int .i64 s, .int .i64 p, .bool z] 24))
  clear B h
  have V := fun W => implICode s p z W
  have S := fun W => specICode s p z W
  have U := fun W => implIValid s p z W
  have T := fun W => implIOf (icI s p z) W
  cases hv : inV s p z
  · rw [ic_no hv] at V S
    replace V := Lib.hid V
    replace S := Lib.hid S
    clear U T hv hb
    have Xc0 := X.cell 0 _ rfl
    have Xc1 := X.cell 1 _ rfl
    have Xc2 := X.cell 2 _ rfl
    have Xl := X.lt
    go_wp2_with fail
    refine (V.out _).mono ?_
    rintro e w2 ⟨rfl, B⟩
    replace X := X.step B
    replace H := Lib.hid (bl_trans H.out B)
    clear B
    clear Xc0 Xc1 Xc2 Xl
    have Xc0 := X.cell 0 _ rfl
    have Xc1 := X.cell 1 _ rfl
    have Xc2 := X.cell 2 _ rfl
    have Xl := X.lt
    go_wp2_with fail
    refine (S.out _).mono ?_
    rintro e w3 ⟨rfl, B⟩
    replace X := X.step B
    replace H := Lib.hid (bl_trans H.out B)
    clear B
    clear Xc0 Xc1 Xc2 Xl
    go_wp2
    go_ret
    exact ⟨rfl, H.out⟩
  obtain ⟨o1, o2, o3, o4, c0⟩ := code_of hv
  rw [o1, o2, o3, o4] at T
  rw [hv] at U
  have c9 : icI s p z ≤ 9 := (show 0 ≤ icI s p z ∧ icI s p z ≤ 9 by simpa [inB] using o4).2
  generalize icI s p z = c at *
  replace V := Lib.hid V
  replace S := Lib.hid S
  replace U := Lib.hid U
  replace T := Lib.hid T
  have hev := fun W => eq_input (beq_input s p z) W
  clear o1 o2 o3 o4 hv hb
  have Xc0 := X.cell 0 _ rfl
  have Xc1 := X.cell 1 _ rfl
  have Xc2 := X.cell 2 _ rfl
  have Xl := X.lt
  go_wp2_with fail
  refine (V.out _).mono ?_
  rintro e w2 ⟨rfl, B⟩
  replace X := X.step B
  replace H := Lib.hid (bl_trans H.out B)
  clear B
  clear Xc0 Xc1 Xc2 Xl
  have Xc0 := X.cell 0 _ rfl
  have Xc1 := X.cell 1 _ rfl
  have Xc2 := X.cell 2 _ rfl
  have Xl := X.lt
  go_wp2_with fail
  refine (S.out _).mono ?_
  rintro e w3 ⟨rfl, B⟩
  replace X := X.step B
  replace H := Lib.hid (bl_trans H.out B)
  clear B
  clear Xc0 Xc1 Xc2 Xl
  go_wp2_with fail
  refine (T.out _).mono ?_
  rintro e w4 ⟨rfl, B⟩
  replace X := X.step B
  replace H := Lib.hid (bl_trans H.out B)
  clear B
  have Y : CellsAt (w4.alloc (.cells #[.int .i64 s, .int .i64 p, .bool z] 24)) w4.heap.size (ins s p z) := CellsAt.new _ _ _ _ rfl
  replace X := X.alloc (.cells #[.int .i64 s, .int .i64 p, .bool z] 24)
  replace H := Lib.hid (bl_alloc H.out (.cells #[.int .i64 s, .int .i64 p, .bool z] 24))
  have Xc0 := X.cell 0 _ rfl
  have Xc1 := X.cell 1 _ rfl
  have Xc2 := X.cell 2 _ rfl
  have Xl := X.lt
  have Yc0 := Y.cell 0 _ rfl
  have Yc1 := Y.cell 1 _ rfl
  have Yc2 := Y.cell 2 _ rfl
  have Yl := Y.lt
  go_wp2_with fail
  refine (U.out _).mono ?_
  rintro e w5 ⟨rfl, B⟩
  replace H := Lib.hid (bl_trans H.out B)
  go_wp2
  go_ret
  exact ⟨rfl, H.out⟩

set_option maxRecDepth 100000 in
set_option maxHeartbeats 4000000 in
theorem walk_FnCodeBack (a : Option Addr) (len cap : Nat) (zs : List Int) (w : World) (h : IsRow .u8 w a len cap zs) :
    Calls Try.prog 4 #[.slice a len cap] w fun e w' => e = .returned (.bool true) ∧ Below w.heap.size w w' := by
  have hm := h.bytes.1
  have hm2 := h.bytes.2.1
  unfold maxLen at hm2
  by_cases g : 1048576 < len
  · have g1 : (1048576 : Int) < (len : Int) := by omega
    go_enter Try.func4, Try.ntmps4
    go_wp2
    go_ret
    exact ⟨rfl, Below.refl _ _⟩
  have g1 : (len : Int) ≤ 1048576 := by omega
  clear g hm hm2
  have hgd := input_guard
  go_enter Try.func4, Try.ntmps4
  go_wp2_with fail
  refine (draw_iof a len cap zs w h).mono ?_
  rintro e w1 ⟨n, ⟨n0, n1⟩, rfl, B⟩
  have H := Lib.hid B
  clear B h
  have hev := fun W => eq_input (beq_input (ofS n) (ofP n) (ofZ n)) W
  have hnv := fun W => neq_input (beq_input (ofS n) (ofP n) (ofZ n)) W
  have V := fun W => implIOf n W
  have S := fun W => specIOf n W
  cases hv : inB n 0 9
  · rw [hv] at V S
    replace V := Lib.hid V
    replace S := Lib.hid S
    generalize ofS n = gs at *
    generalize ofP n = gp at *
    generalize ofZ n = gz at *
    clear hv
    go_wp2_with fail
    refine (V.out _).mono ?_
    rintro e w2 ⟨rfl, B⟩
    replace H := Lib.hid (bl_trans H.out B)
    clear B
    have X : CellsAt (w2.alloc (.cells #[.int .i64 gs, .int .i64 gp, .bool gz] 24)) w2.heap.size (ins gs gp gz) := CellsAt.new _ _ _ _ rfl
    replace H := Lib.hid (bl_alloc H.out (.cells #[.int .i64 gs, .int .i64 gp, .bool gz] 24))
    go_wp2_with fail
    refine (S.out _).mono ?_
    rintro e w3 ⟨rfl, B⟩
    replace X := X.step B
    replace H := Lib.hid (bl_trans H.out B)
    clear B
    have Y : CellsAt (w3.alloc (.cells #[.int .i64 gs, .int .i64 gp, .bool gz] 24)) w3.heap.size (ins gs gp gz) := CellsAt.new _ _ _ _ rfl
    replace X := X.alloc (.cells #[.int .i64 gs, .int .i64 gp, .bool gz] 24)
    replace H := Lib.hid (bl_alloc H.out (.cells #[.int .i64 gs, .int .i64 gp, .bool gz] 24))
    have Xc0 := X.cell 0 _ rfl
    have Xc1 := X.cell 1 _ rfl
    have Xc2 := X.cell 2 _ rfl
    have Xl := X.lt
    have Yc0 := Y.cell 0 _ rfl
    have Yc1 := Y.cell 1 _ rfl
    have Yc2 := Y.cell 2 _ rfl
    have Yl := Y.lt
    go_wp2
    go_ret
    exact ⟨rfl, H.out⟩
  obtain ⟨o1, o2⟩ := of_code hv
  have C := fun W => implICode (ofS n) (ofP n) (ofZ n) W
  have U := fun W => implIValid (ofS n) (ofP n) (ofZ n) W
  rw [o1] at C
  rw [o2] at U
  rw [hv] at V S
  replace V := Lib.hid V
  replace S := Lib.hid S
  replace U := Lib.hid U
  replace C := Lib.hid C
  clear hv o1 o2
  generalize ofS n = gs at *
  generalize ofP n = gp at *
  generalize ofZ n = gz at *
  go_wp2_with fail
  refine (V.out _).mono ?_
  rintro e w2 ⟨rfl, B⟩
  replace H := Lib.hid (bl_trans H.out B)
  clear B
  have X : CellsAt (w2.alloc (.cells #[.int .i64 gs, .int .i64 gp, .bool gz] 24)) w2.heap.size (ins gs gp gz) := CellsAt.new _ _ _ _ rfl
  replace H := Lib.hid (bl_alloc H.out (.cells #[.int .i64 gs, .int .i64 gp, .bool gz] 24))
  go_wp2_with fail
  refine (S.out _).mono ?_
  rintro e w3 ⟨rfl, B⟩
  replace X := X.step B
  replace H := Lib.hid (bl_trans H.out B)
  clear B
  have Y : CellsAt (w3.alloc (.cells #[.int .i64 gs, .int .i64 gp, .bool gz] 24)) w3.heap.size (ins gs gp gz) := CellsAt.new _ _ _ _ rfl
  replace X := X.alloc (.cells #[.int .i64 gs, .int .i64 gp, .bool gz] 24)
  replace H := Lib.hid (bl_alloc H.out (.cells #[.int .i64 gs, .int .i64 gp, .bool gz] 24))
  have Xc0 := X.cell 0 _ rfl
  have Xc1 := X.cell 1 _ rfl
  have Xc2 := X.cell 2 _ rfl
  have Xl := X.lt
  have Yc0 := Y.cell 0 _ rfl
  have Yc1 := Y.cell 1 _ rfl
  have Yc2 := Y.cell 2 _ rfl
  have Yl := Y.lt
  go_wp2_with fail
  clear Xc0 Xc1 Xc2 Xl Yc0 Yc1 Yc2 Yl
  refine (C.out _).mono ?_
  rintro e w4 ⟨rfl, B⟩
  replace X := X.step B
  replace Y := Y.step B
  replace H := Lib.hid (bl_trans H.out B)
  clear B
  have Xc0 := X.cell 0 _ rfl
  have Xc1 := X.cell 1 _ rfl
  have Xc2 := X.cell 2 _ rfl
  have Xl := X.lt
  have Yc0 := Y.cell 0 _ rfl
  have Yc1 := Y.cell 1 _ rfl
  have Yc2 := Y.cell 2 _ rfl
  have Yl := Y.lt
  go_wp2_with fail
  clear Xc0 Xc1 Xc2 Xl Yc0 Yc1 Yc2 Yl
  refine (U.out _).mono ?_
  rintro e w5 ⟨rfl, B⟩
  replace X := X.step B
  replace Y := Y.step B
  replace H := Lib.hid (bl_trans H.out B)
  clear B
  go_wp2
  go_ret
  exact ⟨rfl, H.out⟩

set_option maxRecDepth 100000 in
set_option maxHeartbeats 4000000 in
theorem walk_FnCodes (a : Option Addr) (len cap : Nat) (zs : List Int) (a2 : Option Addr) (len2 cap2 : Nat) (zs2 : List Int) (w : World) (h : IsRow .u8 w a len cap zs) (h2 : IsRow .u8 w a2 len2 cap2 zs2) :
    Calls Try.prog 9 #[.slice a len cap, .slice a2 len2 cap2] w fun e w' => e = .returned (.bool true) ∧ Below w.heap.size w w' := by
  have hm := h.bytes.1
  have hm2 := h.bytes.2.1
  unfold maxLen at hm2
  have hn := h2.bytes.1
  have hn2 := h2.bytes.2.1
  unfold maxLen at hn2
  clear h2
  by_cases g : 1048576 < len
  · have g1 : (1048576 : Int) < (len : Int) := by omega
    go_enter Try.func9, Try.ntmps9
    go_wp2
    go_ret
    exact ⟨rfl, Below.refl _ _⟩
  have g1 : (len : Int) ≤ 1048576 := by omega
  by_cases k : 1048576 < len2
  · have k1 : (1048576 : Int) < (len2 : Int) := by omega
    go_enter Try.func9, Try.ntmps9
    go_wp2
    go_ret
    exact ⟨rfl, Below.refl _ _⟩
  have k1 : (len2 : Int) ≤ 1048576 := by omega
  clear k hn hn2
  clear g hm hm2
  have hgd := input_guard
  go_enter Try.func9, Try.ntmps9
  go_wp2_with fail
  refine (draw_iof a len cap zs w h).mono ?_
  rintro e w1 ⟨n, ⟨n0, n1⟩, rfl, B⟩
  have H := Lib.hid B
  clear B h
  have hev := fun W => eq_input (beq_input (ofS n) (ofP n) (ofZ n)) W
  have hnv := fun W => neq_input (beq_input (ofS n) (ofP n) (ofZ n)) W
  have V := fun W => implIOf n W
  have S := fun W => specIOf n W
  have k0 : 0 ≤ (len2 : Int) % 10 := by omega
  have k9 : (len2 : Int) % 10 < 10 := by omega
  have T := fun W => implIOf ((len2 : Int) % 10) W
  have hk : inB ((len2 : Int) % 10) 0 9 = true := inB_yes ⟨k0, by omega⟩
  rw [hk] at T
  cases hv : inB n 0 9
  · have hn : ¬ (0 ≤ n ∧ n ≤ 9) := by simpa [inB] using hv
    by_cases q0 : n < 0
    · rw [hv] at V S
      replace V := Lib.hid V
      replace S := Lib.hid S
      replace T := Lib.hid T
      have q1 : decide (0 ≤ n) = false := decide_eq_false (by omega)
      clear hv hn hk
      generalize ofS n = gs at *
      generalize ofP n = gp at *
      generalize ofZ n = gz at *
      go_wp2_with fail
      refine (V.out _).mono ?_
      rintro e w2 ⟨rfl, B⟩
      replace H := Lib.hid (bl_trans H.out B)
      clear B
      have X : CellsAt (w2.alloc (.cells #[.int .i64 gs, .int .i64 gp, .bool gz] 24)) w2.heap.size (ins gs gp gz) := CellsAt.new _ _ _ _ rfl
      replace H := Lib.hid (bl_alloc H.out (.cells #[.int .i64 gs, .int .i64 gp, .bool gz] 24))
      go_wp2_with fail
      refine (S.out _).mono ?_
      rintro e w3 ⟨rfl, B⟩
      replace X := X.step B
      replace H := Lib.hid (bl_trans H.out B)
      clear B
      have Y : CellsAt (w3.alloc (.cells #[.int .i64 gs, .int .i64 gp, .bool gz] 24)) w3.heap.size (ins gs gp gz) := CellsAt.new _ _ _ _ rfl
      replace X := X.alloc (.cells #[.int .i64 gs, .int .i64 gp, .bool gz] 24)
      replace H := Lib.hid (bl_alloc H.out (.cells #[.int .i64 gs, .int .i64 gp, .bool gz] 24))
      have Xc0 := X.cell 0 _ rfl
      have Xc1 := X.cell 1 _ rfl
      have Xc2 := X.cell 2 _ rfl
      have Xl := X.lt
      have Yc0 := Y.cell 0 _ rfl
      have Yc1 := Y.cell 1 _ rfl
      have Yc2 := Y.cell 2 _ rfl
      have Yl := Y.lt
      go_wp2_with fail
      clear Xc0 Xc1 Xc2 Xl Yc0 Yc1 Yc2 Yl
      refine (T.out _).mono ?_
      rintro e w4 ⟨rfl, B⟩
      replace X := X.step B
      replace Y := Y.step B
      replace H := Lib.hid (bl_trans H.out B)
      clear B
      have Xc0 := X.cell 0 _ rfl
      have Xc1 := X.cell 1 _ rfl
      have Xc2 := X.cell 2 _ rfl
      have Xl := X.lt
      have Yc0 := Y.cell 0 _ rfl
      have Yc1 := Y.cell 1 _ rfl
      have Yc2 := Y.cell 2 _ rfl
      have Yl := Y.lt
      go_wp2
      go_ret
      exact ⟨rfl, bl_alloc H.out _⟩
    · rw [hv] at V S
      replace V := Lib.hid V
      replace S := Lib.hid S
      replace T := Lib.hid T
      have q1 : 0 ≤ n := by omega
      have q2 : decide (n ≤ 9) = false := decide_eq_false (by omega)
      clear hv hn hk q0
      generalize ofS n = gs at *
      generalize ofP n = gp at *
      generalize ofZ n = gz at *
      go_wp2_with fail
      refine (V.out _).mono ?_
      rintro e w2 ⟨rfl, B⟩
      replace H := Lib.hid (bl_trans H.out B)
      clear B
      have X : CellsAt (w2.alloc (.cells #[.int .i64 gs, .int .i64 gp, .bool gz] 24)) w2.heap.size (ins gs gp gz) := CellsAt.new _ _ _ _ rfl
      replace H := Lib.hid (bl_alloc H.out (.cells #[.int .i64 gs, .int .i64 gp, .bool gz] 24))
      go_wp2_with fail
      refine (S.out _).mono ?_
      rintro e w3 ⟨rfl, B⟩
      replace X := X.step B
      replace H := Lib.hid (bl_trans H.out B)
      clear B
      have Y : CellsAt (w3.alloc (.cells #[.int .i64 gs, .int .i64 gp, .bool gz] 24)) w3.heap.size (ins gs gp gz) := CellsAt.new _ _ _ _ rfl
      replace X := X.alloc (.cells #[.int .i64 gs, .int .i64 gp, .bool gz] 24)
      replace H := Lib.hid (bl_alloc H.out (.cells #[.int .i64 gs, .int .i64 gp, .bool gz] 24))
      have Xc0 := X.cell 0 _ rfl
      have Xc1 := X.cell 1 _ rfl
      have Xc2 := X.cell 2 _ rfl
      have Xl := X.lt
      have Yc0 := Y.cell 0 _ rfl
      have Yc1 := Y.cell 1 _ rfl
      have Yc2 := Y.cell 2 _ rfl
      have Yl := Y.lt
      go_wp2_with fail
      clear Xc0 Xc1 Xc2 Xl Yc0 Yc1 Yc2 Yl
      refine (T.out _).mono ?_
      rintro e w4 ⟨rfl, B⟩
      replace X := X.step B
      replace Y := Y.step B
      replace H := Lib.hid (bl_trans H.out B)
      clear B
      have Xc0 := X.cell 0 _ rfl
      have Xc1 := X.cell 1 _ rfl
      have Xc2 := X.cell 2 _ rfl
      have Xl := X.lt
      have Yc0 := Y.cell 0 _ rfl
      have Yc1 := Y.cell 1 _ rfl
      have Yc2 := Y.cell 2 _ rfl
      have Yl := Y.lt
      go_wp2
      go_ret
      exact ⟨rfl, bl_alloc H.out _⟩
  have hn : 0 ≤ n ∧ n ≤ 9 := by simpa [inB] using hv
  obtain ⟨q0, q9⟩ := hn
  by_cases e : (len2 : Int) % 10 = n
  · rw [hv] at V S
    replace V := Lib.hid V
    replace S := Lib.hid S
    replace T := Lib.hid T
    have e1 : ((len2 : Int) % 10 == n) = true := beq_iff_eq.2 e
    clear hv hk e
    generalize ofS n = gs at *
    generalize ofP n = gp at *
    generalize ofZ n = gz at *
    go_wp2_with fail
    refine (V.out _).mono ?_
    rintro e w2 ⟨rfl, B⟩
    replace H := Lib.hid (bl_trans H.out B)
    clear B
    have X : CellsAt (w2.alloc (.cells #[.int .i64 gs, .int .i64 gp, .bool gz] 24)) w2.heap.size (ins gs gp gz) := CellsAt.new _ _ _ _ rfl
    replace H := Lib.hid (bl_alloc H.out (.cells #[.int .i64 gs, .int .i64 gp, .bool gz] 24))
    go_wp2_with fail
    refine (S.out _).mono ?_
    rintro e w3 ⟨rfl, B⟩
    replace X := X.step B
    replace H := Lib.hid (bl_trans H.out B)
    clear B
    have Y : CellsAt (w3.alloc (.cells #[.int .i64 gs, .int .i64 gp, .bool gz] 24)) w3.heap.size (ins gs gp gz) := CellsAt.new _ _ _ _ rfl
    replace X := X.alloc (.cells #[.int .i64 gs, .int .i64 gp, .bool gz] 24)
    replace H := Lib.hid (bl_alloc H.out (.cells #[.int .i64 gs, .int .i64 gp, .bool gz] 24))
    have Xc0 := X.cell 0 _ rfl
    have Xc1 := X.cell 1 _ rfl
    have Xc2 := X.cell 2 _ rfl
    have Xl := X.lt
    have Yc0 := Y.cell 0 _ rfl
    have Yc1 := Y.cell 1 _ rfl
    have Yc2 := Y.cell 2 _ rfl
    have Yl := Y.lt
    go_wp2_with fail
    clear Xc0 Xc1 Xc2 Xl Yc0 Yc1 Yc2 Yl
    refine (T.out _).mono ?_
    rintro e w4 ⟨rfl, B⟩
    replace X := X.step B
    replace Y := Y.step B
    replace H := Lib.hid (bl_trans H.out B)
    clear B
    have Xc0 := X.cell 0 _ rfl
    have Xc1 := X.cell 1 _ rfl
    have Xc2 := X.cell 2 _ rfl
    have Xl := X.lt
    have Yc0 := Y.cell 0 _ rfl
    have Yc1 := Y.cell 1 _ rfl
    have Yc2 := Y.cell 2 _ rfl
    have Yl := Y.lt
    go_wp2
    go_ret
    exact ⟨rfl, bl_alloc H.out _⟩
  have hnx := fun W => neq_input (of_other hv hk e) W
  rw [hv] at V S
  replace V := Lib.hid V
  replace S := Lib.hid S
  replace T := Lib.hid T
  have e1 : ((len2 : Int) % 10 == n) = false := beq_eq_false_iff_ne.2 e
  clear hv hk e
  generalize ofS n = gs at *
  generalize ofP n = gp at *
  generalize ofZ n = gz at *
  go_wp2_with fail
  refine (V.out _).mono ?_
  rintro e w2 ⟨rfl, B⟩
  replace H := Lib.hid (bl_trans H.out B)
  clear B
  have X : CellsAt (w2.alloc (.cells #[.int .i64 gs, .int .i64 gp, .bool gz] 24)) w2.heap.size (ins gs gp gz) := CellsAt.new _ _ _ _ rfl
  replace H := Lib.hid (bl_alloc H.out (.cells #[.int .i64 gs, .int .i64 gp, .bool gz] 24))
  go_wp2_with fail
  refine (S.out _).mono ?_
  rintro e w3 ⟨rfl, B⟩
  replace X := X.step B
  replace H := Lib.hid (bl_trans H.out B)
  clear B
  have Y : CellsAt (w3.alloc (.cells #[.int .i64 gs, .int .i64 gp, .bool gz] 24)) w3.heap.size (ins gs gp gz) := CellsAt.new _ _ _ _ rfl
  replace X := X.alloc (.cells #[.int .i64 gs, .int .i64 gp, .bool gz] 24)
  replace H := Lib.hid (bl_alloc H.out (.cells #[.int .i64 gs, .int .i64 gp, .bool gz] 24))
  have Xc0 := X.cell 0 _ rfl
  have Xc1 := X.cell 1 _ rfl
  have Xc2 := X.cell 2 _ rfl
  have Xl := X.lt
  have Yc0 := Y.cell 0 _ rfl
  have Yc1 := Y.cell 1 _ rfl
  have Yc2 := Y.cell 2 _ rfl
  have Yl := Y.lt
  go_wp2_with fail
  clear Xc0 Xc1 Xc2 Xl Yc0 Yc1 Yc2 Yl
  refine (T.out _).mono ?_
  rintro e w4 ⟨rfl, B⟩
  replace X := X.step B
  replace Y := Y.step B
  replace H := Lib.hid (bl_trans H.out B)
  clear B
  have Xc0 := X.cell 0 _ rfl
  have Xc1 := X.cell 1 _ rfl
  have Xc2 := X.cell 2 _ rfl
  have Xl := X.lt
  have Yc0 := Y.cell 0 _ rfl
  have Yc1 := Y.cell 1 _ rfl
  have Yc2 := Y.cell 2 _ rfl
  have Yl := Y.lt
  go_wp2
  go_ret
  exact ⟨rfl, bl_alloc H.out _⟩

end Go.Proofs.Ytagbeneapmpooaa
