/-
  The walks of the laws of chapter 12 on single inputs.
-/
import Derived.Test.YtagbeneapmpooaaInImpl
import Derived.Test.YtagbeneapmpooaaDrawIn
import Derived.Test.YtagbeneapmpooaaInEq
namespace Go.Proofs.Ytagbeneapmpooaa
open Go.RowKit
open M

set_option maxRecDepth 100000 in
set_option maxHeartbeats 4000000 in
theorem walk_FnPause (a : Option Addr) (len cap : Nat) (zs : List Int) (w : World) (h : IsRow .u8 w a len cap zs) :
    Calls Try.prog 5 #[.slice a len cap] w fun e w' => e = .returned (.bool true) ∧ Below w.heap.size w w' := by
  have hm := h.bytes.1
  have hm2 := h.bytes.2.1
  unfold maxLen at hm2
  by_cases g : 1048576 < len
  · have g1 : (1048576 : Int) < (len : Int) := by omega
    go_enter Try.func5, Try.ntmps5
    go_wp2
    go_ret
    exact ⟨rfl, Below.refl _ _⟩
  have g1 : (len : Int) ≤ 1048576 := by omega
  clear g hm hm2
  go_enter Try.func5, Try.ntmps5
  go_wp2_with fail
  refine (draw_ivalid a len cap zs w h).mono ?_
  rintro e w1 ⟨s, p, z, hb, rfl, B⟩
  have X : CellsAt (w1.alloc (.cells #[.int .i64 s, .int .i64 p, .bool z] 24)) w1.heap.size (ins s p z) := CellsAt.new _ _ _ _ rfl
  have H := Lib.hid (bl_alloc B (.cells #[.int .i64 s, .int .i64 p, .bool z] 24))
  clear B h
  have V := fun W => implIValid s p z W
  have S := fun W => specIValid s p z W
  have U := fun W => implIValid s p true W
  cases hv : inV s p z
  · rw [hv] at V S
    replace V := Lib.hid V
    replace S := Lib.hid S
    clear U
    have Xc0 := X.cell 0 _ rfl
    have Xc1 := X.cell 1 _ rfl
    have Xc2 := X.cell 2 _ rfl
    have Xl := X.lt
    go_wp2_with fail
    refine (V.out _).mono ?_
    rintro e w2 ⟨rfl, B⟩
    replace X := X.step B
    replace H := Lib.hid (bl_trans H.out B)
    clear B
    clear Xc0 Xc1 Xc2 Xl
    have Xc0 := X.cell 0 _ rfl
    have Xc1 := X.cell 1 _ rfl
    have Xc2 := X.cell 2 _ rfl
    have Xl := X.lt
    go_wp2_with fail
    refine (S.out _).mono ?_
    rintro e w3 ⟨rfl, B⟩
    replace X := X.step B
    replace H := Lib.hid (bl_trans H.out B)
    clear B
    clear Xc0 Xc1 Xc2 Xl
    go_wp2
    go_ret
    exact ⟨rfl, H.out⟩
  rw [hv] at V S
  replace V := Lib.hid V
  replace S := Lib.hid S
  rcases nine hv with ⟨rfl, rfl, rfl⟩ | ⟨rfl, hs, hp⟩
  · rw [show inV 0 0 true = true by decide] at U
    replace U := Lib.hid U
    clear hv
    have Xc0 := X.cell 0 _ rfl
    have Xc1 := X.cell 1 _ rfl
    have Xc2 := X.cell 2 _ rfl
    have Xl := X.lt
    go_wp2_with fail
    refine (V.out _).mono ?_
    rintro e w2 ⟨rfl, B⟩
    replace X := X.step B
    replace H := Lib.hid (bl_trans H.out B)
    clear B
    clear Xc0 Xc1 Xc2 Xl
    have Xc0 := X.cell 0 _ rfl
    have Xc1 := X.cell 1 _ rfl
    have Xc2 := X.cell 2 _ rfl
    have Xl := X.lt
    go_wp2_with fail
    refine (S.out _).mono ?_
    rintro e w3 ⟨rfl, B⟩
    replace X := X.step B
    replace H := Lib.hid (bl_trans H.out B)
    clear B
    clear Xc0 Xc1 Xc2 Xl
    have Xc0 := X.cell 0 _ rfl
    have Xc1 := X.cell 1 _ rfl
    have Xc2 := X.cell 2 _ rfl
    have Xl := X.lt
    go_wp2_with fail
    clear Xc0 Xc1 Xc2 Xl
    have Y : CellsAt (w3.alloc (.cells #[.int .i64 0, .int .i64 0, .bool true] 24)) w3.heap.size (ins 0 0 true) := CellsAt.new _ _ _ _ rfl
    replace X := X.alloc (.cells #[.int .i64 0, .int .i64 0, .bool true] 24)
    replace H := Lib.hid (bl_alloc H.out (.cells #[.int .i64 0, .int .i64 0, .bool true] 24))
    refine wp_region_held_drew (S := fun w' => CellsAt w' w1.heap.size (ins 0 0 true) ∧ CellsAt w' w3.heap.size (ins 0 0 true)) (by kernel_rfl) ⟨(by repeat (first | with_reducible exact X | with_reducible refine CellsAt.alloc ?_ _ | with_reducible refine CellsAt.drew ?_)), (by repeat (first | with_reducible exact Y | with_reducible refine CellsAt.alloc ?_ _ | with_reducible refine CellsAt.drew ?_))⟩ (fun hHeld => ?_)
    refine wpAnyH_take (i := 0) (oi := _) (v := ?_) rfl (by kernel_rfl) (by kernel_rfl) (by kernel_rfl) (fun _ _ _ h => h) (Or.inl ⟨by rfl, ?_⟩) hHeld ?_
    rotate_left
    · intro w hSw
      have c0 := hSw.2.cell 0 _ rfl
      have c1 := hSw.2.cell 1 _ rfl
      have c2 := hSw.2.cell 2 _ rfl
      go_simp
      all_goals with_reducible rfl
    try simp only [Act.put, List.getElem_toArray, List.getElem_cons_zero, List.setIfInBounds_toArray, List.set_cons_zero, List.set_cons_succ]
    refine wpAnyH_take (i := 2) (oi := _) (v := ?_) rfl (by kernel_rfl) (by kernel_rfl) (by kernel_rfl) (fun _ _ _ h => h) (Or.inl ⟨by rfl, ?_⟩) hHeld ?_
    rotate_left
    · intro w hSw
      try dsimp only at hSw
      go_simp
      all_goals with_reducible rfl
    try simp only [Act.put, List.getElem_toArray, List.getElem_cons_succ, List.getElem_cons_zero, List.setIfInBounds_toArray, List.set_cons_zero, List.set_cons_succ]
    refine wpAnyH_take (i := 3) (oi := _) (v := ?_) rfl (by kernel_rfl) (by kernel_rfl) (by kernel_rfl) (fun _ _ _ h => h) (Or.inl ⟨by rfl, ?_⟩) hHeld ?_
    rotate_left
    · intro w hSw
      have c0 := hSw.1.cell 0 _ rfl
      go_simp
      all_goals with_reducible rfl
    try simp only [Act.put, List.getElem_toArray, List.getElem_cons_succ, List.getElem_cons_zero, List.setIfInBounds_toArray, List.set_cons_zero, List.set_cons_succ]
    refine wpAnyH_take (i := 4) (oi := _) (v := ?_) rfl (by kernel_rfl) (by kernel_rfl) (by kernel_rfl) (fun _ _ _ h => h) (Or.inl ⟨by rfl, ?_⟩) hHeld ?_
    rotate_left
    · intro w hSw
      try dsimp only at hSw
      go_simp
      all_goals with_reducible rfl
    try simp only [Act.put, List.getElem_toArray, List.getElem_cons_succ, List.getElem_cons_zero, List.setIfInBounds_toArray, List.set_cons_zero, List.set_cons_succ]
    refine wpAnyH_ready (rs := [1]) (by kernel_rfl) (by simp) ?_
    apply AllReadyH.cons rfl ?_ AllReadyH.nil
    intro K hK
    go_simp
    go_at_call 19
    refine (U.out _).mono ?_
    rintro e w4 ⟨rfl, B⟩
    replace X := CellsAt.step (by first | with_reducible exact X.drew | with_reducible exact X) B
    replace Y := CellsAt.step (by first | with_reducible exact Y.drew | with_reducible exact Y) B
    replace H := Lib.hid (bl_trans (by first | with_reducible exact bl_drew1 H.out | with_reducible exact H.out) B)
    clear B
    clear hHeld
    go_wp2_with fail
    refine hK.out _ _ ⟨(by repeat (first | with_reducible exact X | with_reducible refine CellsAt.alloc ?_ _ | with_reducible refine CellsAt.drew ?_)), (by repeat (first | with_reducible exact Y | with_reducible refine CellsAt.alloc ?_ _ | with_reducible refine CellsAt.drew ?_))⟩ (fun hHeld => ?_)
    clear hK K
    try simp only [Act.put, List.getElem_toArray, List.getElem_cons_succ, List.getElem_cons_zero, List.setIfInBounds_toArray, List.set_cons_zero, List.set_cons_succ]
    refine wpAnyH_take (i := 5) (oi := _) (v := ?_) rfl (by kernel_rfl) (by kernel_rfl) (by kernel_rfl) (fun _ _ _ h => h) (Or.inl ⟨by rfl, ?_⟩) hHeld ?_
    rotate_left
    · intro w hSw
      try dsimp only at hSw
      go_simp
      all_goals with_reducible rfl
    try simp only [Act.put, List.getElem_toArray, List.getElem_cons_succ, List.getElem_cons_zero, List.setIfInBounds_toArray, List.set_cons_zero, List.set_cons_succ]
    refine wpAnyH_take (i := 6) (oi := _) (v := ?_) rfl (by kernel_rfl) (by kernel_rfl) (by kernel_rfl) (fun _ _ _ h => h) (Or.inl ⟨by rfl, ?_⟩) hHeld ?_
    rotate_left
    · intro w hSw
      try dsimp only at hSw
      go_simp
      all_goals with_reducible rfl
    try simp only [Act.put, List.getElem_toArray, List.getElem_cons_succ, List.getElem_cons_zero, List.setIfInBounds_toArray, List.set_cons_zero, List.set_cons_succ]
    refine wpAnyH_take (i := 7) (oi := _) (v := ?_) rfl (by kernel_rfl) (by kernel_rfl) (by kernel_rfl) (fun _ _ _ h => h) (Or.inl ⟨by rfl, ?_⟩) hHeld ?_
    rotate_left
    · intro w hSw
      have c1 := hSw.1.cell 1 _ rfl
      go_simp
      all_goals with_reducible rfl
    try simp only [Act.put, List.getElem_toArray, List.getElem_cons_succ, List.getElem_cons_zero, List.setIfInBounds_toArray, List.set_cons_zero, List.set_cons_succ]
    refine wpAnyH_take (i := 8) (oi := _) (v := ?_) rfl (by kernel_rfl) (by kernel_rfl) (by kernel_rfl) (fun _ _ _ h => h) (Or.inl ⟨by rfl, ?_⟩) hHeld ?_
    rotate_left
    · intro w hSw
      try dsimp only at hSw
      go_simp
      all_goals with_reducible rfl
    try simp only [Act.put, List.getElem_toArray, List.getElem_cons_succ, List.getElem_cons_zero, List.setIfInBounds_toArray, List.set_cons_zero, List.set_cons_succ]
    refine wpAnyH_take (i := 9) (oi := _) (v := ?_) rfl (by kernel_rfl) (by kernel_rfl) (by kernel_rfl) (fun _ _ _ h => h) (Or.inl ⟨by rfl, ?_⟩) hHeld ?_
    rotate_left
    · intro w hSw
      try dsimp only at hSw
      go_simp
      all_goals with_reducible rfl
    try simp only [Act.put, List.getElem_toArray, List.getElem_cons_succ, List.getElem_cons_zero, List.setIfInBounds_toArray, List.set_cons_zero, List.set_cons_succ]
    refine wpAnyH_take (i := 10) (oi := _) (v := ?_) rfl (by kernel_rfl) (by kernel_rfl) (by kernel_rfl) (fun _ _ _ h => h) (Or.inl ⟨by rfl, ?_⟩) hHeld ?_
    rotate_left
    · intro w hSw
      try dsimp only at hSw
      go_simp
      all_goals with_reducible rfl
    try simp only [Act.put, List.getElem_toArray, List.getElem_cons_succ, List.getElem_cons_zero, List.setIfInBounds_toArray, List.set_cons_zero, List.set_cons_succ]
    refine wpAnyH_ready (rs := [11]) (by kernel_rfl) (by simp) ?_
    apply AllReadyH.cons rfl ?_ AllReadyH.nil
    intro K hK
    go_simp
    refine hK.out _ _ ⟨(by repeat (first | with_reducible exact X | with_reducible refine CellsAt.alloc ?_ _ | with_reducible refine CellsAt.drew ?_)), (by repeat (first | with_reducible exact Y | with_reducible refine CellsAt.alloc ?_ _ | with_reducible refine CellsAt.drew ?_))⟩ (fun hHeld => ?_)
    clear hK K
    try simp only [Act.put, List.getElem_toArray, List.getElem_cons_succ, List.getElem_cons_zero, List.setIfInBounds_toArray, List.set_cons_zero, List.set_cons_succ]
    refine wpAnyH_done (by kernel_rfl) ?_ _
    go_wp2
    go_ret
    exact ⟨rfl, H.out⟩
  rcases hs with rfl | rfl | rfl <;> rcases hp with rfl | rfl | rfl
  · rw [show inV (-1) 0 true = false by decide] at U
    replace U := Lib.hid U
    clear hv
    have Xc0 := X.cell 0 _ rfl
    have Xc1 := X.cell 1 _ rfl
    have Xc2 := X.cell 2 _ rfl
    have Xl := X.lt
    go_wp2_with fail
    refine (V.out _).mono ?_
    rintro e w2 ⟨rfl, B⟩
    replace X := X.step B
    replace H := Lib.hid (bl_trans H.out B)
    clear B
    clear Xc0 Xc1 Xc2 Xl
    have Xc0 := X.cell 0 _ rfl
    have Xc1 := X.cell 1 _ rfl
    have Xc2 := X.cell 2 _ rfl
    have Xl := X.lt
    go_wp2_with fail
    refine (S.out _).mono ?_
    rintro e w3 ⟨rfl, B⟩
    replace X := X.step B
    replace H := Lib.hid (bl_trans H.out B)
    clear B
    clear Xc0 Xc1 Xc2 Xl
    have Xc0 := X.cell 0 _ rfl
    have Xc1 := X.cell 1 _ rfl
    have Xc2 := X.cell 2 _ rfl
    have Xl := X.lt
    go_wp2_with fail
    clear Xc0 Xc1 Xc2 Xl
    have Y : CellsAt (w3.alloc (.cells #[.int .i64 (-1), .int .i64 0, .bool true] 24)) w3.heap.size (ins (-1) 0 true) := CellsAt.new _ _ _ _ rfl
    replace X := X.alloc (.cells #[.int .i64 (-1), .int .i64 0, .bool true] 24)
    replace H := Lib.hid (bl_alloc H.out (.cells #[.int .i64 (-1), .int .i64 0, .bool true] 24))
    refine wp_region_held_drew (S := fun w' => CellsAt w' w1.heap.size (ins (-1) 0 false) ∧ CellsAt w' w3.heap.size (ins (-1) 0 true)) (by kernel_rfl) ⟨(by repeat (first | with_reducible exact X | with_reducible refine CellsAt.alloc ?_ _ | with_reducible refine CellsAt.drew ?_)), (by repeat (first | with_reducible exact Y | with_reducible refine CellsAt.alloc ?_ _ | with_reducible refine CellsAt.drew ?_))⟩ (fun hHeld => ?_)
    refine wpAnyH_take (i := 0) (oi := _) (v := ?_) rfl (by kernel_rfl) (by kernel_rfl) (by kernel_rfl) (fun _ _ _ h => h) (Or.inl ⟨by rfl, ?_⟩) hHeld ?_
    rotate_left
    · intro w hSw
      have c0 := hSw.2.cell 0 _ rfl
      have c1 := hSw.2.cell 1 _ rfl
      have c2 := hSw.2.cell 2 _ rfl
      go_simp
      all_goals with_reducible rfl
    try simp only [Act.put, List.getElem_toArray, List.getElem_cons_zero, List.setIfInBounds_toArray, List.set_cons_zero, List.set_cons_succ]
    refine wpAnyH_take (i := 2) (oi := _) (v := ?_) rfl (by kernel_rfl) (by kernel_rfl) (by kernel_rfl) (fun _ _ _ h => h) (Or.inl ⟨by rfl, ?_⟩) hHeld ?_
    rotate_left
    · intro w hSw
      try dsimp only at hSw
      go_simp
      all_goals with_reducible rfl
    try simp only [Act.put, List.getElem_toArray, List.getElem_cons_succ, List.getElem_cons_zero, List.setIfInBounds_toArray, List.set_cons_zero, List.set_cons_succ]
    refine wpAnyH_take (i := 3) (oi := _) (v := ?_) rfl (by kernel_rfl) (by kernel_rfl) (by kernel_rfl) (fun _ _ _ h => h) (Or.inl ⟨by rfl, ?_⟩) hHeld ?_
    rotate_left
    · intro w hSw
      have c0 := hSw.1.cell 0 _ rfl
      go_simp
      all_goals with_reducible rfl
    try simp only [Act.put, List.getElem_toArray, List.getElem_cons_succ, List.getElem_cons_zero, List.setIfInBounds_toArray, List.set_cons_zero, List.set_cons_succ]
    refine wpAnyH_take (i := 4) (oi := _) (v := ?_) rfl (by kernel_rfl) (by kernel_rfl) (by kernel_rfl) (fun _ _ _ h => h) (Or.inl ⟨by rfl, ?_⟩) hHeld ?_
    rotate_left
    · intro w hSw
      try dsimp only at hSw
      go_simp
      all_goals with_reducible rfl
    try simp only [Act.put, List.getElem_toArray, List.getElem_cons_succ, List.getElem_cons_zero, List.setIfInBounds_toArray, List.set_cons_zero, List.set_cons_succ]
    refine wpAnyH_ready (rs := [1]) (by kernel_rfl) (by simp) ?_
    apply AllReadyH.cons rfl ?_ AllReadyH.nil
    intro K hK
    go_simp
    go_at_call 19
    refine (U.out _).mono ?_
    rintro e w4 ⟨rfl, B⟩
    replace X := CellsAt.step (by first | with_reducible exact X.drew | with_reducible exact X) B
    replace Y := CellsAt.step (by first | with_reducible exact Y.drew | with_reducible exact Y) B
    replace H := Lib.hid (bl_trans (by first | with_reducible exact bl_drew1 H.out | with_reducible exact H.out) B)
    clear B
    clear hHeld
    go_wp2_with fail
    refine hK.out _ _ ⟨(by repeat (first | with_reducible exact X | with_reducible refine CellsAt.alloc ?_ _ | with_reducible refine CellsAt.drew ?_)), (by repeat (first | with_reducible exact Y | with_reducible refine CellsAt.alloc ?_ _ | with_reducible refine CellsAt.drew ?_))⟩ (fun hHeld => ?_)
    clear hK K
    try simp only [Act.put, List.getElem_toArray, List.getElem_cons_succ, List.getElem_cons_zero, List.setIfInBounds_toArray, List.set_cons_zero, List.set_cons_succ]
    refine wpAnyH_take (i := 5) (oi := _) (v := ?_) rfl (by kernel_rfl) (by kernel_rfl) (by kernel_rfl) (fun _ _ _ h => h) (Or.inl ⟨by rfl, ?_⟩) hHeld ?_
    rotate_left
    · intro w hSw
      try dsimp only at hSw
      go_simp
      all_goals with_reducible rfl
    try simp only [Act.put, List.getElem_toArray, List.getElem_cons_succ, List.getElem_cons_zero, List.setIfInBounds_toArray, List.set_cons_zero, List.set_cons_succ]
    refine wpAnyH_take (i := 6) (oi := _) (v := undef) rfl (by kernel_rfl) (by kernel_rfl) (by kernel_rfl) (fun _ _ _ h => h) (Or.inr ⟨by rfl, rfl⟩) hHeld ?_
    try simp only [Act.put, List.getElem_toArray, List.getElem_cons_succ, List.getElem_cons_zero, List.setIfInBounds_toArray, List.set_cons_zero, List.set_cons_succ]
    refine wpAnyH_take (i := 7) (oi := _) (v := undef) rfl (by kernel_rfl) (by kernel_rfl) (by kernel_rfl) (fun _ _ _ h => h) (Or.inr ⟨by rfl, rfl⟩) hHeld ?_
    try simp only [Act.put, List.getElem_toArray, List.getElem_cons_succ, List.getElem_cons_zero, List.setIfInBounds_toArray, List.set_cons_zero, List.set_cons_succ]
    refine wpAnyH_take (i := 8) (oi := _) (v := undef) rfl (by kernel_rfl) (by kernel_rfl) (by kernel_rfl) (fun _ _ _ h => h) (Or.inr ⟨by rfl, rfl⟩) hHeld ?_
    try simp only [Act.put, List.getElem_toArray, List.getElem_cons_succ, List.getElem_cons_zero, List.setIfInBounds_toArray, List.set_cons_zero, List.set_cons_succ]
    refine wpAnyH_take (i := 9) (oi := _) (v := ?_) rfl (by kernel_rfl) (by kernel_rfl) (by kernel_rfl) (fun _ _ _ h => h) (Or.inl ⟨by rfl, ?_⟩) hHeld ?_
    rotate_left
    · intro w hSw
      try dsimp only at hSw
      go_simp
      all_goals with_reducible rfl
    try simp only [Act.put, List.getElem_toArray, List.getElem_cons_succ, List.getElem_cons_zero, List.setIfInBounds_toArray, List.set_cons_zero, List.set_cons_succ]
    refine wpAnyH_take (i := 10) (oi := _) (v := ?_) rfl (by kernel_rfl) (by kernel_rfl) (by kernel_rfl) (fun _ _ _ h => h) (Or.inl ⟨by rfl, ?_⟩) hHeld ?_
    rotate_left
    · intro w hSw
      try dsimp only at hSw
      go_simp
      all_goals with_reducible rfl
    try simp only [Act.put, List.getElem_toArray, List.getElem_cons_succ, List.getElem_cons_zero, List.setIfInBounds_toArray, List.set_cons_zero, List.set_cons_succ]
    refine wpAnyH_ready (rs := [11]) (by kernel_rfl) (by simp) ?_
    apply AllReadyH.cons rfl ?_ AllReadyH.nil
    intro K hK
    go_simp
    refine hK.out _ _ ⟨(by repeat (first | with_reducible exact X | with_reducible refine CellsAt.alloc ?_ _ | with_reducible refine CellsAt.drew ?_)), (by repeat (first | with_reducible exact Y | with_reducible refine CellsAt.alloc ?_ _ | with_reducible refine CellsAt.drew ?_))⟩ (fun hHeld => ?_)
    clear hK K
    try simp only [Act.put, List.getElem_toArray, List.getElem_cons_succ, List.getElem_cons_zero, List.setIfInBounds_toArray, List.set_cons_zero, List.set_cons_succ]
    refine wpAnyH_done (by kernel_rfl) ?_ _
    go_wp2
    go_ret
    exact ⟨rfl, H.out⟩
  · rw [show inV (-1) 1 true = false by decide] at U
    replace U := Lib.hid U
    clear hv
    have Xc0 := X.cell 0 _ rfl
    have Xc1 := X.cell 1 _ rfl
    have Xc2 := X.cell 2 _ rfl
    have Xl := X.lt
    go_wp2_with fail
    refine (V.out _).mono ?_
    rintro e w2 ⟨rfl, B⟩
    replace X := X.step B
    replace H := Lib.hid (bl_trans H.out B)
    clear B
    clear Xc0 Xc1 Xc2 Xl
    have Xc0 := X.cell 0 _ rfl
    have Xc1 := X.cell 1 _ rfl
    have Xc2 := X.cell 2 _ rfl
    have Xl := X.lt
    go_wp2_with fail
    refine (S.out _).mono ?_
    rintro e w3 ⟨rfl, B⟩
    replace X := X.step B
    replace H := Lib.hid (bl_trans H.out B)
    clear B
    clear Xc0 Xc1 Xc2 Xl
    have Xc0 := X.cell 0 _ rfl
    have Xc1 := X.cell 1 _ rfl
    have Xc2 := X.cell 2 _ rfl
    have Xl := X.lt
    go_wp2_with fail
    clear Xc0 Xc1 Xc2 Xl
    have Y : CellsAt (w3.alloc (.cells #[.int .i64 (-1), .int .i64 1, .bool true] 24)) w3.heap.size (ins (-1) 1 true) := CellsAt.new _ _ _ _ rfl
    replace X := X.alloc (.cells #[.int .i64 (-1), .int .i64 1, .bool true] 24)
    replace H := Lib.hid (bl_alloc H.out (.cells #[.int .i64 (-1), .int .i64 1, .bool true] 24))
    refine wp_region_held_drew (S := fun w' => CellsAt w' w1.heap.size (ins (-1) 1 false) ∧ CellsAt w' w3.heap.size (ins (-1) 1 true)) (by kernel_rfl) ⟨(by repeat (first | with_reducible exact X | with_reducible refine CellsAt.alloc ?_ _ | with_reducible refine CellsAt.drew ?_)), (by repeat (first | with_reducible exact Y | with_reducible refine CellsAt.alloc ?_ _ | with_reducible refine CellsAt.drew ?_))⟩ (fun hHeld => ?_)
    refine wpAnyH_take (i := 0) (oi := _) (v := ?_) rfl (by kernel_rfl) (by kernel_rfl) (by kernel_rfl) (fun _ _ _ h => h) (Or.inl ⟨by rfl, ?_⟩) hHeld ?_
    rotate_left
    · intro w hSw
      have c0 := hSw.2.cell 0 _ rfl
      have c1 := hSw.2.cell 1 _ rfl
      have c2 := hSw.2.cell 2 _ rfl
      go_simp
      all_goals with_reducible rfl
    try simp only [Act.put, List.getElem_toArray, List.getElem_cons_zero, List.setIfInBounds_toArray, List.set_cons_zero, List.set_cons_succ]
    refine wpAnyH_take (i := 2) (oi := _) (v := ?_) rfl (by kernel_rfl) (by kernel_rfl) (by kernel_rfl) (fun _ _ _ h => h) (Or.inl ⟨by rfl, ?_⟩) hHeld ?_
    rotate_left
    · intro w hSw
      try dsimp only at hSw
      go_simp
      all_goals with_reducible rfl
    try simp only [Act.put, List.getElem_toArray, List.getElem_cons_succ, List.getElem_cons_zero, List.setIfInBounds_toArray, List.set_cons_zero, List.set_cons_succ]
    refine wpAnyH_take (i := 3) (oi := _) (v := ?_) rfl (by kernel_rfl) (by kernel_rfl) (by kernel_rfl) (fun _ _ _ h => h) (Or.inl ⟨by rfl, ?_⟩) hHeld ?_
    rotate_left
    · intro w hSw
      have c0 := hSw.1.cell 0 _ rfl
      go_simp
      all_goals with_reducible rfl
    try simp only [Act.put, List.getElem_toArray, List.getElem_cons_succ, List.getElem_cons_zero, List.setIfInBounds_toArray, List.set_cons_zero, List.set_cons_succ]
    refine wpAnyH_take (i := 4) (oi := _) (v := ?_) rfl (by kernel_rfl) (by kernel_rfl) (by kernel_rfl) (fun _ _ _ h => h) (Or.inl ⟨by rfl, ?_⟩) hHeld ?_
    rotate_left
    · intro w hSw
      try dsimp only at hSw
      go_simp
      all_goals with_reducible rfl
    try simp only [Act.put, List.getElem_toArray, List.getElem_cons_succ, List.getElem_cons_zero, List.setIfInBounds_toArray, List.set_cons_zero, List.set_cons_succ]
    refine wpAnyH_ready (rs := [1]) (by kernel_rfl) (by simp) ?_
    apply AllReadyH.cons rfl ?_ AllReadyH.nil
    intro K hK
    go_simp
    go_at_call 19
    refine (U.out _).mono ?_
    rintro e w4 ⟨rfl, B⟩
    replace X := CellsAt.step (by first | with_reducible exact X.drew | with_reducible exact X) B
    replace Y := CellsAt.step (by first | with_reducible exact Y.drew | with_reducible exact Y) B
    replace H := Lib.hid (bl_trans (by first | with_reducible exact bl_drew1 H.out | with_reducible exact H.out) B)
    clear B
    clear hHeld
    go_wp2_with fail
    refine hK.out _ _ ⟨(by repeat (first | with_reducible exact X | with_reducible refine CellsAt.alloc ?_ _ | with_reducible refine CellsAt.drew ?_)), (by repeat (first | with_reducible exact Y | with_reducible refine CellsAt.alloc ?_ _ | with_reducible refine CellsAt.drew ?_))⟩ (fun hHeld => ?_)
    clear hK K
    try simp only [Act.put, List.getElem_toArray, List.getElem_cons_succ, List.getElem_cons_zero, List.setIfInBounds_toArray, List.set_cons_zero, List.set_cons_succ]
    refine wpAnyH_take (i := 5) (oi := _) (v := ?_) rfl (by kernel_rfl) (by kernel_rfl) (by kernel_rfl) (fun _ _ _ h => h) (Or.inl ⟨by rfl, ?_⟩) hHeld ?_
    rotate_left
    · intro w hSw
      try dsimp only at hSw
      go_simp
      all_goals with_reducible rfl
    try simp only [Act.put, List.getElem_toArray, List.getElem_cons_succ, List.getElem_cons_zero, List.setIfInBounds_toArray, List.set_cons_zero, List.set_cons_succ]
    refine wpAnyH_take (i := 6) (oi := _) (v := undef) rfl (by kernel_rfl) (by kernel_rfl) (by kernel_rfl) (fun _ _ _ h => h) (Or.inr ⟨by rfl, rfl⟩) hHeld ?_
    try simp only [Act.put, List.getElem_toArray, List.getElem_cons_succ, List.getElem_cons_zero, List.setIfInBounds_toArray, List.set_cons_zero, List.set_cons_succ]
    refine wpAnyH_take (i := 7) (oi := _) (v := undef) rfl (by kernel_rfl) (by kernel_rfl) (by kernel_rfl) (fun _ _ _ h => h) (Or.inr ⟨by rfl, rfl⟩) hHeld ?_
    try simp only [Act.put, List.getElem_toArray, List.getElem_cons_succ, List.getElem_cons_zero, List.setIfInBounds_toArray, List.set_cons_zero, List.set_cons_succ]
    refine wpAnyH_take (i := 8) (oi := _) (v := undef) rfl (by kernel_rfl) (by kernel_rfl) (by kernel_rfl) (fun _ _ _ h => h) (Or.inr ⟨by rfl, rfl⟩) hHeld ?_
    try simp only [Act.put, List.getElem_toArray, List.getElem_cons_succ, List.getElem_cons_zero, List.setIfInBounds_toArray, List.set_cons_zero, List.set_cons_succ]
    refine wpAnyH_take (i := 9) (oi := _) (v := ?_) rfl (by kernel_rfl) (by kernel_rfl) (by kernel_rfl) (fun _ _ _ h => h) (Or.inl ⟨by rfl, ?_⟩) hHeld ?_
    rotate_left
    · intro w hSw
      try dsimp only at hSw
      go_simp
      all_goals with_reducible rfl
    try simp only [Act.put, List.getElem_toArray, List.getElem_cons_succ, List.getElem_cons_zero, List.setIfInBounds_toArray, List.set_cons_zero, List.set_cons_succ]
    refine wpAnyH_take (i := 10) (oi := _) (v := ?_) rfl (by kernel_rfl) (by kernel_rfl) (by kernel_rfl) (fun _ _ _ h => h) (Or.inl ⟨by rfl, ?_⟩) hHeld ?_
    rotate_left
    · intro w hSw
      try dsimp only at hSw
      go_simp
      all_goals with_reducible rfl
    try simp only [Act.put, List.getElem_toArray, List.getElem_cons_succ, List.getElem_cons_zero, List.setIfInBounds_toArray, List.set_cons_zero, List.set_cons_succ]
    refine wpAnyH_ready (rs := [11]) (by kernel_rfl) (by simp) ?_
    apply AllReadyH.cons rfl ?_ AllReadyH.nil
    intro K hK
    go_simp
    refine hK.out _ _ ⟨(by repeat (first | with_reducible exact X | with_reducible refine CellsAt.alloc ?_ _ | with_reducible refine CellsAt.drew ?_)), (by repeat (first | with_reducible exact Y | with_reducible refine CellsAt.alloc ?_ _ | with_reducible refine CellsAt.drew ?_))⟩ (fun hHeld => ?_)
    clear hK K
    try simp only [Act.put, List.getElem_toArray, List.getElem_cons_succ, List.getElem_cons_zero, List.setIfInBounds_toArray, List.set_cons_zero, List.set_cons_succ]
    refine wpAnyH_done (by kernel_rfl) ?_ _
    go_wp2
    go_ret
    exact ⟨rfl, H.out⟩
  · rw [show inV (-1) 2 true = false by decide] at U
    replace U := Lib.hid U
    clear hv
    have Xc0 := X.cell 0 _ rfl
    have Xc1 := X.cell 1 _ rfl
    have Xc2 := X.cell 2 _ rfl
    have Xl := X.lt
    go_wp2_with fail
    refine (V.out _).mono ?_
    rintro e w2 ⟨rfl, B⟩
    replace X := X.step B
    replace H := Lib.hid (bl_trans H.out B)
    clear B
    clear Xc0 Xc1 Xc2 Xl
    have Xc0 := X.cell 0 _ rfl
    have Xc1 := X.cell 1 _ rfl
    have Xc2 := X.cell 2 _ rfl
    have Xl := X.lt
    go_wp2_with fail
    refine (S.out _).mono ?_
    rintro e w3 ⟨rfl, B⟩
    replace X := X.step B
    replace H := Lib.hid (bl_trans H.out B)
    clear B
    clear Xc0 Xc1 Xc2 Xl
    have Xc0 := X.cell 0 _ rfl
    have Xc1 := X.cell 1 _ rfl
    have Xc2 := X.cell 2 _ rfl
    have Xl := X.lt
    go_wp2_with fail
    clear Xc0 Xc1 Xc2 Xl
    have Y : CellsAt (w3.alloc (.cells #[.int .i64 (-1), .int .i64 2, .bool true] 24)) w3.heap.size (ins (-1) 2 true) := CellsAt.new _ _ _ _ rfl
    replace X := X.alloc (.cells #[.int .i64 (-1), .int .i64 2, .bool true] 24)
    replace H := Lib.hid (bl_alloc H.out (.cells #[.int .i64 (-1), .int .i64 2, .bool true] 24))
    refine wp_region_held_drew (S := fun w' => CellsAt w' w1.heap.size (ins (-1) 2 false) ∧ CellsAt w' w3.heap.size (ins (-1) 2 true)) (by kernel_rfl) ⟨(by repeat (first | with_reducible exact X | with_reducible refine CellsAt.alloc ?_ _ | with_reducible refine CellsAt.drew ?_)), (by repeat (first | with_reducible exact Y | with_reducible refine CellsAt.alloc ?_ _ | with_reducible refine CellsAt.drew ?_))⟩ (fun hHeld => ?_)
    refine wpAnyH_take (i := 0) (oi := _) (v := ?_) rfl (by kernel_rfl) (by kernel_rfl) (by kernel_rfl) (fun _ _ _ h => h) (Or.inl ⟨by rfl, ?_⟩) hHeld ?_
    rotate_left
    · intro w hSw
      have c0 := hSw.2.cell 0 _ rfl
      have c1 := hSw.2.cell 1 _ rfl
      have c2 := hSw.2.cell 2 _ rfl
      go_simp
      all_goals with_reducible rfl
    try simp only [Act.put, List.getElem_toArray, List.getElem_cons_zero, List.setIfInBounds_toArray, List.set_cons_zero, List.set_cons_succ]
    refine wpAnyH_take (i := 2) (oi := _) (v := ?_) rfl (by kernel_rfl) (by kernel_rfl) (by kernel_rfl) (fun _ _ _ h => h) (Or.inl ⟨by rfl, ?_⟩) hHeld ?_
    rotate_left
    · intro w hSw
      try dsimp only at hSw
      go_simp
      all_goals with_reducible rfl
    try simp only [Act.put, List.getElem_toArray, List.getElem_cons_succ, List.getElem_cons_zero, List.setIfInBounds_toArray, List.set_cons_zero, List.set_cons_succ]
    refine wpAnyH_take (i := 3) (oi := _) (v := ?_) rfl (by kernel_rfl) (by kernel_rfl) (by kernel_rfl) (fun _ _ _ h => h) (Or.inl ⟨by rfl, ?_⟩) hHeld ?_
    rotate_left
    · intro w hSw
      have c0 := hSw.1.cell 0 _ rfl
      go_simp
      all_goals with_reducible rfl
    try simp only [Act.put, List.getElem_toArray, List.getElem_cons_succ, List.getElem_cons_zero, List.setIfInBounds_toArray, List.set_cons_zero, List.set_cons_succ]
    refine wpAnyH_take (i := 4) (oi := _) (v := ?_) rfl (by kernel_rfl) (by kernel_rfl) (by kernel_rfl) (fun _ _ _ h => h) (Or.inl ⟨by rfl, ?_⟩) hHeld ?_
    rotate_left
    · intro w hSw
      try dsimp only at hSw
      go_simp
      all_goals with_reducible rfl
    try simp only [Act.put, List.getElem_toArray, List.getElem_cons_succ, List.getElem_cons_zero, List.setIfInBounds_toArray, List.set_cons_zero, List.set_cons_succ]
    refine wpAnyH_ready (rs := [1]) (by kernel_rfl) (by simp) ?_
    apply AllReadyH.cons rfl ?_ AllReadyH.nil
    intro K hK
    go_simp
    go_at_call 19
    refine (U.out _).mono ?_
    rintro e w4 ⟨rfl, B⟩
    replace X := CellsAt.step (by first | with_reducible exact X.drew | with_reducible exact X) B
    replace Y := CellsAt.step (by first | with_reducible exact Y.drew | with_reducible exact Y) B
    replace H := Lib.hid (bl_trans (by first | with_reducible exact bl_drew1 H.out | with_reducible exact H.out) B)
    clear B
    clear hHeld
    go_wp2_with fail
    refine hK.out _ _ ⟨(by repeat (first | with_reducible exact X | with_reducible refine CellsAt.alloc ?_ _ | with_reducible refine CellsAt.drew ?_)), (by repeat (first | with_reducible exact Y | with_reducible refine CellsAt.alloc ?_ _ | with_reducible refine CellsAt.drew ?_))⟩ (fun hHeld => ?_)
    clear hK K
    try simp only [Act.put, List.getElem_toArray, List.getElem_cons_succ, List.getElem_cons_zero, List.setIfInBounds_toArray, List.set_cons_zero, List.set_cons_succ]
    refine wpAnyH_take (i := 5) (oi := _) (v := ?_) rfl (by kernel_rfl) (by kernel_rfl) (by kernel_rfl) (fun _ _ _ h => h) (Or.inl ⟨by rfl, ?_⟩) hHeld ?_
    rotate_left
    · intro w hSw
      try dsimp only at hSw
      go_simp
      all_goals with_reducible rfl
    try simp only [Act.put, List.getElem_toArray, List.getElem_cons_succ, List.getElem_cons_zero, List.setIfInBounds_toArray, List.set_cons_zero, List.set_cons_succ]
    refine wpAnyH_take (i := 6) (oi := _) (v := undef) rfl (by kernel_rfl) (by kernel_rfl) (by kernel_rfl) (fun _ _ _ h => h) (Or.inr ⟨by rfl, rfl⟩) hHeld ?_
    try simp only [Act.put, List.getElem_toArray, List.getElem_cons_succ, List.getElem_cons_zero, List.setIfInBounds_toArray, List.set_cons_zero, List.set_cons_succ]
    refine wpAnyH_take (i := 7) (oi := _) (v := undef) rfl (by kernel_rfl) (by kernel_rfl) (by kernel_rfl) (fun _ _ _ h => h) (Or.inr ⟨by rfl, rfl⟩) hHeld ?_
    try simp only [Act.put, List.getElem_toArray, List.getElem_cons_succ, List.getElem_cons_zero, List.setIfInBounds_toArray, List.set_cons_zero, List.set_cons_succ]
    refine wpAnyH_take (i := 8) (oi := _) (v := undef) rfl (by kernel_rfl) (by kernel_rfl) (by kernel_rfl) (fun _ _ _ h => h) (Or.inr ⟨by rfl, rfl⟩) hHeld ?_
    try simp only [Act.put, List.getElem_toArray, List.getElem_cons_succ, List.getElem_cons_zero, List.setIfInBounds_toArray, List.set_cons_zero, List.set_cons_succ]
    refine wpAnyH_take (i := 9) (oi := _) (v := ?_) rfl (by kernel_rfl) (by kernel_rfl) (by kernel_rfl) (fun _ _ _ h => h) (Or.inl ⟨by rfl, ?_⟩) hHeld ?_
    rotate_left
    · intro w hSw
      try dsimp only at hSw
      go_simp
      all_goals with_reducible rfl
    try simp only [Act.put, List.getElem_toArray, List.getElem_cons_succ, List.getElem_cons_zero, List.setIfInBounds_toArray, List.set_cons_zero, List.set_cons_succ]
    refine wpAnyH_take (i := 10) (oi := _) (v := ?_) rfl (by kernel_rfl) (by kernel_rfl) (by kernel_rfl) (fun _ _ _ h => h) (Or.inl ⟨by rfl, ?_⟩) hHeld ?_
    rotate_left
    · intro w hSw
      try dsimp only at hSw
      go_simp
      all_goals with_reducible rfl
    try simp only [Act.put, List.getElem_toArray, List.getElem_cons_succ, List.getElem_cons_zero, List.setIfInBounds_toArray, List.set_cons_zero, List.set_cons_succ]
    refine wpAnyH_ready (rs := [11]) (by kernel_rfl) (by simp) ?_
    apply AllReadyH.cons rfl ?_ AllReadyH.nil
    intro K hK
    go_simp
    refine hK.out _ _ ⟨(by repeat (first | with_reducible exact X | with_reducible refine CellsAt.alloc ?_ _ | with_reducible refine CellsAt.drew ?_)), (by repeat (first | with_reducible exact Y | with_reducible refine CellsAt.alloc ?_ _ | with_reducible refine CellsAt.drew ?_))⟩ (fun hHeld => ?_)
    clear hK K
    try simp only [Act.put, List.getElem_toArray, List.getElem_cons_succ, List.getElem_cons_zero, List.setIfInBounds_toArray, List.set_cons_zero, List.set_cons_succ]
    refine wpAnyH_done (by kernel_rfl) ?_ _
    go_wp2
    go_ret
    exact ⟨rfl, H.out⟩
  · rw [show inV 0 0 true = true by decide] at U
    replace U := Lib.hid U
    clear hv
    have Xc0 := X.cell 0 _ rfl
    have Xc1 := X.cell 1 _ rfl
    have Xc2 := X.cell 2 _ rfl
    have Xl := X.lt
    go_wp2_with fail
    refine (V.out _).mono ?_
    rintro e w2 ⟨rfl, B⟩
    replace X := X.step B
    replace H := Lib.hid (bl_trans H.out B)
    clear B
    clear Xc0 Xc1 Xc2 Xl
    have Xc0 := X.cell 0 _ rfl
    have Xc1 := X.cell 1 _ rfl
    have Xc2 := X.cell 2 _ rfl
    have Xl := X.lt
    go_wp2_with fail
    refine (S.out _).mono ?_
    rintro e w3 ⟨rfl, B⟩
    replace X := X.step B
    replace H := Lib.hid (bl_trans H.out B)
    clear B
    clear Xc0 Xc1 Xc2 Xl
    have Xc0 := X.cell 0 _ rfl
    have Xc1 := X.cell 1 _ rfl
    have Xc2 := X.cell 2 _ rfl
    have Xl := X.lt
    go_wp2_with fail
    clear Xc0 Xc1 Xc2 Xl
    have Y : CellsAt (w3.alloc (.cells #[.int .i64 0, .int .i64 0, .bool true] 24)) w3.heap.size (ins 0 0 true) := CellsAt.new _ _ _ _ rfl
    replace X := X.alloc (.cells #[.int .i64 0, .int .i64 0, .bool true] 24)
    replace H := Lib.hid (bl_alloc H.out (.cells #[.int .i64 0, .int .i64 0, .bool true] 24))
    refine wp_region_held_drew (S := fun w' => CellsAt w' w1.heap.size (ins 0 0 false) ∧ CellsAt w' w3.heap.size (ins 0 0 true)) (by kernel_rfl) ⟨(by repeat (first | with_reducible exact X | with_reducible refine CellsAt.alloc ?_ _ | with_reducible refine CellsAt.drew ?_)), (by repeat (first | with_reducible exact Y | with_reducible refine CellsAt.alloc ?_ _ | with_reducible refine CellsAt.drew ?_))⟩ (fun hHeld => ?_)
    refine wpAnyH_take (i := 0) (oi := _) (v := ?_) rfl (by kernel_rfl) (by kernel_rfl) (by kernel_rfl) (fun _ _ _ h => h) (Or.inl ⟨by rfl, ?_⟩) hHeld ?_
    rotate_left
    · intro w hSw
      have c0 := hSw.2.cell 0 _ rfl
      have c1 := hSw.2.cell 1 _ rfl
      have c2 := hSw.2.cell 2 _ rfl
      go_simp
      all_goals with_reducible rfl
    try simp only [Act.put, List.getElem_toArray, List.getElem_cons_zero, List.setIfInBounds_toArray, List.set_cons_zero, List.set_cons_succ]
    refine wpAnyH_take (i := 2) (oi := _) (v := ?_) rfl (by kernel_rfl) (by kernel_rfl) (by kernel_rfl) (fun _ _ _ h => h) (Or.inl ⟨by rfl, ?_⟩) hHeld ?_
    rotate_left
    · intro w hSw
      try dsimp only at hSw
      go_simp
      all_goals with_reducible rfl
    try simp only [Act.put, List.getElem_toArray, List.getElem_cons_succ, List.getElem_cons_zero, List.setIfInBounds_toArray, List.set_cons_zero, List.set_cons_succ]
    refine wpAnyH_take (i := 3) (oi := _) (v := ?_) rfl (by kernel_rfl) (by kernel_rfl) (by kernel_rfl) (fun _ _ _ h => h) (Or.inl ⟨by rfl, ?_⟩) hHeld ?_
    rotate_left
    · intro w hSw
      have c0 := hSw.1.cell 0 _ rfl
      go_simp
      all_goals with_reducible rfl
    try simp only [Act.put, List.getElem_toArray, List.getElem_cons_succ, List.getElem_cons_zero, List.setIfInBounds_toArray, List.set_cons_zero, List.set_cons_succ]
    refine wpAnyH_take (i := 4) (oi := _) (v := ?_) rfl (by kernel_rfl) (by kernel_rfl) (by kernel_rfl) (fun _ _ _ h => h) (Or.inl ⟨by rfl, ?_⟩) hHeld ?_
    rotate_left
    · intro w hSw
      try dsimp only at hSw
      go_simp
      all_goals with_reducible rfl
    try simp only [Act.put, List.getElem_toArray, List.getElem_cons_succ, List.getElem_cons_zero, List.setIfInBounds_toArray, List.set_cons_zero, List.set_cons_succ]
    refine wpAnyH_ready (rs := [1]) (by kernel_rfl) (by simp) ?_
    apply AllReadyH.cons rfl ?_ AllReadyH.nil
    intro K hK
    go_simp
    go_at_call 19
    refine (U.out _).mono ?_
    rintro e w4 ⟨rfl, B⟩
    replace X := CellsAt.step (by first | with_reducible exact X.drew | with_reducible exact X) B
    replace Y := CellsAt.step (by first | with_reducible exact Y.drew | with_reducible exact Y) B
    replace H := Lib.hid (bl_trans (by first | with_reducible exact bl_drew1 H.out | with_reducible exact H.out) B)
    clear B
    clear hHeld
    go_wp2_with fail
    refine hK.out _ _ ⟨(by repeat (first | with_reducible exact X | with_reducible refine CellsAt.alloc ?_ _ | with_reducible refine CellsAt.drew ?_)), (by repeat (first | with_reducible exact Y | with_reducible refine CellsAt.alloc ?_ _ | with_reducible refine CellsAt.drew ?_))⟩ (fun hHeld => ?_)
    clear hK K
    try simp only [Act.put, List.getElem_toArray, List.getElem_cons_succ, List.getElem_cons_zero, List.setIfInBounds_toArray, List.set_cons_zero, List.set_cons_succ]
    refine wpAnyH_take (i := 5) (oi := _) (v := ?_) rfl (by kernel_rfl) (by kernel_rfl) (by kernel_rfl) (fun _ _ _ h => h) (Or.inl ⟨by rfl, ?_⟩) hHeld ?_
    rotate_left
    · intro w hSw
      try dsimp only at hSw
      go_simp
      all_goals with_reducible rfl
    try simp only [Act.put, List.getElem_toArray, List.getElem_cons_succ, List.getElem_cons_zero, List.setIfInBounds_toArray, List.set_cons_zero, List.set_cons_succ]
    refine wpAnyH_take (i := 6) (oi := _) (v := ?_) rfl (by kernel_rfl) (by kernel_rfl) (by kernel_rfl) (fun _ _ _ h => h) (Or.inl ⟨by rfl, ?_⟩) hHeld ?_
    rotate_left
    · intro w hSw
      try dsimp only at hSw
      go_simp
      all_goals with_reducible rfl
    try simp only [Act.put, List.getElem_toArray, List.getElem_cons_succ, List.getElem_cons_zero, List.setIfInBounds_toArray, List.set_cons_zero, List.set_cons_succ]
    refine wpAnyH_take (i := 7) (oi := _) (v := ?_) rfl (by kernel_rfl) (by kernel_rfl) (by kernel_rfl) (fun _ _ _ h => h) (Or.inl ⟨by rfl, ?_⟩) hHeld ?_
    rotate_left
    · intro w hSw
      have c1 := hSw.1.cell 1 _ rfl
      go_simp
      all_goals with_reducible rfl
    try simp only [Act.put, List.getElem_toArray, List.getElem_cons_succ, List.getElem_cons_zero, List.setIfInBounds_toArray, List.set_cons_zero, List.set_cons_succ]
    refine wpAnyH_take (i := 8) (oi := _) (v := ?_) rfl (by kernel_rfl) (by kernel_rfl) (by kernel_rfl) (fun _ _ _ h => h) (Or.inl ⟨by rfl, ?_⟩) hHeld ?_
    rotate_left
    · intro w hSw
      try dsimp only at hSw
      go_simp
      all_goals with_reducible rfl
    try simp only [Act.put, List.getElem_toArray, List.getElem_cons_succ, List.getElem_cons_zero, List.setIfInBounds_toArray, List.set_cons_zero, List.set_cons_succ]
    refine wpAnyH_take (i := 9) (oi := _) (v := ?_) rfl (by kernel_rfl) (by kernel_rfl) (by kernel_rfl) (fun _ _ _ h => h) (Or.inl ⟨by rfl, ?_⟩) hHeld ?_
    rotate_left
    · intro w hSw
      try dsimp only at hSw
      go_simp
      all_goals with_reducible rfl
    try simp only [Act.put, List.getElem_toArray, List.getElem_cons_succ, List.getElem_cons_zero, List.setIfInBounds_toArray, List.set_cons_zero, List.set_cons_succ]
    refine wpAnyH_take (i := 10) (oi := _) (v := ?_) rfl (by kernel_rfl) (by kernel_rfl) (by kernel_rfl) (fun _ _ _ h => h) (Or.inl ⟨by rfl, ?_⟩) hHeld ?_
    rotate_left
    · intro w hSw
      try dsimp only at hSw
      go_simp
      all_goals with_reducible rfl
    try simp only [Act.put, List.getElem_toArray, List.getElem_cons_succ, List.getElem_cons_zero, List.setIfInBounds_toArray, List.set_cons_zero, List.set_cons_succ]
    refine wpAnyH_ready (rs := [11]) (by kernel_rfl) (by simp) ?_
    apply AllReadyH.cons rfl ?_ AllReadyH.nil
    intro K hK
    go_simp
    refine hK.out _ _ ⟨(by repeat (first | with_reducible exact X | with_reducible refine CellsAt.alloc ?_ _ | with_reducible refine CellsAt.drew ?_)), (by repeat (first | with_reducible exact Y | with_reducible refine CellsAt.alloc ?_ _ | with_reducible refine CellsAt.drew ?_))⟩ (fun hHeld => ?_)
    clear hK K
    try simp only [Act.put, List.getElem_toArray, List.getElem_cons_succ, List.getElem_cons_zero, List.setIfInBounds_toArray, List.set_cons_zero, List.set_cons_succ]
    refine wpAnyH_done (by kernel_rfl) ?_ _
    go_wp2
    go_ret
    exact ⟨rfl, H.out⟩
  · rw [show inV 0 1 true = false by decide] at U
    replace U := Lib.hid U
    clear hv
    have Xc0 := X.cell 0 _ rfl
    have Xc1 := X.cell 1 _ rfl
    have Xc2 := X.cell 2 _ rfl
    have Xl := X.lt
    go_wp2_with fail
    refine (V.out _).mono ?_
    rintro e w2 ⟨rfl, B⟩
    replace X := X.step B
    replace H := Lib.hid (bl_trans H.out B)
    clear B
    clear Xc0 Xc1 Xc2 Xl
    have Xc0 := X.cell 0 _ rfl
    have Xc1 := X.cell 1 _ rfl
    have Xc2 := X.cell 2 _ rfl
    have Xl := X.lt
    go_wp2_with fail
    refine (S.out _).mono ?_
    rintro e w3 ⟨rfl, B⟩
    replace X := X.step B
    replace H := Lib.hid (bl_trans H.out B)
    clear B
    clear Xc0 Xc1 Xc2 Xl
    have Xc0 := X.cell 0 _ rfl
    have Xc1 := X.cell 1 _ rfl
    have Xc2 := X.cell 2 _ rfl
    have Xl := X.lt
    go_wp2_with fail
    clear Xc0 Xc1 Xc2 Xl
    have Y : CellsAt (w3.alloc (.cells #[.int .i64 0, .int .i64 1, .bool true] 24)) w3.heap.size (ins 0 1 true) := CellsAt.new _ _ _ _ rfl
    replace X := X.alloc (.cells #[.int .i64 0, .int .i64 1, .bool true] 24)
    replace H := Lib.hid (bl_alloc H.out (.cells #[.int .i64 0, .int .i64 1, .bool true] 24))
    refine wp_region_held_drew (S := fun w' => CellsAt w' w1.heap.size (ins 0 1 false) ∧ CellsAt w' w3.heap.size (ins 0 1 true)) (by kernel_rfl) ⟨(by repeat (first | with_reducible exact X | with_reducible refine CellsAt.alloc ?_ _ | with_reducible refine CellsAt.drew ?_)), (by repeat (first | with_reducible exact Y | with_reducible refine CellsAt.alloc ?_ _ | with_reducible refine CellsAt.drew ?_))⟩ (fun hHeld => ?_)
    refine wpAnyH_take (i := 0) (oi := _) (v := ?_) rfl (by kernel_rfl) (by kernel_rfl) (by kernel_rfl) (fun _ _ _ h => h) (Or.inl ⟨by rfl, ?_⟩) hHeld ?_
    rotate_left
    · intro w hSw
      have c0 := hSw.2.cell 0 _ rfl
      have c1 := hSw.2.cell 1 _ rfl
      have c2 := hSw.2.cell 2 _ rfl
      go_simp
      all_goals with_reducible rfl
    try simp only [Act.put, List.getElem_toArray, List.getElem_cons_zero, List.setIfInBounds_toArray, List.set_cons_zero, List.set_cons_succ]
    refine wpAnyH_take (i := 2) (oi := _) (v := ?_) rfl (by kernel_rfl) (by kernel_rfl) (by kernel_rfl) (fun _ _ _ h => h) (Or.inl ⟨by rfl, ?_⟩) hHeld ?_
    rotate_left
    · intro w hSw
      try dsimp only at hSw
      go_simp
      all_goals with_reducible rfl
    try simp only [Act.put, List.getElem_toArray, List.getElem_cons_succ, List.getElem_cons_zero, List.setIfInBounds_toArray, List.set_cons_zero, List.set_cons_succ]
    refine wpAnyH_take (i := 3) (oi := _) (v := ?_) rfl (by kernel_rfl) (by kernel_rfl) (by kernel_rfl) (fun _ _ _ h => h) (Or.inl ⟨by rfl, ?_⟩) hHeld ?_
    rotate_left
    · intro w hSw
      have c0 := hSw.1.cell 0 _ rfl
      go_simp
      all_goals with_reducible rfl
    try simp only [Act.put, List.getElem_toArray, List.getElem_cons_succ, List.getElem_cons_zero, List.setIfInBounds_toArray, List.set_cons_zero, List.set_cons_succ]
    refine wpAnyH_take (i := 4) (oi := _) (v := ?_) rfl (by kernel_rfl) (by kernel_rfl) (by kernel_rfl) (fun _ _ _ h => h) (Or.inl ⟨by rfl, ?_⟩) hHeld ?_
    rotate_left
    · intro w hSw
      try dsimp only at hSw
      go_simp
      all_goals with_reducible rfl
    try simp only [Act.put, List.getElem_toArray, List.getElem_cons_succ, List.getElem_cons_zero, List.setIfInBounds_toArray, List.set_cons_zero, List.set_cons_succ]
    refine wpAnyH_ready (rs := [1]) (by kernel_rfl) (by simp) ?_
    apply AllReadyH.cons rfl ?_ AllReadyH.nil
    intro K hK
    go_simp
    go_at_call 19
    refine (U.out _).mono ?_
    rintro e w4 ⟨rfl, B⟩
    replace X := CellsAt.step (by first | with_reducible exact X.drew | with_reducible exact X) B
    replace Y := CellsAt.step (by first | with_reducible exact Y.drew | with_reducible exact Y) B
    replace H := Lib.hid (bl_trans (by first | with_reducible exact bl_drew1 H.out | with_reducible exact H.out) B)
    clear B
    clear hHeld
    go_wp2_with fail
    refine hK.out _ _ ⟨(by repeat (first | with_reducible exact X | with_reducible refine CellsAt.alloc ?_ _ | with_reducible refine CellsAt.drew ?_)), (by repeat (first | with_reducible exact Y | with_reducible refine CellsAt.alloc ?_ _ | with_reducible refine CellsAt.drew ?_))⟩ (fun hHeld => ?_)
    clear hK K
    try simp only [Act.put, List.getElem_toArray, List.getElem_cons_succ, List.getElem_cons_zero, List.setIfInBounds_toArray, List.set_cons_zero, List.set_cons_succ]
    refine wpAnyH_take (i := 5) (oi := _) (v := ?_) rfl (by kernel_rfl) (by kernel_rfl) (by kernel_rfl) (fun _ _ _ h => h) (Or.inl ⟨by rfl, ?_⟩) hHeld ?_
    rotate_left
    · intro w hSw
      try dsimp only at hSw
      go_simp
      all_goals with_reducible rfl
    try simp only [Act.put, List.getElem_toArray, List.getElem_cons_succ, List.getElem_cons_zero, List.setIfInBounds_toArray, List.set_cons_zero, List.set_cons_succ]
    refine wpAnyH_take (i := 6) (oi := _) (v := ?_) rfl (by kernel_rfl) (by kernel_rfl) (by kernel_rfl) (fun _ _ _ h => h) (Or.inl ⟨by rfl, ?_⟩) hHeld ?_
    rotate_left
    · intro w hSw
      try dsimp only at hSw
      go_simp
      all_goals with_reducible rfl
    try simp only [Act.put, List.getElem_toArray, List.getElem_cons_succ, List.getElem_cons_zero, List.setIfInBounds_toArray, List.set_cons_zero, List.set_cons_succ]
    refine wpAnyH_take (i := 7) (oi := _) (v := ?_) rfl (by kernel_rfl) (by kernel_rfl) (by kernel_rfl) (fun _ _ _ h => h) (Or.inl ⟨by rfl, ?_⟩) hHeld ?_
    rotate_left
    · intro w hSw
      have c1 := hSw.1.cell 1 _ rfl
      go_simp
      all_goals with_reducible rfl
    try simp only [Act.put, List.getElem_toArray, List.getElem_cons_succ, List.getElem_cons_zero, List.setIfInBounds_toArray, List.set_cons_zero, List.set_cons_succ]
    refine wpAnyH_take (i := 8) (oi := _) (v := ?_) rfl (by kernel_rfl) (by kernel_rfl) (by kernel_rfl) (fun _ _ _ h => h) (Or.inl ⟨by rfl, ?_⟩) hHeld ?_
    rotate_left
    · intro w hSw
      try dsimp only at hSw
      go_simp
      all_goals with_reducible rfl
    try simp only [Act.put, List.getElem_toArray, List.getElem_cons_succ, List.getElem_cons_zero, List.setIfInBounds_toArray, List.set_cons_zero, List.set_cons_succ]
    refine wpAnyH_take (i := 9) (oi := _) (v := ?_) rfl (by kernel_rfl) (by kernel_rfl) (by kernel_rfl) (fun _ _ _ h => h) (Or.inl ⟨by rfl, ?_⟩) hHeld ?_
    rotate_left
    · intro w hSw
      try dsimp only at hSw
      go_simp
      all_goals with_reducible rfl
    try simp only [Act.put, List.getElem_toArray, List.getElem_cons_succ, List.getElem_cons_zero, List.setIfInBounds_toArray, List.set_cons_zero, List.set_cons_succ]
    refine wpAnyH_take (i := 10) (oi := _) (v := ?_) rfl (by kernel_rfl) (by kernel_rfl) (by kernel_rfl) (fun _ _ _ h => h) (Or.inl ⟨by rfl, ?_⟩) hHeld ?_
    rotate_left
    · intro w hSw
      try dsimp only at hSw
      go_simp
      all_goals with_reducible rfl
    try simp only [Act.put, List.getElem_toArray, List.getElem_cons_succ, List.getElem_cons_zero, List.setIfInBounds_toArray, List.set_cons_zero, List.set_cons_succ]
    refine wpAnyH_ready (rs := [11]) (by kernel_rfl) (by simp) ?_
    apply AllReadyH.cons rfl ?_ AllReadyH.nil
    intro K hK
    go_simp
    refine hK.out _ _ ⟨(by repeat (first | with_reducible exact X | with_reducible refine CellsAt.alloc ?_ _ | with_reducible refine CellsAt.drew ?_)), (by repeat (first | with_reducible exact Y | with_reducible refine CellsAt.alloc ?_ _ | with_reducible refine CellsAt.drew ?_))⟩ (fun hHeld => ?_)
    clear hK K
    try simp only [Act.put, List.getElem_toArray, List.getElem_cons_succ, List.getElem_cons_zero, List.setIfInBounds_toArray, List.set_cons_zero, List.set_cons_succ]
    refine wpAnyH_done (by kernel_rfl) ?_ _
    go_wp2
    go_ret
    exact ⟨rfl, H.out⟩
  · rw [show inV 0 2 true = false by decide] at U
    replace U := Lib.hid U
    clear hv
    have Xc0 := X.cell 0 _ rfl
    have Xc1 := X.cell 1 _ rfl
    have Xc2 := X.cell 2 _ rfl
    have Xl := X.lt
    go_wp2_with fail
    refine (V.out _).mono ?_
    rintro e w2 ⟨rfl, B⟩
    replace X := X.step B
    replace H := Lib.hid (bl_trans H.out B)
    clear B
    clear Xc0 Xc1 Xc2 Xl
    have Xc0 := X.cell 0 _ rfl
    have Xc1 := X.cell 1 _ rfl
    have Xc2 := X.cell 2 _ rfl
    have Xl := X.lt
    go_wp2_with fail
    refine (S.out _).mono ?_
    rintro e w3 ⟨rfl, B⟩
    replace X := X.step B
    replace H := Lib.hid (bl_trans H.out B)
    clear B
    clear Xc0 Xc1 Xc2 Xl
    have Xc0 := X.cell 0 _ rfl
    have Xc1 := X.cell 1 _ rfl
    have Xc2 := X.cell 2 _ rfl
    have Xl := X.lt
    go_wp2_with fail
    clear Xc0 Xc1 Xc2 Xl
    have Y : CellsAt (w3.alloc (.cells #[.int .i64 0, .int .i64 2, .bool true] 24)) w3.heap.size (ins 0 2 true) := CellsAt.new _ _ _ _ rfl
    replace X := X.alloc (.cells #[.int .i64 0, .int .i64 2, .bool true] 24)
    replace H := Lib.hid (bl_alloc H.out (.cells #[.int .i64 0, .int .i64 2, .bool true] 24))
    refine wp_region_held_drew (S := fun w' => CellsAt w' w1.heap.size (ins 0 2 false) ∧ CellsAt w' w3.heap.size (ins 0 2 true)) (by kernel_rfl) ⟨(by repeat (first | with_reducible exact X | with_reducible refine CellsAt.alloc ?_ _ | with_reducible refine CellsAt.drew ?_)), (by repeat (first | with_reducible exact Y | with_reducible refine CellsAt.alloc ?_ _ | with_reducible refine CellsAt.drew ?_))⟩ (fun hHeld => ?_)
    refine wpAnyH_take (i := 0) (oi := _) (v := ?_) rfl (by kernel_rfl) (by kernel_rfl) (by kernel_rfl) (fun _ _ _ h => h) (Or.inl ⟨by rfl, ?_⟩) hHeld ?_
    rotate_left
    · intro w hSw
      have c0 := hSw.2.cell 0 _ rfl
      have c1 := hSw.2.cell 1 _ rfl
      have c2 := hSw.2.cell 2 _ rfl
      go_simp
      all_goals with_reducible rfl
    try simp only [Act.put, List.getElem_toArray, List.getElem_cons_zero, List.setIfInBounds_toArray, List.set_cons_zero, List.set_cons_succ]
    refine wpAnyH_take (i := 2) (oi := _) (v := ?_) rfl (by kernel_rfl) (by kernel_rfl) (by kernel_rfl) (fun _ _ _ h => h) (Or.inl ⟨by rfl, ?_⟩) hHeld ?_
    rotate_left
    · intro w hSw
      try dsimp only at hSw
      go_simp
      all_goals with_reducible rfl
    try simp only [Act.put, List.getElem_toArray, List.getElem_cons_succ, List.getElem_cons_zero, List.setIfInBounds_toArray, List.set_cons_zero, List.set_cons_succ]
    refine wpAnyH_take (i := 3) (oi := _) (v := ?_) rfl (by kernel_rfl) (by kernel_rfl) (by kernel_rfl) (fun _ _ _ h => h) (Or.inl ⟨by rfl, ?_⟩) hHeld ?_
    rotate_left
    · intro w hSw
      have c0 := hSw.1.cell 0 _ rfl
      go_simp
      all_goals with_reducible rfl
    try simp only [Act.put, List.getElem_toArray, List.getElem_cons_succ, List.getElem_cons_zero, List.setIfInBounds_toArray, List.set_cons_zero, List.set_cons_succ]
    refine wpAnyH_take (i := 4) (oi := _) (v := ?_) rfl (by kernel_rfl) (by kernel_rfl) (by kernel_rfl) (fun _ _ _ h => h) (Or.inl ⟨by rfl, ?_⟩) hHeld ?_
    rotate_left
    · intro w hSw
      try dsimp only at hSw
      go_simp
      all_goals with_reducible rfl
    try simp only [Act.put, List.getElem_toArray, List.getElem_cons_succ, List.getElem_cons_zero, List.setIfInBounds_toArray, List.set_cons_zero, List.set_cons_succ]
    refine wpAnyH_ready (rs := [1]) (by kernel_rfl) (by simp) ?_
    apply AllReadyH.cons rfl ?_ AllReadyH.nil
    intro K hK
    go_simp
    go_at_call 19
    refine (U.out _).mono ?_
    rintro e w4 ⟨rfl, B⟩
    replace X := CellsAt.step (by first | with_reducible exact X.drew | with_reducible exact X) B
    replace Y := CellsAt.step (by first | with_reducible exact Y.drew | with_reducible exact Y) B
    replace H := Lib.hid (bl_trans (by first | with_reducible exact bl_drew1 H.out | with_reducible exact H.out) B)
    clear B
    clear hHeld
    go_wp2_with fail
    refine hK.out _ _ ⟨(by repeat (first | with_reducible exact X | with_reducible refine CellsAt.alloc ?_ _ | with_reducible refine CellsAt.drew ?_)), (by repeat (first | with_reducible exact Y | with_reducible refine CellsAt.alloc ?_ _ | with_reducible refine CellsAt.drew ?_))⟩ (fun hHeld => ?_)
    clear hK K
    try simp only [Act.put, List.getElem_toArray, List.getElem_cons_succ, List.getElem_cons_zero, List.setIfInBounds_toArray, List.set_cons_zero, List.set_cons_succ]
    refine wpAnyH_take (i := 5) (oi := _) (v := ?_) rfl (by kernel_rfl) (by kernel_rfl) (by kernel_rfl) (fun _ _ _ h => h) (Or.inl ⟨by rfl, ?_⟩) hHeld ?_
    rotate_left
    · intro w hSw
      try dsimp only at hSw
      go_simp
      all_goals with_reducible rfl
    try simp only [Act.put, List.getElem_toArray, List.getElem_cons_succ, List.getElem_cons_zero, List.setIfInBounds_toArray, List.set_cons_zero, List.set_cons_succ]
    refine wpAnyH_take (i := 6) (oi := _) (v := ?_) rfl (by kernel_rfl) (by kernel_rfl) (by kernel_rfl) (fun _ _ _ h => h) (Or.inl ⟨by rfl, ?_⟩) hHeld ?_
    rotate_left
    · intro w hSw
      try dsimp only at hSw
      go_simp
      all_goals with_reducible rfl
    try simp only [Act.put, List.getElem_toArray, List.getElem_cons_succ, List.getElem_cons_zero, List.setIfInBounds_toArray, List.set_cons_zero, List.set_cons_succ]
    refine wpAnyH_take (i := 7) (oi := _) (v := ?_) rfl (by kernel_rfl) (by kernel_rfl) (by kernel_rfl) (fun _ _ _ h => h) (Or.inl ⟨by rfl, ?_⟩) hHeld ?_
    rotate_left
    · intro w hSw
      have c1 := hSw.1.cell 1 _ rfl
      go_simp
      all_goals with_reducible rfl
    try simp only [Act.put, List.getElem_toArray, List.getElem_cons_succ, List.getElem_cons_zero, List.setIfInBounds_toArray, List.set_cons_zero, List.set_cons_succ]
    refine wpAnyH_take (i := 8) (oi := _) (v := ?_) rfl (by kernel_rfl) (by kernel_rfl) (by kernel_rfl) (fun _ _ _ h => h) (Or.inl ⟨by rfl, ?_⟩) hHeld ?_
    rotate_left
    · intro w hSw
      try dsimp only at hSw
      go_simp
      all_goals with_reducible rfl
    try simp only [Act.put, List.getElem_toArray, List.getElem_cons_succ, List.getElem_cons_zero, List.setIfInBounds_toArray, List.set_cons_zero, List.set_cons_succ]
    refine wpAnyH_take (i := 9) (oi := _) (v := ?_) rfl (by kernel_rfl) (by kernel_rfl) (by kernel_rfl) (fun _ _ _ h => h) (Or.inl ⟨by rfl, ?_⟩) hHeld ?_
    rotate_left
    · intro w hSw
      try dsimp only at hSw
      go_simp
      all_goals with_reducible rfl
    try simp only [Act.put, List.getElem_toArray, List.getElem_cons_succ, List.getElem_cons_zero, List.setIfInBounds_toArray, List.set_cons_zero, List.set_cons_succ]
    refine wpAnyH_take (i := 10) (oi := _) (v := ?_) rfl (by kernel_rfl) (by kernel_rfl) (by kernel_rfl) (fun _ _ _ h => h) (Or.inl ⟨by rfl, ?_⟩) hHeld ?_
    rotate_left
    · intro w hSw
      try dsimp only at hSw
      go_simp
      all_goals with_reducible rfl
    try simp only [Act.put, List.getElem_toArray, List.getElem_cons_succ, List.getElem_cons_zero, List.setIfInBounds_toArray, List.set_cons_zero, List.set_cons_succ]
    refine wpAnyH_ready (rs := [11]) (by kernel_rfl) (by simp) ?_
    apply AllReadyH.cons rfl ?_ AllReadyH.nil
    intro K hK
    go_simp
    refine hK.out _ _ ⟨(by repeat (first | with_reducible exact X | with_reducible refine CellsAt.alloc ?_ _ | with_reducible refine CellsAt.drew ?_)), (by repeat (first | with_reducible exact Y | with_reducible refine CellsAt.alloc ?_ _ | with_reducible refine CellsAt.drew ?_))⟩ (fun hHeld => ?_)
    clear hK K
    try simp only [Act.put, List.getElem_toArray, List.getElem_cons_succ, List.getElem_cons_zero, List.setIfInBounds_toArray, List.set_cons_zero, List.set_cons_succ]
    refine wpAnyH_done (by kernel_rfl) ?_ _
    go_wp2
    go_ret
    exact ⟨rfl, H.out⟩
  · rw [show inV 1 0 true = false by decide] at U
    replace U := Lib.hid U
    clear hv
    have Xc0 := X.cell 0 _ rfl
    have Xc1 := X.cell 1 _ rfl
    have Xc2 := X.cell 2 _ rfl
    have Xl := X.lt
    go_wp2_with fail
    refine (V.out _).mono ?_
    rintro e w2 ⟨rfl, B⟩
    replace X := X.step B
    replace H := Lib.hid (bl_trans H.out B)
    clear B
    clear Xc0 Xc1 Xc2 Xl
    have Xc0 := X.cell 0 _ rfl
    have Xc1 := X.cell 1 _ rfl
    have Xc2 := X.cell 2 _ rfl
    have Xl := X.lt
    go_wp2_with fail
    refine (S.out _).mono ?_
    rintro e w3 ⟨rfl, B⟩
    replace X := X.step B
    replace H := Lib.hid (bl_trans H.out B)
    clear B
    clear Xc0 Xc1 Xc2 Xl
    have Xc0 := X.cell 0 _ rfl
    have Xc1 := X.cell 1 _ rfl
    have Xc2 := X.cell 2 _ rfl
    have Xl := X.lt
    go_wp2_with fail
    clear Xc0 Xc1 Xc2 Xl
    have Y : CellsAt (w3.alloc (.cells #[.int .i64 1, .int .i64 0, .bool true] 24)) w3.heap.size (ins 1 0 true) := CellsAt.new _ _ _ _ rfl
    replace X := X.alloc (.cells #[.int .i64 1, .int .i64 0, .bool true] 24)
    replace H := Lib.hid (bl_alloc H.out (.cells #[.int .i64 1, .int .i64 0, .bool true] 24))
    refine wp_region_held_drew (S := fun w' => CellsAt w' w1.heap.size (ins 1 0 false) ∧ CellsAt w' w3.heap.size (ins 1 0 true)) (by kernel_rfl) ⟨(by repeat (first | with_reducible exact X | with_reducible refine CellsAt.alloc ?_ _ | with_reducible refine CellsAt.drew ?_)), (by repeat (first | with_reducible exact Y | with_reducible refine CellsAt.alloc ?_ _ | with_reducible refine CellsAt.drew ?_))⟩ (fun hHeld => ?_)
    refine wpAnyH_take (i := 0) (oi := _) (v := ?_) rfl (by kernel_rfl) (by kernel_rfl) (by kernel_rfl) (fun _ _ _ h => h) (Or.inl ⟨by rfl, ?_⟩) hHeld ?_
    rotate_left
    · intro w hSw
      have c0 := hSw.2.cell 0 _ rfl
      have c1 := hSw.2.cell 1 _ rfl
      have c2 := hSw.2.cell 2 _ rfl
      go_simp
      all_goals with_reducible rfl
    try simp only [Act.put, List.getElem_toArray, List.getElem_cons_zero, List.setIfInBounds_toArray, List.set_cons_zero, List.set_cons_succ]
    refine wpAnyH_take (i := 2) (oi := _) (v := ?_) rfl (by kernel_rfl) (by kernel_rfl) (by kernel_rfl) (fun _ _ _ h => h) (Or.inl ⟨by rfl, ?_⟩) hHeld ?_
    rotate_left
    · intro w hSw
      try dsimp only at hSw
      go_simp
      all_goals with_reducible rfl
    try simp only [Act.put, List.getElem_toArray, List.getElem_cons_succ, List.getElem_cons_zero, List.setIfInBounds_toArray, List.set_cons_zero, List.set_cons_succ]
    refine wpAnyH_take (i := 3) (oi := _) (v := ?_) rfl (by kernel_rfl) (by kernel_rfl) (by kernel_rfl) (fun _ _ _ h => h) (Or.inl ⟨by rfl, ?_⟩) hHeld ?_
    rotate_left
    · intro w hSw
      have c0 := hSw.1.cell 0 _ rfl
      go_simp
      all_goals with_reducible rfl
    try simp only [Act.put, List.getElem_toArray, List.getElem_cons_succ, List.getElem_cons_zero, List.setIfInBounds_toArray, List.set_cons_zero, List.set_cons_succ]
    refine wpAnyH_take (i := 4) (oi := _) (v := ?_) rfl (by kernel_rfl) (by kernel_rfl) (by kernel_rfl) (fun _ _ _ h => h) (Or.inl ⟨by rfl, ?_⟩) hHeld ?_
    rotate_left
    · intro w hSw
      try dsimp only at hSw
      go_simp
      all_goals with_reducible rfl
    try simp only [Act.put, List.getElem_toArray, List.getElem_cons_succ, List.getElem_cons_zero, List.setIfInBounds_toArray, List.set_cons_zero, List.set_cons_succ]
    refine wpAnyH_ready (rs := [1]) (by kernel_rfl) (by simp) ?_
    apply AllReadyH.cons rfl ?_ AllReadyH.nil
    intro K hK
    go_simp
    go_at_call 19
    refine (U.out _).mono ?_
    rintro e w4 ⟨rfl, B⟩
    replace X := CellsAt.step (by first | with_reducible exact X.drew | with_reducible exact X) B
    replace Y := CellsAt.step (by first | with_reducible exact Y.drew | with_reducible exact Y) B
    replace H := Lib.hid (bl_trans (by first | with_reducible exact bl_drew1 H.out | with_reducible exact H.out) B)
    clear B
    clear hHeld
    go_wp2_with fail
    refine hK.out _ _ ⟨(by repeat (first | with_reducible exact X | with_reducible refine CellsAt.alloc ?_ _ | with_reducible refine CellsAt.drew ?_)), (by repeat (first | with_reducible exact Y | with_reducible refine CellsAt.alloc ?_ _ | with_reducible refine CellsAt.drew ?_))⟩ (fun hHeld => ?_)
    clear hK K
    try simp only [Act.put, List.getElem_toArray, List.getElem_cons_succ, List.getElem_cons_zero, List.setIfInBounds_toArray, List.set_cons_zero, List.set_cons_succ]
    refine wpAnyH_take (i := 5) (oi := _) (v := ?_) rfl (by kernel_rfl) (by kernel_rfl) (by kernel_rfl) (fun _ _ _ h => h) (Or.inl ⟨by rfl, ?_⟩) hHeld ?_
    rotate_left
    · intro w hSw
      try dsimp only at hSw
      go_simp
      all_goals with_reducible rfl
    try simp only [Act.put, List.getElem_toArray, List.getElem_cons_succ, List.getElem_cons_zero, List.setIfInBounds_toArray, List.set_cons_zero, List.set_cons_succ]
    refine wpAnyH_take (i := 6) (oi := _) (v := undef) rfl (by kernel_rfl) (by kernel_rfl) (by kernel_rfl) (fun _ _ _ h => h) (Or.inr ⟨by rfl, rfl⟩) hHeld ?_
    try simp only [Act.put, List.getElem_toArray, List.getElem_cons_succ, List.getElem_cons_zero, List.setIfInBounds_toArray, List.set_cons_zero, List.set_cons_succ]
    refine wpAnyH_take (i := 7) (oi := _) (v := undef) rfl (by kernel_rfl) (by kernel_rfl) (by kernel_rfl) (fun _ _ _ h => h) (Or.inr ⟨by rfl, rfl⟩) hHeld ?_
    try simp only [Act.put, List.getElem_toArray, List.getElem_cons_succ, List.getElem_cons_zero, List.setIfInBounds_toArray, List.set_cons_zero, List.set_cons_succ]
    refine wpAnyH_take (i := 8) (oi := _) (v := undef) rfl (by kernel_rfl) (by kernel_rfl) (by kernel_rfl) (fun _ _ _ h => h) (Or.inr ⟨by rfl, rfl⟩) hHeld ?_
    try simp only [Act.put, List.getElem_toArray, List.getElem_cons_succ, List.getElem_cons_zero, List.setIfInBounds_toArray, List.set_cons_zero, List.set_cons_succ]
    refine wpAnyH_take (i := 9) (oi := _) (v := ?_) rfl (by kernel_rfl) (by kernel_rfl) (by kernel_rfl) (fun _ _ _ h => h) (Or.inl ⟨by rfl, ?_⟩) hHeld ?_
    rotate_left
    · intro w hSw
      try dsimp only at hSw
      go_simp
      all_goals with_reducible rfl
    try simp only [Act.put, List.getElem_toArray, List.getElem_cons_succ, List.getElem_cons_zero, List.setIfInBounds_toArray, List.set_cons_zero, List.set_cons_succ]
    refine wpAnyH_take (i := 10) (oi := _) (v := ?_) rfl (by kernel_rfl) (by kernel_rfl) (by kernel_rfl) (fun _ _ _ h => h) (Or.inl ⟨by rfl, ?_⟩) hHeld ?_
    rotate_left
    · intro w hSw
      try dsimp only at hSw
      go_simp
      all_goals with_reducible rfl
    try simp only [Act.put, List.getElem_toArray, List.getElem_cons_succ, List.getElem_cons_zero, List.setIfInBounds_toArray, List.set_cons_zero, List.set_cons_succ]
    refine wpAnyH_ready (rs := [11]) (by kernel_rfl) (by simp) ?_
    apply AllReadyH.cons rfl ?_ AllReadyH.nil
    intro K hK
    go_simp
    refine hK.out _ _ ⟨(by repeat (first | with_reducible exact X | with_reducible refine CellsAt.alloc ?_ _ | with_reducible refine CellsAt.drew ?_)), (by repeat (first | with_reducible exact Y | with_reducible refine CellsAt.alloc ?_ _ | with_reducible refine CellsAt.drew ?_))⟩ (fun hHeld => ?_)
    clear hK K
    try simp only [Act.put, List.getElem_toArray, List.getElem_cons_succ, List.getElem_cons_zero, List.setIfInBounds_toArray, List.set_cons_zero, List.set_cons_succ]
    refine wpAnyH_done (by kernel_rfl) ?_ _
    go_wp2
    go_ret
    exact ⟨rfl, H.out⟩
  · rw [show inV 1 1 true = false by decide] at U
    replace U := Lib.hid U
    clear hv
    have Xc0 := X.cell 0 _ rfl
    have Xc1 := X.cell 1 _ rfl
    have Xc2 := X.cell 2 _ rfl
    have Xl := X.lt
    go_wp2_with fail
    refine (V.out _).mono ?_
    rintro e w2 ⟨rfl, B⟩
    replace X := X.step B
    replace H := Lib.hid (bl_trans H.out B)
    clear B
    clear Xc0 Xc1 Xc2 Xl
    have Xc0 := X.cell 0 _ rfl
    have Xc1 := X.cell 1 _ rfl
    have Xc2 := X.cell 2 _ rfl
    have Xl := X.lt
    go_wp2_with fail
    refine (S.out _).mono ?_
    rintro e w3 ⟨rfl, B⟩
    replace X := X.step B
    replace H := Lib.hid (bl_trans H.out B)
    clear B
    clear Xc0 Xc1 Xc2 Xl
    have Xc0 := X.cell 0 _ rfl
    have Xc1 := X.cell 1 _ rfl
    have Xc2 := X.cell 2 _ rfl
    have Xl := X.lt
    go_wp2_with fail
    clear Xc0 Xc1 Xc2 Xl
    have Y : CellsAt (w3.alloc (.cells #[.int .i64 1, .int .i64 1, .bool true] 24)) w3.heap.size (ins 1 1 true) := CellsAt.new _ _ _ _ rfl
    replace X := X.alloc (.cells #[.int .i64 1, .int .i64 1, .bool true] 24)
    replace H := Lib.hid (bl_alloc H.out (.cells #[.int .i64 1, .int .i64 1, .bool true] 24))
    refine wp_region_held_drew (S := fun w' => CellsAt w' w1.heap.size (ins 1 1 false) ∧ CellsAt w' w3.heap.size (ins 1 1 true)) (by kernel_rfl) ⟨(by repeat (first | with_reducible exact X | with_reducible refine CellsAt.alloc ?_ _ | with_reducible refine CellsAt.drew ?_)), (by repeat (first | with_reducible exact Y | with_reducible refine CellsAt.alloc ?_ _ | with_reducible refine CellsAt.drew ?_))⟩ (fun hHeld => ?_)
    refine wpAnyH_take (i := 0) (oi := _) (v := ?_) rfl (by kernel_rfl) (by kernel_rfl) (by kernel_rfl) (fun _ _ _ h => h) (Or.inl ⟨by rfl, ?_⟩) hHeld ?_
    rotate_left
    · intro w hSw
      have c0 := hSw.2.cell 0 _ rfl
      have c1 := hSw.2.cell 1 _ rfl
      have c2 := hSw.2.cell 2 _ rfl
      go_simp
      all_goals with_reducible rfl
    try simp only [Act.put, List.getElem_toArray, List.getElem_cons_zero, List.setIfInBounds_toArray, List.set_cons_zero, List.set_cons_succ]
    refine wpAnyH_take (i := 2) (oi := _) (v := ?_) rfl (by kernel_rfl) (by kernel_rfl) (by kernel_rfl) (fun _ _ _ h => h) (Or.inl ⟨by rfl, ?_⟩) hHeld ?_
    rotate_left
    · intro w hSw
      try dsimp only at hSw
      go_simp
      all_goals with_reducible rfl
    try simp only [Act.put, List.getElem_toArray, List.getElem_cons_succ, List.getElem_cons_zero, List.setIfInBounds_toArray, List.set_cons_zero, List.set_cons_succ]
    refine wpAnyH_take (i := 3) (oi := _) (v := ?_) rfl (by kernel_rfl) (by kernel_rfl) (by kernel_rfl) (fun _ _ _ h => h) (Or.inl ⟨by rfl, ?_⟩) hHeld ?_
    rotate_left
    · intro w hSw
      have c0 := hSw.1.cell 0 _ rfl
      go_simp
      all_goals with_reducible rfl
    try simp only [Act.put, List.getElem_toArray, List.getElem_cons_succ, List.getElem_cons_zero, List.setIfInBounds_toArray, List.set_cons_zero, List.set_cons_succ]
    refine wpAnyH_take (i := 4) (oi := _) (v := ?_) rfl (by kernel_rfl) (by kernel_rfl) (by kernel_rfl) (fun _ _ _ h => h) (Or.inl ⟨by rfl, ?_⟩) hHeld ?_
    rotate_left
    · intro w hSw
      try dsimp only at hSw
      go_simp
      all_goals with_reducible rfl
    try simp only [Act.put, List.getElem_toArray, List.getElem_cons_succ, List.getElem_cons_zero, List.setIfInBounds_toArray, List.set_cons_zero, List.set_cons_succ]
    refine wpAnyH_ready (rs := [1]) (by kernel_rfl) (by simp) ?_
    apply AllReadyH.cons rfl ?_ AllReadyH.nil
    intro K hK
    go_simp
    go_at_call 19
    refine (U.out _).mono ?_
    rintro e w4 ⟨rfl, B⟩
    replace X := CellsAt.step (by first | with_reducible exact X.drew | with_reducible exact X) B
    replace Y := CellsAt.step (by first | with_reducible exact Y.drew | with_reducible exact Y) B
    replace H := Lib.hid (bl_trans (by first | with_reducible exact bl_drew1 H.out | with_reducible exact H.out) B)
    clear B
    clear hHeld
    go_wp2_with fail
    refine hK.out _ _ ⟨(by repeat (first | with_reducible exact X | with_reducible refine CellsAt.alloc ?_ _ | with_reducible refine CellsAt.drew ?_)), (by repeat (first | with_reducible exact Y | with_reducible refine CellsAt.alloc ?_ _ | with_reducible refine CellsAt.drew ?_))⟩ (fun hHeld => ?_)
    clear hK K
    try simp only [Act.put, List.getElem_toArray, List.getElem_cons_succ, List.getElem_cons_zero, List.setIfInBounds_toArray, List.set_cons_zero, List.set_cons_succ]
    refine wpAnyH_take (i := 5) (oi := _) (v := ?_) rfl (by kernel_rfl) (by kernel_rfl) (by kernel_rfl) (fun _ _ _ h => h) (Or.inl ⟨by rfl, ?_⟩) hHeld ?_
    rotate_left
    · intro w hSw
      try dsimp only at hSw
      go_simp
      all_goals with_reducible rfl
    try simp only [Act.put, List.getElem_toArray, List.getElem_cons_succ, List.getElem_cons_zero, List.setIfInBounds_toArray, List.set_cons_zero, List.set_cons_succ]
    refine wpAnyH_take (i := 6) (oi := _) (v := undef) rfl (by kernel_rfl) (by kernel_rfl) (by kernel_rfl) (fun _ _ _ h => h) (Or.inr ⟨by rfl, rfl⟩) hHeld ?_
    try simp only [Act.put, List.getElem_toArray, List.getElem_cons_succ, List.getElem_cons_zero, List.setIfInBounds_toArray, List.set_cons_zero, List.set_cons_succ]
    refine wpAnyH_take (i := 7) (oi := _) (v := undef) rfl (by kernel_rfl) (by kernel_rfl) (by kernel_rfl) (fun _ _ _ h => h) (Or.inr ⟨by rfl, rfl⟩) hHeld ?_
    try simp only [Act.put, List.getElem_toArray, List.getElem_cons_succ, List.getElem_cons_zero, List.setIfInBounds_toArray, List.set_cons_zero, List.set_cons_succ]
    refine wpAnyH_take (i := 8) (oi := _) (v := undef) rfl (by kernel_rfl) (by kernel_rfl) (by kernel_rfl) (fun _ _ _ h => h) (Or.inr ⟨by rfl, rfl⟩) hHeld ?_
    try simp only [Act.put, List.getElem_toArray, List.getElem_cons_succ, List.getElem_cons_zero, List.setIfInBounds_toArray, List.set_cons_zero, List.set_cons_succ]
    refine wpAnyH_take (i := 9) (oi := _) (v := ?_) rfl (by kernel_rfl) (by kernel_rfl) (by kernel_rfl) (fun _ _ _ h => h) (Or.inl ⟨by rfl, ?_⟩) hHeld ?_
    rotate_left
    · intro w hSw
      try dsimp only at hSw
      go_simp
      all_goals with_reducible rfl
    try simp only [Act.put, List.getElem_toArray, List.getElem_cons_succ, List.getElem_cons_zero, List.setIfInBounds_toArray, List.set_cons_zero, List.set_cons_succ]
    refine wpAnyH_take (i := 10) (oi := _) (v := ?_) rfl (by kernel_rfl) (by kernel_rfl) (by kernel_rfl) (fun _ _ _ h => h) (Or.inl ⟨by rfl, ?_⟩) hHeld ?_
    rotate_left
    · intro w hSw
      try dsimp only at hSw
      go_simp
      all_goals with_reducible rfl
    try simp only [Act.put, List.getElem_toArray, List.getElem_cons_succ, List.getElem_cons_zero, List.setIfInBounds_toArray, List.set_cons_zero, List.set_cons_succ]
    refine wpAnyH_ready (rs := [11]) (by kernel_rfl) (by simp) ?_
    apply AllReadyH.cons rfl ?_ AllReadyH.nil
    intro K hK
    go_simp
    refine hK.out _ _ ⟨(by repeat (first | with_reducible exact X | with_reducible refine CellsAt.alloc ?_ _ | with_reducible refine CellsAt.drew ?_)), (by repeat (first | with_reducible exact Y | with_reducible refine CellsAt.alloc ?_ _ | with_reducible refine CellsAt.drew ?_))⟩ (fun hHeld => ?_)
    clear hK K
    try simp only [Act.put, List.getElem_toArray, List.getElem_cons_succ, List.getElem_cons_zero, List.setIfInBounds_toArray, List.set_cons_zero, List.set_cons_succ]
    refine wpAnyH_done (by kernel_rfl) ?_ _
    go_wp2
    go_ret
    exact ⟨rfl, H.out⟩
  · rw [show inV 1 2 true = false by decide] at U
    replace U := Lib.hid U
    clear hv
    have Xc0 := X.cell 0 _ rfl
    have Xc1 := X.cell 1 _ rfl
    have Xc2 := X.cell 2 _ rfl
    have Xl := X.lt
    go_wp2_with fail
    refine (V.out _).mono ?_
    rintro e w2 ⟨rfl, B⟩
    replace X := X.step B
    replace H := Lib.hid (bl_trans H.out B)
    clear B
    clear Xc0 Xc1 Xc2 Xl
    have Xc0 := X.cell 0 _ rfl
    have Xc1 := X.cell 1 _ rfl
    have Xc2 := X.cell 2 _ rfl
    have Xl := X.lt
    go_wp2_with fail
    refine (S.out _).mono ?_
    rintro e w3 ⟨rfl, B⟩
    replace X := X.step B
    replace H := Lib.hid (bl_trans H.out B)
    clear B
    clear Xc0 Xc1 Xc2 Xl
    have Xc0 := X.cell 0 _ rfl
    have Xc1 := X.cell 1 _ rfl
    have Xc2 := X.cell 2 _ rfl
    have Xl := X.lt
    go_wp2_with fail
    clear Xc0 Xc1 Xc2 Xl
    have Y : CellsAt (w3.alloc (.cells #[.int .i64 1, .int .i64 2, .bool true] 24)) w3.heap.size (ins 1 2 true) := CellsAt.new _ _ _ _ rfl
    replace X := X.alloc (.cells #[.int .i64 1, .int .i64 2, .bool true] 24)
    replace H := Lib.hid (bl_alloc H.out (.cells #[.int .i64 1, .int .i64 2, .bool true] 24))
    refine wp_region_held_drew (S := fun w' => CellsAt w' w1.heap.size (ins 1 2 false) ∧ CellsAt w' w3.heap.size (ins 1 2 true)) (by kernel_rfl) ⟨(by repeat (first | with_reducible exact X | with_reducible refine CellsAt.alloc ?_ _ | with_reducible refine CellsAt.drew ?_)), (by repeat (first | with_reducible exact Y | with_reducible refine CellsAt.alloc ?_ _ | with_reducible refine CellsAt.drew ?_))⟩ (fun hHeld => ?_)
    refine wpAnyH_take (i := 0) (oi := _) (v := ?_) rfl (by kernel_rfl) (by kernel_rfl) (by kernel_rfl) (fun _ _ _ h => h) (Or.inl ⟨by rfl, ?_⟩) hHeld ?_
    rotate_left
    · intro w hSw
      have c0 := hSw.2.cell 0 _ rfl
      have c1 := hSw.2.cell 1 _ rfl
      have c2 := hSw.2.cell 2 _ rfl
      go_simp
      all_goals with_reducible rfl
    try simp only [Act.put, List.getElem_toArray, List.getElem_cons_zero, List.setIfInBounds_toArray, List.set_cons_zero, List.set_cons_succ]
    refine wpAnyH_take (i := 2) (oi := _) (v := ?_) rfl (by kernel_rfl) (by kernel_rfl) (by kernel_rfl) (fun _ _ _ h => h) (Or.inl ⟨by rfl, ?_⟩) hHeld ?_
    rotate_left
    · intro w hSw
      try dsimp only at hSw
      go_simp
      all_goals with_reducible rfl
    try simp only [Act.put, List.getElem_toArray, List.getElem_cons_succ, List.getElem_cons_zero, List.setIfInBounds_toArray, List.set_cons_zero, List.set_cons_succ]
    refine wpAnyH_take (i := 3) (oi := _) (v := ?_) rfl (by kernel_rfl) (by kernel_rfl) (by kernel_rfl) (fun _ _ _ h => h) (Or.inl ⟨by rfl, ?_⟩) hHeld ?_
    rotate_left
    · intro w hSw
      have c0 := hSw.1.cell 0 _ rfl
      go_simp
      all_goals with_reducible rfl
    try simp only [Act.put, List.getElem_toArray, List.getElem_cons_succ, List.getElem_cons_zero, List.setIfInBounds_toArray, List.set_cons_zero, List.set_cons_succ]
    refine wpAnyH_take (i := 4) (oi := _) (v := ?_) rfl (by kernel_rfl) (by kernel_rfl) (by kernel_rfl) (fun _ _ _ h => h) (Or.inl ⟨by rfl, ?_⟩) hHeld ?_
    rotate_left
    · intro w hSw
      try dsimp only at hSw
      go_simp
      all_goals with_reducible rfl
    try simp only [Act.put, List.getElem_toArray, List.getElem_cons_succ, List.getElem_cons_zero, List.setIfInBounds_toArray, List.set_cons_zero, List.set_cons_succ]
    refine wpAnyH_ready (rs := [1]) (by kernel_rfl) (by simp) ?_
    apply AllReadyH.cons rfl ?_ AllReadyH.nil
    intro K hK
    go_simp
    go_at_call 19
    refine (U.out _).mono ?_
    rintro e w4 ⟨rfl, B⟩
    replace X := CellsAt.step (by first | with_reducible exact X.drew | with_reducible exact X) B
    replace Y := CellsAt.step (by first | with_reducible exact Y.drew | with_reducible exact Y) B
    replace H := Lib.hid (bl_trans (by first | with_reducible exact bl_drew1 H.out | with_reducible exact H.out) B)
    clear B
    clear hHeld
    go_wp2_with fail
    refine hK.out _ _ ⟨(by repeat (first | with_reducible exact X | with_reducible refine CellsAt.alloc ?_ _ | with_reducible refine CellsAt.drew ?_)), (by repeat (first | with_reducible exact Y | with_reducible refine CellsAt.alloc ?_ _ | with_reducible refine CellsAt.drew ?_))⟩ (fun hHeld => ?_)
    clear hK K
    try simp only [Act.put, List.getElem_toArray, List.getElem_cons_succ, List.getElem_cons_zero, List.setIfInBounds_toArray, List.set_cons_zero, List.set_cons_succ]
    refine wpAnyH_take (i := 5) (oi := _) (v := ?_) rfl (by kernel_rfl) (by kernel_rfl) (by kernel_rfl) (fun _ _ _ h => h) (Or.inl ⟨by rfl, ?_⟩) hHeld ?_
    rotate_left
    · intro w hSw
      try dsimp only at hSw
      go_simp
      all_goals with_reducible rfl
    try simp only [Act.put, List.getElem_toArray, List.getElem_cons_succ, List.getElem_cons_zero, List.setIfInBounds_toArray, List.set_cons_zero, List.set_cons_succ]
    refine wpAnyH_take (i := 6) (oi := _) (v := undef) rfl (by kernel_rfl) (by kernel_rfl) (by kernel_rfl) (fun _ _ _ h => h) (Or.inr ⟨by rfl, rfl⟩) hHeld ?_
    try simp only [Act.put, List.getElem_toArray, List.getElem_cons_succ, List.getElem_cons_zero, List.setIfInBounds_toArray, List.set_cons_zero, List.set_cons_succ]
    refine wpAnyH_take (i := 7) (oi := _) (v := undef) rfl (by kernel_rfl) (by kernel_rfl) (by kernel_rfl) (fun _ _ _ h => h) (Or.inr ⟨by rfl, rfl⟩) hHeld ?_
    try simp only [Act.put, List.getElem_toArray, List.getElem_cons_succ, List.getElem_cons_zero, List.setIfInBounds_toArray, List.set_cons_zero, List.set_cons_succ]
    refine wpAnyH_take (i := 8) (oi := _) (v := undef) rfl (by kernel_rfl) (by kernel_rfl) (by kernel_rfl) (fun _ _ _ h => h) (Or.inr ⟨by rfl, rfl⟩) hHeld ?_
    try simp only [Act.put, List.getElem_toArray, List.getElem_cons_succ, List.getElem_cons_zero, List.setIfInBounds_toArray, List.set_cons_zero, List.set_cons_succ]
    refine wpAnyH_take (i := 9) (oi := _) (v := ?_) rfl (by kernel_rfl) (by kernel_rfl) (by kernel_rfl) (fun _ _ _ h => h) (Or.inl ⟨by rfl, ?_⟩) hHeld ?_
    rotate_left
    · intro w hSw
      try dsimp only at hSw
      go_simp
      all_goals with_reducible rfl
    try simp only [Act.put, List.getElem_toArray, List.getElem_cons_succ, List.getElem_cons_zero, List.setIfInBounds_toArray, List.set_cons_zero, List.set_cons_succ]
    refine wpAnyH_take (i := 10) (oi := _) (v := ?_) rfl (by kernel_rfl) (by kernel_rfl) (by kernel_rfl) (fun _ _ _ h => h) (Or.inl ⟨by rfl, ?_⟩) hHeld ?_
    rotate_left
    · intro w hSw
      try dsimp only at hSw
      go_simp
      all_goals with_reducible rfl
    try simp only [Act.put, List.getElem_toArray, List.getElem_cons_succ, List.getElem_cons_zero, List.setIfInBounds_toArray, List.set_cons_zero, List.set_cons_succ]
    refine wpAnyH_ready (rs := [11]) (by kernel_rfl) (by simp) ?_
    apply AllReadyH.cons rfl ?_ AllReadyH.nil
    intro K hK
    go_simp
    refine hK.out _ _ ⟨(by repeat (first | with_reducible exact X | with_reducible refine CellsAt.alloc ?_ _ | with_reducible refine CellsAt.drew ?_)), (by repeat (first | with_reducible exact Y | with_reducible refine CellsAt.alloc ?_ _ | with_reducible refine CellsAt.drew ?_))⟩ (fun hHeld => ?_)
    clear hK K
    try simp only [Act.put, List.getElem_toArray, List.getElem_cons_succ, List.getElem_cons_zero, List.setIfInBounds_toArray, List.set_cons_zero, List.set_cons_succ]
    refine wpAnyH_done (by kernel_rfl) ?_ _
    go_wp2
    go_ret
    exact ⟨rfl, H.out⟩

end Go.Proofs.Ytagbeneapmpooaa
