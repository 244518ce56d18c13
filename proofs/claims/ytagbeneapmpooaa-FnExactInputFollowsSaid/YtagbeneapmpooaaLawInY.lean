/-
  The walk of the exact law of InputFollows.
-/
import Derived.Test.YtagbeneapmpooaaInImpl
import Derived.Test.YtagbeneapmpooaaToIn
import Derived.Test.YtagbeneapmpooaaLawLevX
namespace Go.Proofs.Ytagbeneapmpooaa
open Go.RowKit
open M

set_option maxRecDepth 100000 in
set_option maxHeartbeats 4000000 in
theorem walk_FnExactInputFollows (i t x y : Int) (A : Option Addr) (n c : Nat) (G : Option Addr) (m kk : Nat) (p q s z b : Int) (ws gs : List Bx) (s1 p1 : Int) (z1 : Bool) (s2 p2 : Int) (z2 : Bool) (w : World) (I : Boxes w A n ws) (J : Boxes w G m gs) (hN0 : n ≤ 9223372036854775807) (hM0 : m ≤ 9223372036854775807) :
    Calls Try.prog 13 #[lev i t x y A n c G m kk p q s z b, inp s1 p1 z1, inp s2 p2 z2] w fun e w' => e = .returned (.bool true) ∧ Below w.heap.size w w' := by
  have I := Lib.hid I
  have J := Lib.hid J
  by_cases big : 1048576 < n + m
  · have C := Lib.hid (fun W => szLev_no i t x y A n c G m kk p q s z b W big hN0 hM0)
    go_enter Try.func13, Try.ntmps13
    go_wp2_with fail
    refine (C.out _).mono ?_
    rintro e w1 ⟨rfl, B⟩
    have H := Lib.hid (bl_trans (bl_alloc (bl_alloc (bl_alloc (bl_refl w) _) _) _) B)
    clear B
    go_wp2
    go_ret
    exact ⟨rfl, H.out⟩
  have C := Lib.hid (fun W => szLev_ok i t x y A n c G m kk p q s z b W (by omega))
  have h1 : n ≤ 1048576 := by omega
  have h2 : m ≤ 1048576 := by omega
  have g0 : (0 : Int) ≤ 1048576 - n - m := by omega
  have hN : n ≤ 281474976710656 := by omega
  have hM : m ≤ 281474976710656 := by omega
  clear big hN0 hM0
  go_enter Try.func13, Try.ntmps13
  go_wp2_with fail
  refine (C.out _).mono ?_
  rintro e w1 ⟨rfl, B⟩
  have P : CellsAt w1 w.heap.size (lvs i t x y A n c G m kk p q s z b) := (((CellsAt.new w _ _ _ rfl).alloc _).alloc _).step B
  have Q : CellsAt w1 (w.heap.size + 1) (ins s1 p1 z1) := ((CellsAt.new _ _ _ _ (by simp)).alloc _).step B
  have Y : CellsAt w1 (w.heap.size + 1 + 1) (ins s2 p2 z2) := (CellsAt.new _ _ _ _ (by simp)).step B
  replace I := Lib.hid ((((I.out.alloc _).alloc _).alloc _).step B)
  replace J := Lib.hid ((((J.out.alloc _).alloc _).alloc _).step B)
  have H := Lib.hid (bl_trans (bl_alloc (bl_alloc (bl_alloc (bl_refl w) _) _) _) B)
  clear B C
  have Pc0 := P.cell 0 _ rfl
  have Pc1 := P.cell 1 _ rfl
  have Pc2 := P.cell 2 _ rfl
  have Pc3 := P.cell 3 _ rfl
  have Pc4 := P.cell 4 _ rfl
  have Pc5 := P.cell 5 _ rfl
  have Pc6 := P.cell 6 _ rfl
  have Pc7 := P.cell 7 _ rfl
  have Pc8 := P.cell 8 _ rfl
  have Pc9 := P.cell 9 _ rfl
  have Pc10 := P.cell 10 _ rfl
  have Pl := P.lt
  have Qc0 := Q.cell 0 _ rfl
  have Qc1 := Q.cell 1 _ rfl
  have Qc2 := Q.cell 2 _ rfl
  have Ql := Q.lt
  have Yc0 := Y.cell 0 _ rfl
  have Yc1 := Y.cell 1 _ rfl
  have Yc2 := Y.cell 2 _ rfl
  have Yl := Y.lt
  go_wp2_with fail
  clear Pc0 Pc1 Pc2 Pc3 Pc4 Pc5 Pc6 Pc7 Pc8 Pc9 Pc10 Pl Qc0 Qc1 Qc2 Ql Yc0 Yc1 Yc2 Yl
  refine wp_region_held_drew (S := fun w' => CellsAt w' w.heap.size (lvs i t x y A n c G m kk p q s z b) ∧ CellsAt w' (w.heap.size + 1) (ins s1 p1 z1) ∧ CellsAt w' (w.heap.size + 1 + 1) (ins s2 p2 z2)) (by kernel_rfl) ⟨(by repeat (first | with_reducible exact P | with_reducible refine CellsAt.alloc ?_ _ | with_reducible refine CellsAt.drew ?_)), (by repeat (first | with_reducible exact Q | with_reducible refine CellsAt.alloc ?_ _ | with_reducible refine CellsAt.drew ?_)), (by repeat (first | with_reducible exact Y | with_reducible refine CellsAt.alloc ?_ _ | with_reducible refine CellsAt.drew ?_))⟩ (fun hHeld => ?_)
  refine wpAnyH_take (i := 0) (oi := _) (v := .agg (lvs i t x y A n c G m kk p q s z b).toArray) rfl (by kernel_rfl) (by kernel_rfl) (by kernel_rfl) (fun _ _ _ h => h) (yieldsIf_load_mid (by rfl) 55 (.tmp 3) rfl w.heap.size 0 rfl (lvs i t x y A n c G m kk p q s z b) _ (fun W hS => hS.1.range) Try.underlying55 rfl lawlevel_size) hHeld ?_
  try simp only [Act.put, List.getElem_toArray, List.getElem_cons_zero, List.setIfInBounds_toArray, List.set_cons_zero, List.set_cons_succ]
  refine wpAnyH_take (i := 2) (oi := _) (v := .agg (ins s1 p1 z1).toArray) rfl (by kernel_rfl) (by kernel_rfl) (by kernel_rfl) (fun _ _ _ h => h) (yieldsIf_load_mid (by rfl) 45 (.tmp 4) rfl (w.heap.size + 1) 0 rfl (ins s1 p1 z1) _ (fun W hS => hS.2.1.range) Try.underlying45 rfl lawin_size) hHeld ?_
  try simp only [Act.put, List.getElem_toArray, List.getElem_cons_succ, List.getElem_cons_zero, List.setIfInBounds_toArray, List.set_cons_zero, List.set_cons_succ]
  refine wpAnyH_take (i := 4) (oi := _) (v := .agg (ins s2 p2 z2).toArray) rfl (by kernel_rfl) (by kernel_rfl) (by kernel_rfl) (fun _ _ _ h => h) (yieldsIf_load_mid (by rfl) 45 (.tmp 5) rfl (w.heap.size + 1 + 1) 0 rfl (ins s2 p2 z2) _ (fun W hS => hS.2.2.range) Try.underlying45 rfl lawin_size) hHeld ?_
  try simp only [Act.put, List.getElem_toArray, List.getElem_cons_succ, List.getElem_cons_zero, List.setIfInBounds_toArray, List.set_cons_zero, List.set_cons_succ]
  refine wpAnyH_ready (rs := [1]) (by kernel_rfl) (by simp) ?_
  apply AllReadyH.cons rfl ?_ AllReadyH.nil
  intro K hK
  go_simp
  go_at_call 32
  refine (toLevel_any i t x y A n c G m kk p q s z b ws gs _ (by first | with_reducible exact I.out.drew | with_reducible exact I.out) (by first | with_reducible exact J.out.drew | with_reducible exact J.out) h1 h2).mono ?_
  rintro e w2 ⟨u1, v1, rfl, I1, J1, B⟩
  replace P := CellsAt.step (by first | with_reducible exact P.drew | with_reducible exact P) B
  replace Q := CellsAt.step (by first | with_reducible exact Q.drew | with_reducible exact Q) B
  replace Y := CellsAt.step (by first | with_reducible exact Y.drew | with_reducible exact Y) B
  replace I := Lib.hid (Boxes.step (by first | with_reducible exact I.out.drew | with_reducible exact I.out) B)
  replace J := Lib.hid (Boxes.step (by first | with_reducible exact J.out.drew | with_reducible exact J.out) B)
  replace H := Lib.hid (bl_trans (by first | with_reducible exact bl_drew1 H.out | with_reducible exact H.out) B)
  clear B
  replace I1 := Lib.hid I1
  replace J1 := Lib.hid J1
  clear hHeld
  go_wp2_with fail
  refine hK.out _ _ ⟨(by repeat (first | with_reducible exact P | with_reducible refine CellsAt.alloc ?_ _ | with_reducible refine CellsAt.drew ?_)), (by repeat (first | with_reducible exact Q | with_reducible refine CellsAt.alloc ?_ _ | with_reducible refine CellsAt.drew ?_)), (by repeat (first | with_reducible exact Y | with_reducible refine CellsAt.alloc ?_ _ | with_reducible refine CellsAt.drew ?_))⟩ (fun hHeld => ?_)
  clear hK K
  try simp only [Act.put, List.getElem_toArray, List.getElem_cons_succ, List.getElem_cons_zero, List.setIfInBounds_toArray, List.set_cons_zero, List.set_cons_succ]
  refine wpAnyH_ready (rs := [3]) (by kernel_rfl) (by simp) ?_
  apply AllReadyH.cons rfl ?_ AllReadyH.nil
  intro K hK
  go_simp
  go_at_call 29
  refine (toInput_any s1 p1 z1 _).mono ?_
  rintro e w3 ⟨rfl, B⟩
  replace P := CellsAt.step (by first | with_reducible exact P.drew | with_reducible exact P) B
  replace Q := CellsAt.step (by first | with_reducible exact Q.drew | with_reducible exact Q) B
  replace Y := CellsAt.step (by first | with_reducible exact Y.drew | with_reducible exact Y) B
  replace I := Lib.hid (Boxes.step (by first | with_reducible exact I.out.drew | with_reducible exact I.out) B)
  replace J := Lib.hid (Boxes.step (by first | with_reducible exact J.out.drew | with_reducible exact J.out) B)
  replace I1 := Lib.hid (Boxes.step (by first | with_reducible exact I1.out.drew | with_reducible exact I1.out) B)
  replace J1 := Lib.hid (Boxes.step (by first | with_reducible exact J1.out.drew | with_reducible exact J1.out) B)
  replace H := Lib.hid (bl_trans (by first | with_reducible exact bl_drew1 H.out | with_reducible exact H.out) B)
  clear B
  clear hHeld
  go_wp2_with fail
  refine hK.out _ _ ⟨(by repeat (first | with_reducible exact P | with_reducible refine CellsAt.alloc ?_ _ | with_reducible refine CellsAt.drew ?_)), (by repeat (first | with_reducible exact Q | with_reducible refine CellsAt.alloc ?_ _ | with_reducible refine CellsAt.drew ?_)), (by repeat (first | with_reducible exact Y | with_reducible refine CellsAt.alloc ?_ _ | with_reducible refine CellsAt.drew ?_))⟩ (fun hHeld => ?_)
  clear hK K
  try simp only [Act.put, List.getElem_toArray, List.getElem_cons_succ, List.getElem_cons_zero, List.setIfInBounds_toArray, List.set_cons_zero, List.set_cons_succ]
  refine wpAnyH_ready (rs := [5]) (by kernel_rfl) (by simp) ?_
  apply AllReadyH.cons rfl ?_ AllReadyH.nil
  intro K hK
  go_simp
  go_at_call 29
  refine (toInput_any s2 p2 z2 _).mono ?_
  rintro e w4 ⟨rfl, B⟩
  replace P := CellsAt.step (by first | with_reducible exact P.drew | with_reducible exact P) B
  replace Q := CellsAt.step (by first | with_reducible exact Q.drew | with_reducible exact Q) B
  replace Y := CellsAt.step (by first | with_reducible exact Y.drew | with_reducible exact Y) B
  replace I := Lib.hid (Boxes.step (by first | with_reducible exact I.out.drew | with_reducible exact I.out) B)
  replace J := Lib.hid (Boxes.step (by first | with_reducible exact J.out.drew | with_reducible exact J.out) B)
  replace I1 := Lib.hid (Boxes.step (by first | with_reducible exact I1.out.drew | with_reducible exact I1.out) B)
  replace J1 := Lib.hid (Boxes.step (by first | with_reducible exact J1.out.drew | with_reducible exact J1.out) B)
  replace H := Lib.hid (bl_trans (by first | with_reducible exact bl_drew1 H.out | with_reducible exact H.out) B)
  clear B
  clear hHeld
  go_wp2_with fail
  refine hK.out _ _ ⟨(by repeat (first | with_reducible exact P | with_reducible refine CellsAt.alloc ?_ _ | with_reducible refine CellsAt.drew ?_)), (by repeat (first | with_reducible exact Q | with_reducible refine CellsAt.alloc ?_ _ | with_reducible refine CellsAt.drew ?_)), (by repeat (first | with_reducible exact Y | with_reducible refine CellsAt.alloc ?_ _ | with_reducible refine CellsAt.drew ?_))⟩ (fun hHeld => ?_)
  clear hK K
  try simp only [Act.put, List.getElem_toArray, List.getElem_cons_succ, List.getElem_cons_zero, List.setIfInBounds_toArray, List.set_cons_zero, List.set_cons_succ]
  refine wpAnyH_ready (rs := [6]) (by kernel_rfl) (by simp) ?_
  apply AllReadyH.cons rfl ?_ AllReadyH.nil
  intro K hK
  go_simp
  go_at_call 26
  refine (specIFol i t x y (some ⟨u1, 0, none⟩) n n (some ⟨v1, 0, none⟩) m m p q s z b ws gs s1 p1 z1 s2 p2 z2 _ I1.out J1.out hN hM).mono ?_
  rintro e w5 ⟨rfl, B⟩
  replace P := CellsAt.step (by first | with_reducible exact P.drew | with_reducible exact P) B
  replace Q := CellsAt.step (by first | with_reducible exact Q.drew | with_reducible exact Q) B
  replace Y := CellsAt.step (by first | with_reducible exact Y.drew | with_reducible exact Y) B
  replace I := Lib.hid (Boxes.step (by first | with_reducible exact I.out.drew | with_reducible exact I.out) B)
  replace J := Lib.hid (Boxes.step (by first | with_reducible exact J.out.drew | with_reducible exact J.out) B)
  replace H := Lib.hid (bl_trans (by first | with_reducible exact bl_drew1 H.out | with_reducible exact H.out) B)
  clear B
  clear I1 J1
  clear hHeld
  go_wp2_with fail
  refine hK.out _ _ ⟨(by repeat (first | with_reducible exact P | with_reducible refine CellsAt.alloc ?_ _ | with_reducible refine CellsAt.drew ?_)), (by repeat (first | with_reducible exact Q | with_reducible refine CellsAt.alloc ?_ _ | with_reducible refine CellsAt.drew ?_)), (by repeat (first | with_reducible exact Y | with_reducible refine CellsAt.alloc ?_ _ | with_reducible refine CellsAt.drew ?_))⟩ (fun hHeld => ?_)
  clear hK K
  try simp only [Act.put, List.getElem_toArray, List.getElem_cons_succ, List.getElem_cons_zero, List.setIfInBounds_toArray, List.set_cons_zero, List.set_cons_succ]
  refine wpAnyH_ready (rs := [7]) (by kernel_rfl) (by simp) ?_
  apply AllReadyH.cons rfl ?_ AllReadyH.nil
  intro K hK
  go_simp
  refine hK.out _ _ ⟨(by repeat (first | with_reducible exact P | with_reducible refine CellsAt.alloc ?_ _ | with_reducible refine CellsAt.drew ?_)), (by repeat (first | with_reducible exact Q | with_reducible refine CellsAt.alloc ?_ _ | with_reducible refine CellsAt.drew ?_)), (by repeat (first | with_reducible exact Y | with_reducible refine CellsAt.alloc ?_ _ | with_reducible refine CellsAt.drew ?_))⟩ (fun hHeld => ?_)
  clear hK K
  try simp only [Act.put, List.getElem_toArray, List.getElem_cons_succ, List.getElem_cons_zero, List.setIfInBounds_toArray, List.set_cons_zero, List.set_cons_succ]
  refine wpAnyH_done (by kernel_rfl) ?_ _
  have Pc0 := P.cell 0 _ rfl
  have Pc1 := P.cell 1 _ rfl
  have Pc2 := P.cell 2 _ rfl
  have Pc3 := P.cell 3 _ rfl
  have Pc4 := P.cell 4 _ rfl
  have Pc5 := P.cell 5 _ rfl
  have Pc6 := P.cell 6 _ rfl
  have Pc7 := P.cell 7 _ rfl
  have Pc8 := P.cell 8 _ rfl
  have Pc9 := P.cell 9 _ rfl
  have Pc10 := P.cell 10 _ rfl
  have Pl := P.lt
  have Qc0 := Q.cell 0 _ rfl
  have Qc1 := Q.cell 1 _ rfl
  have Qc2 := Q.cell 2 _ rfl
  have Ql := Q.lt
  have Yc0 := Y.cell 0 _ rfl
  have Yc1 := Y.cell 1 _ rfl
  have Yc2 := Y.cell 2 _ rfl
  have Yl := Y.lt
  go_wp2_with fail
  refine (toLevel_any i t x y A n c G m kk p q s z b ws gs _ I.out J.out h1 h2).mono ?_
  rintro e w6 ⟨u2, v2, rfl, I2, J2, B⟩
  clear Pc0 Pc1 Pc2 Pc3 Pc4 Pc5 Pc6 Pc7 Pc8 Pc9 Pc10 Pl Qc0 Qc1 Qc2 Ql Yc0 Yc1 Yc2 Yl
  replace P := P.step B
  replace Q := Q.step B
  replace Y := Y.step B
  replace I := Lib.hid (I.out.step B)
  replace J := Lib.hid (J.out.step B)
  replace H := Lib.hid (bl_trans H.out B)
  clear B
  replace I2 := Lib.hid I2
  replace J2 := Lib.hid J2
  have X : CellsAt (w6.alloc (.cells #[.int .i64 i, .int .i64 t, .int .i64 x, .int .i64 y, .slice (some ⟨u2, 0, none⟩) n n, .slice (some ⟨v2, 0, none⟩) m m, .int .i64 p, .int .i64 q, .int .i64 s, .int .i64 z, .int .i64 b] 38)) w6.heap.size (lvs i t x y (some ⟨u2, 0, none⟩) n n (some ⟨v2, 0, none⟩) m m p q s z b) := CellsAt.new _ _ _ _ rfl
  replace P := P.alloc (.cells #[.int .i64 i, .int .i64 t, .int .i64 x, .int .i64 y, .slice (some ⟨u2, 0, none⟩) n n, .slice (some ⟨v2, 0, none⟩) m m, .int .i64 p, .int .i64 q, .int .i64 s, .int .i64 z, .int .i64 b] 38)
  replace Q := Q.alloc (.cells #[.int .i64 i, .int .i64 t, .int .i64 x, .int .i64 y, .slice (some ⟨u2, 0, none⟩) n n, .slice (some ⟨v2, 0, none⟩) m m, .int .i64 p, .int .i64 q, .int .i64 s, .int .i64 z, .int .i64 b] 38)
  replace Y := Y.alloc (.cells #[.int .i64 i, .int .i64 t, .int .i64 x, .int .i64 y, .slice (some ⟨u2, 0, none⟩) n n, .slice (some ⟨v2, 0, none⟩) m m, .int .i64 p, .int .i64 q, .int .i64 s, .int .i64 z, .int .i64 b] 38)
  replace I := Lib.hid (I.out.alloc (.cells #[.int .i64 i, .int .i64 t, .int .i64 x, .int .i64 y, .slice (some ⟨u2, 0, none⟩) n n, .slice (some ⟨v2, 0, none⟩) m m, .int .i64 p, .int .i64 q, .int .i64 s, .int .i64 z, .int .i64 b] 38))
  replace J := Lib.hid (J.out.alloc (.cells #[.int .i64 i, .int .i64 t, .int .i64 x, .int .i64 y, .slice (some ⟨u2, 0, none⟩) n n, .slice (some ⟨v2, 0, none⟩) m m, .int .i64 p, .int .i64 q, .int .i64 s, .int .i64 z, .int .i64 b] 38))
  replace I2 := Lib.hid (I2.out.alloc (.cells #[.int .i64 i, .int .i64 t, .int .i64 x, .int .i64 y, .slice (some ⟨u2, 0, none⟩) n n, .slice (some ⟨v2, 0, none⟩) m m, .int .i64 p, .int .i64 q, .int .i64 s, .int .i64 z, .int .i64 b] 38))
  replace J2 := Lib.hid (J2.out.alloc (.cells #[.int .i64 i, .int .i64 t, .int .i64 x, .int .i64 y, .slice (some ⟨u2, 0, none⟩) n n, .slice (some ⟨v2, 0, none⟩) m m, .int .i64 p, .int .i64 q, .int .i64 s, .int .i64 z, .int .i64 b] 38))
  replace H := Lib.hid (bl_alloc H.out (.cells #[.int .i64 i, .int .i64 t, .int .i64 x, .int .i64 y, .slice (some ⟨u2, 0, none⟩) n n, .slice (some ⟨v2, 0, none⟩) m m, .int .i64 p, .int .i64 q, .int .i64 s, .int .i64 z, .int .i64 b] 38))
  have Pc0 := P.cell 0 _ rfl
  have Pc1 := P.cell 1 _ rfl
  have Pc2 := P.cell 2 _ rfl
  have Pc3 := P.cell 3 _ rfl
  have Pc4 := P.cell 4 _ rfl
  have Pc5 := P.cell 5 _ rfl
  have Pc6 := P.cell 6 _ rfl
  have Pc7 := P.cell 7 _ rfl
  have Pc8 := P.cell 8 _ rfl
  have Pc9 := P.cell 9 _ rfl
  have Pc10 := P.cell 10 _ rfl
  have Pl := P.lt
  have Qc0 := Q.cell 0 _ rfl
  have Qc1 := Q.cell 1 _ rfl
  have Qc2 := Q.cell 2 _ rfl
  have Ql := Q.lt
  have Yc0 := Y.cell 0 _ rfl
  have Yc1 := Y.cell 1 _ rfl
  have Yc2 := Y.cell 2 _ rfl
  have Yl := Y.lt
  have Xc0 := X.cell 0 _ rfl
  have Xc1 := X.cell 1 _ rfl
  have Xc2 := X.cell 2 _ rfl
  have Xc3 := X.cell 3 _ rfl
  have Xc4 := X.cell 4 _ rfl
  have Xc5 := X.cell 5 _ rfl
  have Xc6 := X.cell 6 _ rfl
  have Xc7 := X.cell 7 _ rfl
  have Xc8 := X.cell 8 _ rfl
  have Xc9 := X.cell 9 _ rfl
  have Xc10 := X.cell 10 _ rfl
  have Xl := X.lt
  go_wp2_with fail
  clear Pc0 Pc1 Pc2 Pc3 Pc4 Pc5 Pc6 Pc7 Pc8 Pc9 Pc10 Pl Qc0 Qc1 Qc2 Ql Yc0 Yc1 Yc2 Yl Xc0 Xc1 Xc2 Xc3 Xc4 Xc5 Xc6 Xc7 Xc8 Xc9 Xc10 Xl
  refine wp_region_held_drew (S := fun w' => CellsAt w' w6.heap.size (lvs i t x y (some ⟨u2, 0, none⟩) n n (some ⟨v2, 0, none⟩) m m p q s z b) ∧ CellsAt w' (w.heap.size + 1) (ins s1 p1 z1) ∧ CellsAt w' (w.heap.size + 1 + 1) (ins s2 p2 z2)) (by kernel_rfl) ⟨(by repeat (first | with_reducible exact X | with_reducible refine CellsAt.alloc ?_ _ | with_reducible refine CellsAt.drew ?_)), (by repeat (first | with_reducible exact Q | with_reducible refine CellsAt.alloc ?_ _ | with_reducible refine CellsAt.drew ?_)), (by repeat (first | with_reducible exact Y | with_reducible refine CellsAt.alloc ?_ _ | with_reducible refine CellsAt.drew ?_))⟩ (fun hHeld => ?_)
  refine wpAnyH_take (i := 0) (oi := _) (v := .agg (lvs i t x y (some ⟨u2, 0, none⟩) n n (some ⟨v2, 0, none⟩) m m p q s z b).toArray) rfl (by kernel_rfl) (by kernel_rfl) (by kernel_rfl) (fun _ _ _ h => h) (yieldsIf_load_mid (by rfl) 38 (.tmp 9) rfl w6.heap.size 0 rfl (lvs i t x y (some ⟨u2, 0, none⟩) n n (some ⟨v2, 0, none⟩) m m p q s z b) _ (fun W hS => hS.1.range) Try.underlying38 rfl level_size) hHeld ?_
  try simp only [Act.put, List.getElem_toArray, List.getElem_cons_zero, List.setIfInBounds_toArray, List.set_cons_zero, List.set_cons_succ]
  refine wpAnyH_take (i := 1) (oi := _) (v := .agg (ins s1 p1 z1).toArray) rfl (by kernel_rfl) (by kernel_rfl) (by kernel_rfl) (fun _ _ _ h => h) (yieldsIf_load_mid (by rfl) 45 (.tmp 4) rfl (w.heap.size + 1) 0 rfl (ins s1 p1 z1) _ (fun W hS => hS.2.1.range) Try.underlying45 rfl lawin_size) hHeld ?_
  try simp only [Act.put, List.getElem_toArray, List.getElem_cons_succ, List.getElem_cons_zero, List.setIfInBounds_toArray, List.set_cons_zero, List.set_cons_succ]
  refine wpAnyH_take (i := 3) (oi := _) (v := .agg (ins s2 p2 z2).toArray) rfl (by kernel_rfl) (by kernel_rfl) (by kernel_rfl) (fun _ _ _ h => h) (yieldsIf_load_mid (by rfl) 45 (.tmp 5) rfl (w.heap.size + 1 + 1) 0 rfl (ins s2 p2 z2) _ (fun W hS => hS.2.2.range) Try.underlying45 rfl lawin_size) hHeld ?_
  try simp only [Act.put, List.getElem_toArray, List.getElem_cons_succ, List.getElem_cons_zero, List.setIfInBounds_toArray, List.set_cons_zero, List.set_cons_succ]
  refine wpAnyH_ready (rs := [2]) (by kernel_rfl) (by simp) ?_
  apply AllReadyH.cons rfl ?_ AllReadyH.nil
  intro K hK
  go_simp
  go_at_call 29
  refine (toInput_any s1 p1 z1 _).mono ?_
  rintro e w7 ⟨rfl, B⟩
  replace P := CellsAt.step (by first | with_reducible exact P.drew | with_reducible exact P) B
  replace Q := CellsAt.step (by first | with_reducible exact Q.drew | with_reducible exact Q) B
  replace Y := CellsAt.step (by first | with_reducible exact Y.drew | with_reducible exact Y) B
  replace X := CellsAt.step (by first | with_reducible exact X.drew | with_reducible exact X) B
  replace I := Lib.hid (Boxes.step (by first | with_reducible exact I.out.drew | with_reducible exact I.out) B)
  replace J := Lib.hid (Boxes.step (by first | with_reducible exact J.out.drew | with_reducible exact J.out) B)
  replace I2 := Lib.hid (Boxes.step (by first | with_reducible exact I2.out.drew | with_reducible exact I2.out) B)
  replace J2 := Lib.hid (Boxes.step (by first | with_reducible exact J2.out.drew | with_reducible exact J2.out) B)
  replace H := Lib.hid (bl_trans (by first | with_reducible exact bl_drew1 H.out | with_reducible exact H.out) B)
  clear B
  clear hHeld
  go_wp2_with fail
  refine hK.out _ _ ⟨(by repeat (first | with_reducible exact X | with_reducible refine CellsAt.alloc ?_ _ | with_reducible refine CellsAt.drew ?_)), (by repeat (first | with_reducible exact Q | with_reducible refine CellsAt.alloc ?_ _ | with_reducible refine CellsAt.drew ?_)), (by repeat (first | with_reducible exact Y | with_reducible refine CellsAt.alloc ?_ _ | with_reducible refine CellsAt.drew ?_))⟩ (fun hHeld => ?_)
  clear hK K
  try simp only [Act.put, List.getElem_toArray, List.getElem_cons_succ, List.getElem_cons_zero, List.setIfInBounds_toArray, List.set_cons_zero, List.set_cons_succ]
  refine wpAnyH_ready (rs := [4]) (by kernel_rfl) (by simp) ?_
  apply AllReadyH.cons rfl ?_ AllReadyH.nil
  intro K hK
  go_simp
  go_at_call 29
  refine (toInput_any s2 p2 z2 _).mono ?_
  rintro e w8 ⟨rfl, B⟩
  replace P := CellsAt.step (by first | with_reducible exact P.drew | with_reducible exact P) B
  replace Q := CellsAt.step (by first | with_reducible exact Q.drew | with_reducible exact Q) B
  replace Y := CellsAt.step (by first | with_reducible exact Y.drew | with_reducible exact Y) B
  replace X := CellsAt.step (by first | with_reducible exact X.drew | with_reducible exact X) B
  replace I := Lib.hid (Boxes.step (by first | with_reducible exact I.out.drew | with_reducible exact I.out) B)
  replace J := Lib.hid (Boxes.step (by first | with_reducible exact J.out.drew | with_reducible exact J.out) B)
  replace I2 := Lib.hid (Boxes.step (by first | with_reducible exact I2.out.drew | with_reducible exact I2.out) B)
  replace J2 := Lib.hid (Boxes.step (by first | with_reducible exact J2.out.drew | with_reducible exact J2.out) B)
  replace H := Lib.hid (bl_trans (by first | with_reducible exact bl_drew1 H.out | with_reducible exact H.out) B)
  clear B
  clear hHeld
  go_wp2_with fail
  refine hK.out _ _ ⟨(by repeat (first | with_reducible exact X | with_reducible refine CellsAt.alloc ?_ _ | with_reducible refine CellsAt.drew ?_)), (by repeat (first | with_reducible exact Q | with_reducible refine CellsAt.alloc ?_ _ | with_reducible refine CellsAt.drew ?_)), (by repeat (first | with_reducible exact Y | with_reducible refine CellsAt.alloc ?_ _ | with_reducible refine CellsAt.drew ?_))⟩ (fun hHeld => ?_)
  clear hK K
  try simp only [Act.put, List.getElem_toArray, List.getElem_cons_succ, List.getElem_cons_zero, List.setIfInBounds_toArray, List.set_cons_zero, List.set_cons_succ]
  refine wpAnyH_ready (rs := [5]) (by kernel_rfl) (by simp) ?_
  apply AllReadyH.cons rfl ?_ AllReadyH.nil
  intro K hK
  go_simp
  go_at_call 25
  refine (implIFol i t x y (some ⟨u2, 0, none⟩) n n (some ⟨v2, 0, none⟩) m m p q s z b ws gs s1 p1 z1 s2 p2 z2 _ I2.out J2.out hN hM).mono ?_
  rintro e w9 ⟨rfl, B⟩
  replace P := CellsAt.step (by first | with_reducible exact P.drew | with_reducible exact P) B
  replace Q := CellsAt.step (by first | with_reducible exact Q.drew | with_reducible exact Q) B
  replace Y := CellsAt.step (by first | with_reducible exact Y.drew | with_reducible exact Y) B
  replace X := CellsAt.step (by first | with_reducible exact X.drew | with_reducible exact X) B
  replace I := Lib.hid (Boxes.step (by first | with_reducible exact I.out.drew | with_reducible exact I.out) B)
  replace J := Lib.hid (Boxes.step (by first | with_reducible exact J.out.drew | with_reducible exact J.out) B)
  replace I2 := Lib.hid (Boxes.step (by first | with_reducible exact I2.out.drew | with_reducible exact I2.out) B)
  replace J2 := Lib.hid (Boxes.step (by first | with_reducible exact J2.out.drew | with_reducible exact J2.out) B)
  replace H := Lib.hid (bl_trans (by first | with_reducible exact bl_drew1 H.out | with_reducible exact H.out) B)
  clear B
  clear hHeld
  go_wp2_with fail
  refine hK.out _ _ ⟨(by repeat (first | with_reducible exact X | with_reducible refine CellsAt.alloc ?_ _ | with_reducible refine CellsAt.drew ?_)), (by repeat (first | with_reducible exact Q | with_reducible refine CellsAt.alloc ?_ _ | with_reducible refine CellsAt.drew ?_)), (by repeat (first | with_reducible exact Y | with_reducible refine CellsAt.alloc ?_ _ | with_reducible refine CellsAt.drew ?_))⟩ (fun hHeld => ?_)
  clear hK K
  try simp only [Act.put, List.getElem_toArray, List.getElem_cons_succ, List.getElem_cons_zero, List.setIfInBounds_toArray, List.set_cons_zero, List.set_cons_succ]
  refine wpAnyH_ready (rs := [6]) (by kernel_rfl) (by simp) ?_
  apply AllReadyH.cons rfl ?_ AllReadyH.nil
  intro K hK
  go_simp
  refine hK.out _ _ ⟨(by repeat (first | with_reducible exact X | with_reducible refine CellsAt.alloc ?_ _ | with_reducible refine CellsAt.drew ?_)), (by repeat (first | with_reducible exact Q | with_reducible refine CellsAt.alloc ?_ _ | with_reducible refine CellsAt.drew ?_)), (by repeat (first | with_reducible exact Y | with_reducible refine CellsAt.alloc ?_ _ | with_reducible refine CellsAt.drew ?_))⟩ (fun hHeld => ?_)
  clear hK K
  try simp only [Act.put, List.getElem_toArray, List.getElem_cons_succ, List.getElem_cons_zero, List.setIfInBounds_toArray, List.set_cons_zero, List.set_cons_succ]
  refine wpAnyH_done (by kernel_rfl) ?_ _
  generalize ifB i t x y ws gs p q s z b s1 p1 z1 s2 p2 z2 = bb at *
  cases bb
  all_goals
    have Pc0 := P.cell 0 _ rfl
    have Pc1 := P.cell 1 _ rfl
    have Pc2 := P.cell 2 _ rfl
    have Pc3 := P.cell 3 _ rfl
    have Pc4 := P.cell 4 _ rfl
    have Pc5 := P.cell 5 _ rfl
    have Pc6 := P.cell 6 _ rfl
    have Pc7 := P.cell 7 _ rfl
    have Pc8 := P.cell 8 _ rfl
    have Pc9 := P.cell 9 _ rfl
    have Pc10 := P.cell 10 _ rfl
    have Pl := P.lt
    have Qc0 := Q.cell 0 _ rfl
    have Qc1 := Q.cell 1 _ rfl
    have Qc2 := Q.cell 2 _ rfl
    have Ql := Q.lt
    have Yc0 := Y.cell 0 _ rfl
    have Yc1 := Y.cell 1 _ rfl
    have Yc2 := Y.cell 2 _ rfl
    have Yl := Y.lt
    have Xc0 := X.cell 0 _ rfl
    have Xc1 := X.cell 1 _ rfl
    have Xc2 := X.cell 2 _ rfl
    have Xc3 := X.cell 3 _ rfl
    have Xc4 := X.cell 4 _ rfl
    have Xc5 := X.cell 5 _ rfl
    have Xc6 := X.cell 6 _ rfl
    have Xc7 := X.cell 7 _ rfl
    have Xc8 := X.cell 8 _ rfl
    have Xc9 := X.cell 9 _ rfl
    have Xc10 := X.cell 10 _ rfl
    have Xl := X.lt
    go_wp2_with fail
    clear Pc0 Pc1 Pc2 Pc3 Pc4 Pc5 Pc6 Pc7 Pc8 Pc9 Pc10 Pl Qc0 Qc1 Qc2 Ql Yc0 Yc1 Yc2 Yl Xc0 Xc1 Xc2 Xc3 Xc4 Xc5 Xc6 Xc7 Xc8 Xc9 Xc10 Xl
    refine wp_region_held_drew (S := fun w' => CellsAt w' w.heap.size (lvs i t x y A n c G m kk p q s z b) ∧ CellsAt w' w6.heap.size (lvs i t x y (some ⟨u2, 0, none⟩) n n (some ⟨v2, 0, none⟩) m m p q s z b)) (by kernel_rfl) ⟨(by repeat (first | with_reducible exact Pn | with_reducible exact P | with_reducible refine CellsAt.alloc ?_ _ | with_reducible refine CellsAt.drew ?_)), (by repeat (first | with_reducible exact Xn | with_reducible exact X | with_reducible refine CellsAt.alloc ?_ _ | with_reducible refine CellsAt.drew ?_))⟩ (fun hHeld => ?_)
    refine wpAnyH_take (i := 0) (oi := _) (v := .agg (lvs i t x y (some ⟨u2, 0, none⟩) n n (some ⟨v2, 0, none⟩) m m p q s z b).toArray) rfl (by kernel_rfl) (by kernel_rfl) (by kernel_rfl) (fun _ _ _ h => h) (yieldsIf_load_mid (by rfl) 38 (.tmp 9) rfl w6.heap.size 0 rfl (lvs i t x y (some ⟨u2, 0, none⟩) n n (some ⟨v2, 0, none⟩) m m p q s z b) _ (fun W hS => hS.2.range) Try.underlying38 rfl level_size) hHeld ?_
    try simp only [Act.put, List.getElem_toArray, List.getElem_cons_zero, List.setIfInBounds_toArray, List.set_cons_zero, List.set_cons_succ]
    refine wpAnyH_take (i := 1) (oi := _) (v := .agg (lvs i t x y A n c G m kk p q s z b).toArray) rfl (by kernel_rfl) (by kernel_rfl) (by kernel_rfl) (fun _ _ _ h => h) (yieldsIf_load_mid (by rfl) 55 (.tmp 3) rfl w.heap.size 0 rfl (lvs i t x y A n c G m kk p q s z b) _ (fun W hS => hS.1.range) Try.underlying55 rfl lawlevel_size) hHeld ?_
    try simp only [Act.put, List.getElem_toArray, List.getElem_cons_succ, List.getElem_cons_zero, List.setIfInBounds_toArray, List.set_cons_zero, List.set_cons_succ]
    refine wpAnyH_ready (rs := [2]) (by kernel_rfl) (by simp) ?_
    apply AllReadyH.cons rfl ?_ AllReadyH.nil
    intro K hK
    go_simp
    go_at_call 32
    refine (toLevel_any i t x y A n c G m kk p q s z b ws gs _ I.out.drew J.out.drew h1 h2).mono ?_
    rintro e wn ⟨u3, v3, rfl, I3, J3, B⟩
    have Pn := CellsAt.step (by first | with_reducible exact P.drew | with_reducible exact P) B
    have Xn := CellsAt.step (by first | with_reducible exact X.drew | with_reducible exact X) B
    have I2n := Lib.hid (Boxes.step (by first | with_reducible exact I2.out.drew | with_reducible exact I2.out) B)
    have J2n := Lib.hid (Boxes.step (by first | with_reducible exact J2.out.drew | with_reducible exact J2.out) B)
    have Hn := Lib.hid (bl_trans (by first | with_reducible exact bl_drew1 H.out | with_reducible exact H.out) B)
    replace I3 := Lib.hid I3
    replace J3 := Lib.hid J3
    clear B
    clear hHeld
    go_wp2_with fail
    refine hK.out _ _ ⟨(by repeat (first | with_reducible exact Pn | with_reducible exact P | with_reducible refine CellsAt.alloc ?_ _ | with_reducible refine CellsAt.drew ?_)), (by repeat (first | with_reducible exact Xn | with_reducible exact X | with_reducible refine CellsAt.alloc ?_ _ | with_reducible refine CellsAt.drew ?_))⟩ (fun hHeld => ?_)
    clear hK K
    try simp only [Act.put, List.getElem_toArray, List.getElem_cons_succ, List.getElem_cons_zero, List.setIfInBounds_toArray, List.set_cons_zero, List.set_cons_succ]
    refine wpAnyH_ready (rs := [3]) (by kernel_rfl) (by simp) ?_
    apply AllReadyH.cons rfl ?_ AllReadyH.nil
    intro K hK
    go_simp
    go_at_call 33
    refine (eqLevel_same i t x y n m p q s z b ws gs u2 v2 u3 v3 _ I2n.out J2n.out I3.out J3.out h1 h2).mono ?_
    rintro e wm ⟨rfl, B⟩
    have Pn := CellsAt.step (by first | with_reducible exact Pn.drew | with_reducible exact Pn) B
    have Xn := CellsAt.step (by first | with_reducible exact Xn.drew | with_reducible exact Xn) B
    have Hn := Lib.hid (bl_trans (by first | with_reducible exact bl_drew1 Hn.out | with_reducible exact Hn.out) B)
    clear B
    clear hHeld
    go_wp2_with fail
    refine hK.out _ _ ⟨(by repeat (first | with_reducible exact Pn | with_reducible exact P | with_reducible refine CellsAt.alloc ?_ _ | with_reducible refine CellsAt.drew ?_)), (by repeat (first | with_reducible exact Xn | with_reducible exact X | with_reducible refine CellsAt.alloc ?_ _ | with_reducible refine CellsAt.drew ?_))⟩ (fun hHeld => ?_)
    clear hK K
    try simp only [Act.put, List.getElem_toArray, List.getElem_cons_succ, List.getElem_cons_zero, List.setIfInBounds_toArray, List.set_cons_zero, List.set_cons_succ]
    refine wpAnyH_take (i := 4) (oi := _) (v := ?_) rfl (by kernel_rfl) (by kernel_rfl) (by kernel_rfl) (fun _ _ _ h => h) (Or.inl ⟨by rfl, ?_⟩) hHeld ?_
    rotate_left
    · intro w hSw
      try dsimp only at hSw
      go_simp
      all_goals with_reducible rfl
    try simp only [Act.put, List.getElem_toArray, List.getElem_cons_succ, List.getElem_cons_zero, List.setIfInBounds_toArray, List.set_cons_zero, List.set_cons_succ]
    refine wpAnyH_done (by kernel_rfl) ?_ _
    go_wp2
    go_ret
    exact ⟨rfl, Hn.out⟩

end Go.Proofs.Ytagbeneapmpooaa
