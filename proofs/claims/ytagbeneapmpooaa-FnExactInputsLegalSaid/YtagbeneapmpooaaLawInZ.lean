/-
  The walk of the exact law of InputsLegal.
-/
import Derived.Test.YtagbeneapmpooaaLegImpl
import Derived.Test.YtagbeneapmpooaaToInS
import Derived.Test.YtagbeneapmpooaaLawLevX
namespace Go.Proofs.Ytagbeneapmpooaa
open Go.RowKit
open M

set_option maxRecDepth 100000 in
set_option maxHeartbeats 4000000 in
theorem walk_FnExactInputsLegal (i t x y : Int) (A : Option Addr) (n c : Nat) (G : Option Addr) (m kk : Nat) (p q s z b : Int) (ws gs : List Bx) (D : Option Addr) (k cc : Nat) (xs : List In) (w : World) (I : Boxes w A n ws) (J : Boxes w G m gs) (hN0 : n ≤ 9223372036854775807) (hM0 : m ≤ 9223372036854775807) (Y : Inputs w D k xs) (hK0 : k ≤ 9223372036854775807) :
    Calls Try.prog 14 #[lev i t x y A n c G m kk p q s z b, .slice D k cc] w fun e w' => e = .returned (.bool true) ∧ Below w.heap.size w w' := by
  have I := Lib.hid I
  have J := Lib.hid J
  have Y := Lib.hid Y
  by_cases big : 1048576 < n + m
  · have C := Lib.hid (fun W => szLev_no i t x y A n c G m kk p q s z b W big hN0 hM0)
    go_enter Try.func14, Try.ntmps14
    go_wp2_with fail
    refine (C.out _).mono ?_
    rintro e w1 ⟨rfl, B⟩
    have H := Lib.hid (bl_trans (bl_alloc (bl_refl w) _) B)
    clear B
    go_wp2
    go_ret
    exact ⟨rfl, H.out⟩
  have C := Lib.hid (fun W => szLev_ok i t x y A n c G m kk p q s z b W (by omega))
  have C2 := fun W => szInput_any D k cc (1048576 - n - m) W (by omega) (by omega) (by omega)
  have h1 : n ≤ 1048576 := by omega
  have h2 : m ≤ 1048576 := by omega
  have g0 : (0 : Int) ≤ 1048576 - n - m := by omega
  have hN : n ≤ 281474976710656 := by omega
  have hM : m ≤ 281474976710656 := by omega
  clear hN0 hM0
  by_cases bg : (1048576 : Int) - n - m - k < 0
  · rw [if_pos bg] at C2
    replace C2 := Lib.hid C2
    clear bg big
    go_enter Try.func14, Try.ntmps14
    go_wp2_with fail
    refine (C.out _).mono ?_
    rintro e w1 ⟨rfl, B⟩
    have H := Lib.hid (bl_trans (bl_alloc (bl_refl w) _) B)
    clear B
    go_wp2_with fail
    refine (C2.out _).mono ?_
    rintro e w' ⟨rfl, rfl⟩
    go_wp2
    go_ret
    exact ⟨rfl, H.out⟩
  rw [if_neg bg] at C2
  replace C2 := Lib.hid C2
  have g3 : (0 : Int) ≤ 1048576 - n - m - k := by omega
  have h3 : k ≤ 1048576 := by omega
  have hK : k ≤ 281474976710656 := by omega
  clear bg big hK0
  go_enter Try.func14, Try.ntmps14
  go_wp2_with fail
  refine (C.out _).mono ?_
  rintro e w1 ⟨rfl, B⟩
  have P : CellsAt w1 w.heap.size (lvs i t x y A n c G m kk p q s z b) := (CellsAt.new w _ _ _ rfl).step B
  replace I := Lib.hid ((I.out.alloc _).step B)
  replace J := Lib.hid ((J.out.alloc _).step B)
  replace Y := Lib.hid ((Y.out.alloc _).step B)
  have H := Lib.hid (bl_trans (bl_alloc (bl_refl w) _) B)
  clear B C
  have Pc0 := P.cell 0 _ rfl
  have Pc1 := P.cell 1 _ rfl
  have Pc2 := P.cell 2 _ rfl
  have Pc3 := P.cell 3 _ rfl
  have Pc4 := P.cell 4 _ rfl
  have Pc5 := P.cell 5 _ rfl
  have Pc6 := P.cell 6 _ rfl
  have Pc7 := P.cell 7 _ rfl
  have Pc8 := P.cell 8 _ rfl
  have Pc9 := P.cell 9 _ rfl
  have Pc10 := P.cell 10 _ rfl
  have Pl := P.lt
  go_wp2_with fail
  clear Pc0 Pc1 Pc2 Pc3 Pc4 Pc5 Pc6 Pc7 Pc8 Pc9 Pc10 Pl
  refine (C2.out _).mono ?_
  rintro e w' ⟨rfl, rfl⟩
  clear C2
  have Pc0 := P.cell 0 _ rfl
  have Pc1 := P.cell 1 _ rfl
  have Pc2 := P.cell 2 _ rfl
  have Pc3 := P.cell 3 _ rfl
  have Pc4 := P.cell 4 _ rfl
  have Pc5 := P.cell 5 _ rfl
  have Pc6 := P.cell 6 _ rfl
  have Pc7 := P.cell 7 _ rfl
  have Pc8 := P.cell 8 _ rfl
  have Pc9 := P.cell 9 _ rfl
  have Pc10 := P.cell 10 _ rfl
  have Pl := P.lt
  go_wp2_with fail
  refine (toLevel_any i t x y A n c G m kk p q s z b ws gs _ I.out J.out h1 h2).mono ?_
  rintro e w2 ⟨u1, v1, rfl, I1, J1, B⟩
  clear Pc0 Pc1 Pc2 Pc3 Pc4 Pc5 Pc6 Pc7 Pc8 Pc9 Pc10 Pl
  replace P := P.step B
  replace I := Lib.hid (I.out.step B)
  replace J := Lib.hid (J.out.step B)
  replace Y := Lib.hid (Y.out.step B)
  replace H := Lib.hid (bl_trans H.out B)
  clear B
  replace I1 := Lib.hid I1
  replace J1 := Lib.hid J1
  have Pc0 := P.cell 0 _ rfl
  have Pc1 := P.cell 1 _ rfl
  have Pc2 := P.cell 2 _ rfl
  have Pc3 := P.cell 3 _ rfl
  have Pc4 := P.cell 4 _ rfl
  have Pc5 := P.cell 5 _ rfl
  have Pc6 := P.cell 6 _ rfl
  have Pc7 := P.cell 7 _ rfl
  have Pc8 := P.cell 8 _ rfl
  have Pc9 := P.cell 9 _ rfl
  have Pc10 := P.cell 10 _ rfl
  have Pl := P.lt
  go_wp2_with fail
  refine (toInputS_any D k cc xs _ Y.out h3).mono ?_
  rintro e w3 ⟨q1, rfl, Y1, B⟩
  clear Pc0 Pc1 Pc2 Pc3 Pc4 Pc5 Pc6 Pc7 Pc8 Pc9 Pc10 Pl
  replace P := P.step B
  replace I := Lib.hid (I.out.step B)
  replace J := Lib.hid (J.out.step B)
  replace Y := Lib.hid (Y.out.step B)
  replace I1 := Lib.hid (I1.out.step B)
  replace J1 := Lib.hid (J1.out.step B)
  replace H := Lib.hid (bl_trans H.out B)
  clear B
  replace Y1 := Lib.hid Y1
  have S := Lib.hid (fun (W : World) (Z : Boxes W (some ⟨u1, 0, none⟩) n ws) (X : Boxes W (some ⟨v1, 0, none⟩) m gs) (U : Inputs W (some ⟨q1, 0, none⟩) k xs) => specILegal i t x y (some ⟨u1, 0, none⟩) n n (some ⟨v1, 0, none⟩) m m p q s z b ws gs _ k k xs W Z X hN hM U hK)
  have Pc0 := P.cell 0 _ rfl
  have Pc1 := P.cell 1 _ rfl
  have Pc2 := P.cell 2 _ rfl
  have Pc3 := P.cell 3 _ rfl
  have Pc4 := P.cell 4 _ rfl
  have Pc5 := P.cell 5 _ rfl
  have Pc6 := P.cell 6 _ rfl
  have Pc7 := P.cell 7 _ rfl
  have Pc8 := P.cell 8 _ rfl
  have Pc9 := P.cell 9 _ rfl
  have Pc10 := P.cell 10 _ rfl
  have Pl := P.lt
  go_wp2_with fail
  refine (S.out _ I1.out J1.out Y1.out).mono ?_
  rintro e w4 ⟨rfl, B⟩
  clear Pc0 Pc1 Pc2 Pc3 Pc4 Pc5 Pc6 Pc7 Pc8 Pc9 Pc10 Pl
  replace P := P.step B
  replace I := Lib.hid (I.out.step B)
  replace J := Lib.hid (J.out.step B)
  replace Y := Lib.hid (Y.out.step B)
  replace I1 := Lib.hid (I1.out.step B)
  replace J1 := Lib.hid (J1.out.step B)
  replace Y1 := Lib.hid (Y1.out.step B)
  replace H := Lib.hid (bl_trans H.out B)
  clear B
  clear S I1 J1 Y1
  have Pc0 := P.cell 0 _ rfl
  have Pc1 := P.cell 1 _ rfl
  have Pc2 := P.cell 2 _ rfl
  have Pc3 := P.cell 3 _ rfl
  have Pc4 := P.cell 4 _ rfl
  have Pc5 := P.cell 5 _ rfl
  have Pc6 := P.cell 6 _ rfl
  have Pc7 := P.cell 7 _ rfl
  have Pc8 := P.cell 8 _ rfl
  have Pc9 := P.cell 9 _ rfl
  have Pc10 := P.cell 10 _ rfl
  have Pl := P.lt
  go_wp2_with fail
  refine (toLevel_any i t x y A n c G m kk p q s z b ws gs _ I.out J.out h1 h2).mono ?_
  rintro e w5 ⟨u2, v2, rfl, I2, J2, B⟩
  clear Pc0 Pc1 Pc2 Pc3 Pc4 Pc5 Pc6 Pc7 Pc8 Pc9 Pc10 Pl
  replace P := P.step B
  replace I := Lib.hid (I.out.step B)
  replace J := Lib.hid (J.out.step B)
  replace Y := Lib.hid (Y.out.step B)
  replace H := Lib.hid (bl_trans H.out B)
  clear B
  replace I2 := Lib.hid I2
  replace J2 := Lib.hid J2
  have X : CellsAt (w5.alloc (.cells #[.int .i64 i, .int .i64 t, .int .i64 x, .int .i64 y, .slice (some ⟨u2, 0, none⟩) n n, .slice (some ⟨v2, 0, none⟩) m m, .int .i64 p, .int .i64 q, .int .i64 s, .int .i64 z, .int .i64 b] 38)) w5.heap.size (lvs i t x y (some ⟨u2, 0, none⟩) n n (some ⟨v2, 0, none⟩) m m p q s z b) := CellsAt.new _ _ _ _ rfl
  replace P := P.alloc (.cells #[.int .i64 i, .int .i64 t, .int .i64 x, .int .i64 y, .slice (some ⟨u2, 0, none⟩) n n, .slice (some ⟨v2, 0, none⟩) m m, .int .i64 p, .int .i64 q, .int .i64 s, .int .i64 z, .int .i64 b] 38)
  replace I := Lib.hid (I.out.alloc (.cells #[.int .i64 i, .int .i64 t, .int .i64 x, .int .i64 y, .slice (some ⟨u2, 0, none⟩) n n, .slice (some ⟨v2, 0, none⟩) m m, .int .i64 p, .int .i64 q, .int .i64 s, .int .i64 z, .int .i64 b] 38))
  replace J := Lib.hid (J.out.alloc (.cells #[.int .i64 i, .int .i64 t, .int .i64 x, .int .i64 y, .slice (some ⟨u2, 0, none⟩) n n, .slice (some ⟨v2, 0, none⟩) m m, .int .i64 p, .int .i64 q, .int .i64 s, .int .i64 z, .int .i64 b] 38))
  replace Y := Lib.hid (Y.out.alloc (.cells #[.int .i64 i, .int .i64 t, .int .i64 x, .int .i64 y, .slice (some ⟨u2, 0, none⟩) n n, .slice (some ⟨v2, 0, none⟩) m m, .int .i64 p, .int .i64 q, .int .i64 s, .int .i64 z, .int .i64 b] 38))
  replace I2 := Lib.hid (I2.out.alloc (.cells #[.int .i64 i, .int .i64 t, .int .i64 x, .int .i64 y, .slice (some ⟨u2, 0, none⟩) n n, .slice (some ⟨v2, 0, none⟩) m m, .int .i64 p, .int .i64 q, .int .i64 s, .int .i64 z, .int .i64 b] 38))
  replace J2 := Lib.hid (J2.out.alloc (.cells #[.int .i64 i, .int .i64 t, .int .i64 x, .int .i64 y, .slice (some ⟨u2, 0, none⟩) n n, .slice (some ⟨v2, 0, none⟩) m m, .int .i64 p, .int .i64 q, .int .i64 s, .int .i64 z, .int .i64 b] 38))
  replace H := Lib.hid (bl_alloc H.out (.cells #[.int .i64 i, .int .i64 t, .int .i64 x, .int .i64 y, .slice (some ⟨u2, 0, none⟩) n n, .slice (some ⟨v2, 0, none⟩) m m, .int .i64 p, .int .i64 q, .int .i64 s, .int .i64 z, .int .i64 b] 38))
  have Pc0 := P.cell 0 _ rfl
  have Pc1 := P.cell 1 _ rfl
  have Pc2 := P.cell 2 _ rfl
  have Pc3 := P.cell 3 _ rfl
  have Pc4 := P.cell 4 _ rfl
  have Pc5 := P.cell 5 _ rfl
  have Pc6 := P.cell 6 _ rfl
  have Pc7 := P.cell 7 _ rfl
  have Pc8 := P.cell 8 _ rfl
  have Pc9 := P.cell 9 _ rfl
  have Pc10 := P.cell 10 _ rfl
  have Pl := P.lt
  have Xc0 := X.cell 0 _ rfl
  have Xc1 := X.cell 1 _ rfl
  have Xc2 := X.cell 2 _ rfl
  have Xc3 := X.cell 3 _ rfl
  have Xc4 := X.cell 4 _ rfl
  have Xc5 := X.cell 5 _ rfl
  have Xc6 := X.cell 6 _ rfl
  have Xc7 := X.cell 7 _ rfl
  have Xc8 := X.cell 8 _ rfl
  have Xc9 := X.cell 9 _ rfl
  have Xc10 := X.cell 10 _ rfl
  have Xl := X.lt
  go_wp2_with fail
  refine (toInputS_any D k cc xs _ Y.out h3).mono ?_
  rintro e w6 ⟨q2, rfl, Y2, B⟩
  clear Pc0 Pc1 Pc2 Pc3 Pc4 Pc5 Pc6 Pc7 Pc8 Pc9 Pc10 Pl Xc0 Xc1 Xc2 Xc3 Xc4 Xc5 Xc6 Xc7 Xc8 Xc9 Xc10 Xl
  replace P := P.step B
  replace X := X.step B
  replace I := Lib.hid (I.out.step B)
  replace J := Lib.hid (J.out.step B)
  replace Y := Lib.hid (Y.out.step B)
  replace I2 := Lib.hid (I2.out.step B)
  replace J2 := Lib.hid (J2.out.step B)
  replace H := Lib.hid (bl_trans H.out B)
  clear B
  replace Y2 := Lib.hid Y2
  have V := Lib.hid (fun (W : World) (Z : Boxes W (some ⟨u2, 0, none⟩) n ws) (X : Boxes W (some ⟨v2, 0, none⟩) m gs) (U : Inputs W (some ⟨q2, 0, none⟩) k xs) => implILegal i t x y (some ⟨u2, 0, none⟩) n n (some ⟨v2, 0, none⟩) m m p q s z b ws gs _ k k xs W Z X hN hM U hK)
  have Pc0 := P.cell 0 _ rfl
  have Pc1 := P.cell 1 _ rfl
  have Pc2 := P.cell 2 _ rfl
  have Pc3 := P.cell 3 _ rfl
  have Pc4 := P.cell 4 _ rfl
  have Pc5 := P.cell 5 _ rfl
  have Pc6 := P.cell 6 _ rfl
  have Pc7 := P.cell 7 _ rfl
  have Pc8 := P.cell 8 _ rfl
  have Pc9 := P.cell 9 _ rfl
  have Pc10 := P.cell 10 _ rfl
  have Pl := P.lt
  have Xc0 := X.cell 0 _ rfl
  have Xc1 := X.cell 1 _ rfl
  have Xc2 := X.cell 2 _ rfl
  have Xc3 := X.cell 3 _ rfl
  have Xc4 := X.cell 4 _ rfl
  have Xc5 := X.cell 5 _ rfl
  have Xc6 := X.cell 6 _ rfl
  have Xc7 := X.cell 7 _ rfl
  have Xc8 := X.cell 8 _ rfl
  have Xc9 := X.cell 9 _ rfl
  have Xc10 := X.cell 10 _ rfl
  have Xl := X.lt
  go_wp2_with fail
  refine (V.out _ I2.out J2.out Y2.out).mono ?_
  rintro e w7 ⟨rfl, B⟩
  clear Pc0 Pc1 Pc2 Pc3 Pc4 Pc5 Pc6 Pc7 Pc8 Pc9 Pc10 Pl Xc0 Xc1 Xc2 Xc3 Xc4 Xc5 Xc6 Xc7 Xc8 Xc9 Xc10 Xl
  replace P := P.step B
  replace X := X.step B
  replace I := Lib.hid (I.out.step B)
  replace J := Lib.hid (J.out.step B)
  replace Y := Lib.hid (Y.out.step B)
  replace I2 := Lib.hid (I2.out.step B)
  replace J2 := Lib.hid (J2.out.step B)
  replace Y2 := Lib.hid (Y2.out.step B)
  replace H := Lib.hid (bl_trans H.out B)
  clear B
  clear V
  generalize ilI i t x y ws gs p q s z b xs = hh at *
  have Pc0 := P.cell 0 _ rfl
  have Pc1 := P.cell 1 _ rfl
  have Pc2 := P.cell 2 _ rfl
  have Pc3 := P.cell 3 _ rfl
  have Pc4 := P.cell 4 _ rfl
  have Pc5 := P.cell 5 _ rfl
  have Pc6 := P.cell 6 _ rfl
  have Pc7 := P.cell 7 _ rfl
  have Pc8 := P.cell 8 _ rfl
  have Pc9 := P.cell 9 _ rfl
  have Pc10 := P.cell 10 _ rfl
  have Pl := P.lt
  have Xc0 := X.cell 0 _ rfl
  have Xc1 := X.cell 1 _ rfl
  have Xc2 := X.cell 2 _ rfl
  have Xc3 := X.cell 3 _ rfl
  have Xc4 := X.cell 4 _ rfl
  have Xc5 := X.cell 5 _ rfl
  have Xc6 := X.cell 6 _ rfl
  have Xc7 := X.cell 7 _ rfl
  have Xc8 := X.cell 8 _ rfl
  have Xc9 := X.cell 9 _ rfl
  have Xc10 := X.cell 10 _ rfl
  have Xl := X.lt
  go_wp2_with fail
  clear Pc0 Pc1 Pc2 Pc3 Pc4 Pc5 Pc6 Pc7 Pc8 Pc9 Pc10 Pl Xc0 Xc1 Xc2 Xc3 Xc4 Xc5 Xc6 Xc7 Xc8 Xc9 Xc10 Xl
  refine wp_region_held_drew (S := fun w' => CellsAt w' w.heap.size (lvs i t x y A n c G m kk p q s z b) ∧ CellsAt w' w5.heap.size (lvs i t x y (some ⟨u2, 0, none⟩) n n (some ⟨v2, 0, none⟩) m m p q s z b)) (by kernel_rfl) ⟨(by repeat (first | with_reducible exact P | with_reducible refine CellsAt.alloc ?_ _ | with_reducible refine CellsAt.drew ?_)), (by repeat (first | with_reducible exact X | with_reducible refine CellsAt.alloc ?_ _ | with_reducible refine CellsAt.drew ?_))⟩ (fun hHeld => ?_)
  refine wpAnyH_take (i := 0) (oi := _) (v := .agg (lvs i t x y (some ⟨u2, 0, none⟩) n n (some ⟨v2, 0, none⟩) m m p q s z b).toArray) rfl (by kernel_rfl) (by kernel_rfl) (by kernel_rfl) (fun _ _ _ h => h) (yieldsIf_load_mid (by rfl) 38 (.tmp 7) rfl w5.heap.size 0 rfl (lvs i t x y (some ⟨u2, 0, none⟩) n n (some ⟨v2, 0, none⟩) m m p q s z b) _ (fun W hS => hS.2.range) Try.underlying38 rfl level_size) hHeld ?_
  try simp only [Act.put, List.getElem_toArray, List.getElem_cons_zero, List.setIfInBounds_toArray, List.set_cons_zero, List.set_cons_succ]
  refine wpAnyH_take (i := 1) (oi := _) (v := .agg (lvs i t x y A n c G m kk p q s z b).toArray) rfl (by kernel_rfl) (by kernel_rfl) (by kernel_rfl) (fun _ _ _ h => h) (yieldsIf_load_mid (by rfl) 55 (.tmp 2) rfl w.heap.size 0 rfl (lvs i t x y A n c G m kk p q s z b) _ (fun W hS => hS.1.range) Try.underlying55 rfl lawlevel_size) hHeld ?_
  try simp only [Act.put, List.getElem_toArray, List.getElem_cons_succ, List.getElem_cons_zero, List.setIfInBounds_toArray, List.set_cons_zero, List.set_cons_succ]
  refine wpAnyH_ready (rs := [2]) (by kernel_rfl) (by simp) ?_
  apply AllReadyH.cons rfl ?_ AllReadyH.nil
  intro K hK
  go_simp
  go_at_call 32
  refine (toLevel_any i t x y A n c G m kk p q s z b ws gs _ I.out.drew J.out.drew h1 h2).mono ?_
  rintro e wn ⟨u3, v3, rfl, I3, J3, B⟩
  replace P := CellsAt.step (by first | with_reducible exact P.drew | with_reducible exact P) B
  replace X := CellsAt.step (by first | with_reducible exact X.drew | with_reducible exact X) B
  replace I2 := Lib.hid (Boxes.step (by first | with_reducible exact I2.out.drew | with_reducible exact I2.out) B)
  replace J2 := Lib.hid (Boxes.step (by first | with_reducible exact J2.out.drew | with_reducible exact J2.out) B)
  replace H := Lib.hid (bl_trans (by first | with_reducible exact bl_drew1 H.out | with_reducible exact H.out) B)
  replace Y := Lib.hid (Inputs.step (by first | with_reducible exact Y.out.drew | with_reducible exact Y.out) B)
  replace Y2 := Lib.hid (Inputs.step (by first | with_reducible exact Y2.out.drew | with_reducible exact Y2.out) B)
  clear B
  replace I3 := Lib.hid I3
  replace J3 := Lib.hid J3
  clear hHeld
  go_wp2_with fail
  refine hK.out _ _ ⟨(by repeat (first | with_reducible exact P | with_reducible refine CellsAt.alloc ?_ _ | with_reducible refine CellsAt.drew ?_)), (by repeat (first | with_reducible exact X | with_reducible refine CellsAt.alloc ?_ _ | with_reducible refine CellsAt.drew ?_))⟩ (fun hHeld => ?_)
  clear hK K
  try simp only [Act.put, List.getElem_toArray, List.getElem_cons_succ, List.getElem_cons_zero, List.setIfInBounds_toArray, List.set_cons_zero, List.set_cons_succ]
  refine wpAnyH_ready (rs := [3]) (by kernel_rfl) (by simp) ?_
  apply AllReadyH.cons rfl ?_ AllReadyH.nil
  intro K hK
  go_simp
  go_at_call 33
  refine (eqLevel_same i t x y n m p q s z b ws gs u2 v2 u3 v3 _ I2.out J2.out I3.out J3.out h1 h2).mono ?_
  rintro e wm ⟨rfl, B⟩
  replace P := CellsAt.step (by first | with_reducible exact P.drew | with_reducible exact P) B
  replace X := CellsAt.step (by first | with_reducible exact X.drew | with_reducible exact X) B
  replace H := Lib.hid (bl_trans (by first | with_reducible exact bl_drew1 H.out | with_reducible exact H.out) B)
  replace Y := Lib.hid (Inputs.step (by first | with_reducible exact Y.out.drew | with_reducible exact Y.out) B)
  replace Y2 := Lib.hid (Inputs.step (by first | with_reducible exact Y2.out.drew | with_reducible exact Y2.out) B)
  clear B
  clear I2 J2 I3 J3 I J
  clear hHeld
  go_wp2_with fail
  refine hK.out _ _ ⟨(by repeat (first | with_reducible exact P | with_reducible refine CellsAt.alloc ?_ _ | with_reducible refine CellsAt.drew ?_)), (by repeat (first | with_reducible exact X | with_reducible refine CellsAt.alloc ?_ _ | with_reducible refine CellsAt.drew ?_))⟩ (fun hHeld => ?_)
  clear hK K
  try simp only [Act.put, List.getElem_toArray, List.getElem_cons_succ, List.getElem_cons_zero, List.setIfInBounds_toArray, List.set_cons_zero, List.set_cons_succ]
  refine wpAnyH_take (i := 4) (oi := _) (v := ?_) rfl (by kernel_rfl) (by kernel_rfl) (by kernel_rfl) (fun _ _ _ h => h) (Or.inl ⟨by rfl, ?_⟩) hHeld ?_
  rotate_left
  · intro w hSw
    try dsimp only at hSw
    go_simp
    all_goals with_reducible rfl
  try simp only [Act.put, List.getElem_toArray, List.getElem_cons_succ, List.getElem_cons_zero, List.setIfInBounds_toArray, List.set_cons_zero, List.set_cons_succ]
  refine wpAnyH_done (by kernel_rfl) ?_ _
  go_wp2_with fail
  refine (toInputS_any D k cc xs _ Y.out h3).mono ?_
  rintro e wp ⟨q3, rfl, Y3, B⟩
  replace Y2 := Lib.hid (Y2.out.step B)
  replace Y3 := Lib.hid Y3
  replace H := Lib.hid (bl_trans H.out B)
  clear B
  go_wp2_with fail
  refine (eqInputS_same _ _ k k k xs _ Y2.out Y3.out h3).mono ?_
  rintro e wq ⟨rfl, B⟩
  replace H := Lib.hid (bl_trans H.out B)
  clear B
  go_wp2
  go_ret
  exact ⟨rfl, H.out⟩

end Go.Proofs.Ytagbeneapmpooaa
