/-
  The walk of FnLegalPairs.
-/
import Derived.Test.YtagbeneapmpooabLegImpl
import Derived.Test.YtagbeneapmpooabDrawAny
import Derived.Test.YtagbeneapmpooabLegLaws
import Derived.Deep.Cut
namespace Go.Proofs.Ytagbeneapmpooab
open Go.RowKit
open M

/-- At a round's head: what is left is legal. -/
def PairRel (w : World) (lb pb N : Nat) (xs : List In) (A : Option Addr) (n : Nat) (ws : List Bx) (G : Option Addr) (m : Nat) (gs : List Bx) (D : Option Addr) (t b : Int) (vs : List Value) (nv iv : Value) (W : World) : Prop :=
  ∃ (j : Nat) (a s0 p0 : Int) (z0 : Bool), j ≤ N ∧ iv = .int .i64 j ∧ nv = .int .i64 a ∧ (0 ≤ a ∧ a ≤ 3) ∧ inV s0 p0 z0 = true ∧ (j : Int) ≤ t ∧ lgF t b (xs.drop j) j a s0 = -1 ∧ CellsAt W lb vs ∧ CellsAt W pb (ins s0 p0 z0) ∧ Boxes W A n ws ∧ Boxes W G m gs ∧ Inputs W D N xs ∧ Below w.heap.size w W

set_option maxRecDepth 100000 in
set_option maxHeartbeats 4000000 in
theorem walk_FnLegalPairs (a : Option Addr) (len cap : Nat) (zs : List Int) (w : World) (h : IsRow .u8 w a len cap zs) :
    Calls Try.prog 4 #[.slice a len cap] w fun e w' => e = .returned (.bool true) ∧ Below w.heap.size w w' := by
  have hm := h.bytes.1
  have hm2 := h.bytes.2.1
  unfold maxLen at hm2
  by_cases g : 1048576 < len
  · have g1 : (1048576 : Int) < (len : Int) := by omega
    go_enter Try.func4, Try.ntmps4
    go_wp2
    go_ret
    exact ⟨rfl, Below.refl _ _⟩
  have g1 : (len : Int) ≤ 1048576 := by omega
  clear g hm hm2
  go_enter Try.func4, Try.ntmps4
  go_wp2_with fail
  refine (draw_legal a len cap zs w h).mono ?_
  rintro e w1 ⟨i, t, x, y, A, n, c, G, m, kk, fp, fq, fs, fz, b, ws, gs, D, N, cc, xs, rfl, hn, hm, hN, I, J, Y, B⟩
  have L : CellsAt (w1.alloc (.cells #[.int .i64 i, .int .i64 t, .int .i64 x, .int .i64 y, .slice A n c, .slice G m kk, .int .i64 fp, .int .i64 fq, .int .i64 fs, .int .i64 fz, .int .i64 b] 29)) w1.heap.size (lvs i t x y A n c G m kk fp fq fs fz b) := CellsAt.new _ _ _ _ rfl
  have H := Lib.hid (bl_alloc B (.cells #[.int .i64 i, .int .i64 t, .int .i64 x, .int .i64 y, .slice A n c, .slice G m kk, .int .i64 fp, .int .i64 fq, .int .i64 fs, .int .i64 fz, .int .i64 b] 29))
  have hM1 : n ≤ 281474976710656 := by omega
  have hM2 : m ≤ 281474976710656 := by omega
  replace I := Lib.hid (I.alloc (.cells #[.int .i64 i, .int .i64 t, .int .i64 x, .int .i64 y, .slice A n c, .slice G m kk, .int .i64 fp, .int .i64 fq, .int .i64 fs, .int .i64 fz, .int .i64 b] 29))
  replace J := Lib.hid (J.alloc (.cells #[.int .i64 i, .int .i64 t, .int .i64 x, .int .i64 y, .slice A n c, .slice G m kk, .int .i64 fp, .int .i64 fq, .int .i64 fs, .int .i64 fz, .int .i64 b] 29))
  replace Y := Lib.hid (Y.alloc (.cells #[.int .i64 i, .int .i64 t, .int .i64 x, .int .i64 y, .slice A n c, .slice G m kk, .int .i64 fp, .int .i64 fq, .int .i64 fs, .int .i64 fz, .int .i64 b] 29))
  clear B h
  have V := (fun (W : World) (Z : Boxes W A n ws) (X : Boxes W G m gs) (U : Inputs W D N xs) => implILegal i t x y A n c G m kk fp fq fs fz b ws gs D N cc xs W Z X hM1 hM2 U (by omega))
  have S := (fun (W : World) (Z : Boxes W A n ws) (X : Boxes W G m gs) (U : Inputs W D N xs) => specILegal i t x y A n c G m kk fp fq fs fz b ws gs D N cc xs W Z X hM1 hM2 U (by omega))
  have T := fun (W : World) (Z : Boxes W A n ws) (X : Boxes W G m gs) => specLvValid i t x y A n c G m kk fp fq fs fz b ws gs W Z X hM1 hM2
  cases hv : lvB i t x y ws gs fp fq fs fz b
  · rw [il_no hv] at V S
    clear T
    replace V := Lib.hid V
    replace S := Lib.hid S
    clear hv
    have Lc0 := L.cell 0 _ rfl
    have Lc1 := L.cell 1 _ rfl
    have Lc2 := L.cell 2 _ rfl
    have Lc3 := L.cell 3 _ rfl
    have Lc4 := L.cell 4 _ rfl
    have Lc5 := L.cell 5 _ rfl
    have Lc6 := L.cell 6 _ rfl
    have Lc7 := L.cell 7 _ rfl
    have Lc8 := L.cell 8 _ rfl
    have Lc9 := L.cell 9 _ rfl
    have Lc10 := L.cell 10 _ rfl
    have Ll := L.lt
    go_wp2_with fail
    refine (V.out _ I.out J.out Y.out).mono ?_
    rintro e w2 ⟨rfl, B⟩
    replace L := L.step B
    replace I := Lib.hid (I.out.step B)
    replace J := Lib.hid (J.out.step B)
    replace Y := Lib.hid (Y.out.step B)
    replace H := Lib.hid (bl_trans H.out B)
    clear B
    clear Lc0 Lc1 Lc2 Lc3 Lc4 Lc5 Lc6 Lc7 Lc8 Lc9 Lc10 Ll
    have Lc0 := L.cell 0 _ rfl
    have Lc1 := L.cell 1 _ rfl
    have Lc2 := L.cell 2 _ rfl
    have Lc3 := L.cell 3 _ rfl
    have Lc4 := L.cell 4 _ rfl
    have Lc5 := L.cell 5 _ rfl
    have Lc6 := L.cell 6 _ rfl
    have Lc7 := L.cell 7 _ rfl
    have Lc8 := L.cell 8 _ rfl
    have Lc9 := L.cell 9 _ rfl
    have Lc10 := L.cell 10 _ rfl
    have Ll := L.lt
    go_wp2_with fail
    refine (S.out _ I.out J.out Y.out).mono ?_
    rintro e w3 ⟨rfl, B⟩
    replace L := L.step B
    replace I := Lib.hid (I.out.step B)
    replace J := Lib.hid (J.out.step B)
    replace Y := Lib.hid (Y.out.step B)
    replace H := Lib.hid (bl_trans H.out B)
    clear B
    clear Lc0 Lc1 Lc2 Lc3 Lc4 Lc5 Lc6 Lc7 Lc8 Lc9 Lc10 Ll
    go_wp2
    go_ret
    exact ⟨rfl, H.out⟩
  obtain ⟨t1, t60⟩ := lv_ticks hv
  rw [il_yes hv] at V S
  rw [hv] at T
  replace V := Lib.hid V
  replace S := Lib.hid S
  replace T := Lib.hid T
  have hlb := lg_bd t b xs 0 0 0
  by_cases g0 : 0 ≤ lgI t b xs
  · generalize lgI t b xs = gg at *
    clear hv hlb T
    have Lc0 := L.cell 0 _ rfl
    have Lc1 := L.cell 1 _ rfl
    have Lc2 := L.cell 2 _ rfl
    have Lc3 := L.cell 3 _ rfl
    have Lc4 := L.cell 4 _ rfl
    have Lc5 := L.cell 5 _ rfl
    have Lc6 := L.cell 6 _ rfl
    have Lc7 := L.cell 7 _ rfl
    have Lc8 := L.cell 8 _ rfl
    have Lc9 := L.cell 9 _ rfl
    have Lc10 := L.cell 10 _ rfl
    have Ll := L.lt
    go_wp2_with fail
    refine (V.out _ I.out J.out Y.out).mono ?_
    rintro e w2 ⟨rfl, B⟩
    replace L := L.step B
    replace I := Lib.hid (I.out.step B)
    replace J := Lib.hid (J.out.step B)
    replace Y := Lib.hid (Y.out.step B)
    replace H := Lib.hid (bl_trans H.out B)
    clear B
    clear Lc0 Lc1 Lc2 Lc3 Lc4 Lc5 Lc6 Lc7 Lc8 Lc9 Lc10 Ll
    have Lc0 := L.cell 0 _ rfl
    have Lc1 := L.cell 1 _ rfl
    have Lc2 := L.cell 2 _ rfl
    have Lc3 := L.cell 3 _ rfl
    have Lc4 := L.cell 4 _ rfl
    have Lc5 := L.cell 5 _ rfl
    have Lc6 := L.cell 6 _ rfl
    have Lc7 := L.cell 7 _ rfl
    have Lc8 := L.cell 8 _ rfl
    have Lc9 := L.cell 9 _ rfl
    have Lc10 := L.cell 10 _ rfl
    have Ll := L.lt
    go_wp2_with fail
    refine (S.out _ I.out J.out Y.out).mono ?_
    rintro e w3 ⟨rfl, B⟩
    replace L := L.step B
    replace I := Lib.hid (I.out.step B)
    replace J := Lib.hid (J.out.step B)
    replace Y := Lib.hid (Y.out.step B)
    replace H := Lib.hid (bl_trans H.out B)
    clear B
    clear Lc0 Lc1 Lc2 Lc3 Lc4 Lc5 Lc6 Lc7 Lc8 Lc9 Lc10 Ll
    go_wp2
    go_ret
    exact ⟨rfl, H.out⟩
  have hm1 : lgI t b xs = -1 := by unfold lgI at g0 ⊢; omega
  rw [hm1] at V S
  clear hlb g0
  have Lc0 := L.cell 0 _ rfl
  have Lc1 := L.cell 1 _ rfl
  have Lc2 := L.cell 2 _ rfl
  have Lc3 := L.cell 3 _ rfl
  have Lc4 := L.cell 4 _ rfl
  have Lc5 := L.cell 5 _ rfl
  have Lc6 := L.cell 6 _ rfl
  have Lc7 := L.cell 7 _ rfl
  have Lc8 := L.cell 8 _ rfl
  have Lc9 := L.cell 9 _ rfl
  have Lc10 := L.cell 10 _ rfl
  have Ll := L.lt
  go_wp2_with fail
  refine (V.out _ I.out J.out Y.out).mono ?_
  rintro e w2 ⟨rfl, B⟩
  replace L := L.step B
  replace I := Lib.hid (I.out.step B)
  replace J := Lib.hid (J.out.step B)
  replace Y := Lib.hid (Y.out.step B)
  replace H := Lib.hid (bl_trans H.out B)
  clear B
  clear Lc0 Lc1 Lc2 Lc3 Lc4 Lc5 Lc6 Lc7 Lc8 Lc9 Lc10 Ll
  have Lc0 := L.cell 0 _ rfl
  have Lc1 := L.cell 1 _ rfl
  have Lc2 := L.cell 2 _ rfl
  have Lc3 := L.cell 3 _ rfl
  have Lc4 := L.cell 4 _ rfl
  have Lc5 := L.cell 5 _ rfl
  have Lc6 := L.cell 6 _ rfl
  have Lc7 := L.cell 7 _ rfl
  have Lc8 := L.cell 8 _ rfl
  have Lc9 := L.cell 9 _ rfl
  have Lc10 := L.cell 10 _ rfl
  have Ll := L.lt
  go_wp2_with fail
  refine (S.out _ I.out J.out Y.out).mono ?_
  rintro e w3 ⟨rfl, B⟩
  replace L := L.step B
  replace I := Lib.hid (I.out.step B)
  replace J := Lib.hid (J.out.step B)
  replace Y := Lib.hid (Y.out.step B)
  replace H := Lib.hid (bl_trans H.out B)
  clear B
  clear Lc0 Lc1 Lc2 Lc3 Lc4 Lc5 Lc6 Lc7 Lc8 Lc9 Lc10 Ll
  have Lc0 := L.cell 0 _ rfl
  have Lc1 := L.cell 1 _ rfl
  have Lc2 := L.cell 2 _ rfl
  have Lc3 := L.cell 3 _ rfl
  have Lc4 := L.cell 4 _ rfl
  have Lc5 := L.cell 5 _ rfl
  have Lc6 := L.cell 6 _ rfl
  have Lc7 := L.cell 7 _ rfl
  have Lc8 := L.cell 8 _ rfl
  have Lc9 := L.cell 9 _ rfl
  have Lc10 := L.cell 10 _ rfl
  have Ll := L.lt
  go_wp2_with fail
  refine (T.out _ I.out J.out).mono ?_
  rintro e w4 ⟨rfl, B⟩
  replace L := L.step B
  replace I := Lib.hid (I.out.step B)
  replace J := Lib.hid (J.out.step B)
  replace Y := Lib.hid (Y.out.step B)
  replace H := Lib.hid (bl_trans H.out B)
  clear B
  clear Lc0 Lc1 Lc2 Lc3 Lc4 Lc5 Lc6 Lc7 Lc8 Lc9 Lc10 Ll
  have l4 := L.lt
  have nA := Lib.hid (show 0 < n → ∀ g off, A = some ⟨g, off, none⟩ → g < w4.heap.size from fun h0 g off e => lt_of_boxes I.out h0 e)
  have nG := Lib.hid (show 0 < m → ∀ g off, G = some ⟨g, off, none⟩ → g < w4.heap.size from fun h0 g off e => lt_of_boxes J.out h0 e)
  have nD := Lib.hid (show 0 < N → ∀ g off, D = some ⟨g, off, none⟩ → g < w4.heap.size from fun h0 g off e => Y.out.lt h0 g off e)
  have hwz := Lib.hid H.out.size
  have P : CellsAt (w4.alloc (.cells #[.int .i64 0, .int .i64 0, .bool false] 37)) w4.heap.size (ins 0 0 false) := CellsAt.new _ _ _ _ rfl
  replace L := L.alloc (.cells #[.int .i64 0, .int .i64 0, .bool false] 37)
  replace I := Lib.hid (I.out.alloc (.cells #[.int .i64 0, .int .i64 0, .bool false] 37))
  replace J := Lib.hid (J.out.alloc (.cells #[.int .i64 0, .int .i64 0, .bool false] 37))
  replace Y := Lib.hid (Y.out.alloc (.cells #[.int .i64 0, .int .i64 0, .bool false] 37))
  replace H := Lib.hid (bl_alloc H.out (.cells #[.int .i64 0, .int .i64 0, .bool false] 37))
  have hYl := Lib.hid Y.out.1
  replace hm1 := Lib.hid hm1
  replace hv := Lib.hid hv
  clear V S T
  go_wp2
  generalize w4.heap.size = pb at *
  go_loopw [8, 9] (PairRel w w1.heap.size pb N xs A n ws G m gs D t b (lvs i t x y A n c G m kk fp fq fs fz b)) (fun _ i _ => N - (intOf i).toNat)
  case atStart => exact ⟨0, 0, 0, 0, false, Nat.zero_le _, rfl, rfl, by omega, by decide, by omega, hm1.out, L, P, I.out, J.out, Y.out, H.out⟩
  case round =>
    clear L P I J Y H
    obtain ⟨j, a, s0, p0, z0, hj, rfl, rfl, ⟨a0, a3⟩, hs0, hjt, e0, L, P, I, J, Y, B⟩ := hrel
    have e0 := Lib.hid e0
    have H := Lib.hid B
    clear B
    by_cases hlt : j < N
    · obtain ⟨bb, off, hD, hb, hcell⟩ := Y.2 (by omega)
      have nbb := nD.out (by omega) bb off hD
      subst hD
      have Z := (hcell j hlt).lie hb
      have hjl : j < xs.length := by have := hYl.out; omega
      have hd := drop_at hjl
      clear hcell hjl
      generalize xs.getD j iz = q at *
      obtain ⟨s, p, z⟩ := q
      simp only at Z
      have e1 : lgF t b (⟨s, p, z⟩ :: xs.drop (j + 1)) j a s0 = -1 := by rw [← hd]; exact e0.out
      have hbd : badB t b j a s0 ⟨s, p, z⟩ = false := by
        cases hx : badB t b j a s0 ⟨s, p, z⟩
        · rfl
        · rw [lg_stop hx] at e1
          omega
      rw [lg_go hbd] at e1
      obtain ⟨k1, k2, k3⟩ := bad_no hbd
      simp only at k2 k3 e1
      have C := Lib.hid (fun (W : World) (U : Boxes W A n ws) (X : Boxes W G m gs) => (show Calls _ _ _ W (fun e w' => e = .returned (.bool true) ∧ Below W.heap.size W w') from by
        have c := implIFol i t x y A n c G m kk fp fq fs fz b ws gs s0 p0 z0 s p z W U X hM1 hM2
        rw [show ifB i t x y ws gs fp fq fs fz b s0 p0 z0 s p z = true by simp [ifB, hv.out, hs0, k3]] at c
        exact c))
      have iz1 := fl_val k3
      replace e1 := Lib.hid e1
      replace I := Lib.hid I
      replace J := Lib.hid J
      replace Y := Lib.hid Y
      clear hd e0 hbd k3
      have Ll := L.lt
      have Pl := P.lt
      have Zl := Z.lt
      go_wp2_with fail
      refine wp_region_held_drew (S := fun w' => CellsAt w' w1.heap.size (lvs i t x y A n c G m kk fp fq fs fz b) ∧ CellsAt w' pb (ins s0 p0 z0) ∧ (w'.cell? ⟨bb, off + j * 3, none⟩ = some (.int .i64 s) ∧ w'.cell? ⟨bb, off + j * 3 + 1, none⟩ = some (.int .i64 p) ∧ w'.cell? ⟨bb, off + j * 3 + 2, none⟩ = some (.bool z))) (by kernel_rfl) ⟨L.drew, P.drew, in_three Z.drew⟩ (fun hHeld => ?_)
      replace L := L.drew
      replace P := P.drew
      replace Z := Z.drew
      replace I := Lib.hid I.out.drew
      replace J := Lib.hid J.out.drew
      replace Y := Lib.hid Y.out.drew
      replace H := Lib.hid (bl_drew1 H.out)
      refine wpAnyH_take (i := 0) (oi := _) (v := .agg (lvs i t x y A n c G m kk fp fq fs fz b).toArray) rfl (by kernel_rfl) (by kernel_rfl) (by kernel_rfl) (fun _ _ _ h => h) (yieldsIf_load_mid (by rfl) 29 (.tmp 3) rfl w1.heap.size 0 rfl (lvs i t x y A n c G m kk fp fq fs fz b) _ (fun W hS => hS.1.range) Try.underlying29 rfl level_size) hHeld ?_
      try simp only [Act.put, List.getElem_toArray, List.getElem_cons_zero, List.setIfInBounds_toArray, List.set_cons_zero, List.set_cons_succ]
      refine wpAnyH_take (i := 1) (oi := _) (v := .agg (ins s0 p0 z0).toArray) rfl (by kernel_rfl) (by kernel_rfl) (by kernel_rfl) (fun _ _ _ h => h) (yieldsIf_load_mid (by rfl) 37 (.tmp 7) rfl pb 0 rfl (ins s0 p0 z0) _ (fun W hS => hS.2.1.range) Try.underlying37 rfl input_size) hHeld ?_
      try simp only [Act.put, List.getElem_toArray, List.getElem_cons_succ, List.getElem_cons_zero, List.setIfInBounds_toArray, List.set_cons_zero, List.set_cons_succ]
      refine wpAnyH_take (i := 2) (oi := _) (v := ?_) rfl (by kernel_rfl) (by kernel_rfl) (by kernel_rfl) (fun _ _ _ h => h) (Or.inl ⟨by rfl, ?_⟩) hHeld ?_
      rotate_left
      · intro w hSw
        try dsimp only at hSw
        go_simp
        all_goals with_reducible rfl
      try simp only [Act.put, List.getElem_toArray, List.getElem_cons_succ, List.getElem_cons_zero, List.setIfInBounds_toArray, List.set_cons_zero, List.set_cons_succ]
      refine wpAnyH_take (i := 3) (oi := _) (v := ?_) rfl (by kernel_rfl) (by kernel_rfl) (by kernel_rfl) (fun _ _ _ h => h) (Or.inl ⟨by rfl, ?_⟩) hHeld ?_
      rotate_left
      · intro w hSw
        try dsimp only at hSw
        go_simp
        all_goals with_reducible rfl
      try simp only [Act.put, List.getElem_toArray, List.getElem_cons_succ, List.getElem_cons_zero, List.setIfInBounds_toArray, List.set_cons_zero, List.set_cons_succ]
      refine wpAnyH_take (i := 4) (oi := _) (v := ?_) rfl (by kernel_rfl) (by kernel_rfl) (by kernel_rfl) (fun _ _ _ h => h) (Or.inl ⟨by rfl, ?_⟩) hHeld ?_
      rotate_left
      · intro w hSw
        try dsimp only at hSw
        go_simp
        all_goals with_reducible rfl
      try simp only [Act.put, List.getElem_toArray, List.getElem_cons_succ, List.getElem_cons_zero, List.setIfInBounds_toArray, List.set_cons_zero, List.set_cons_succ]
      refine wpAnyH_take (i := 5) (oi := _) (v := ?_) rfl (by kernel_rfl) (by kernel_rfl) (by kernel_rfl) (fun _ _ _ h => h) (Or.inl ⟨by rfl, ?_⟩) hHeld ?_
      rotate_left
      · intro w hSw
        obtain ⟨_, _, d0, d1, d2⟩ := hSw
        go_simp
        all_goals with_reducible rfl
      try simp only [Act.put, List.getElem_toArray, List.getElem_cons_succ, List.getElem_cons_zero, List.setIfInBounds_toArray, List.set_cons_zero, List.set_cons_succ]
      refine wpAnyH_ready (rs := [6]) (by kernel_rfl) (by simp) ?_
      apply AllReadyH.cons rfl ?_ AllReadyH.nil
      intro K hK
      go_simp
      go_at_call 13
      refine (C.out _ I.out J.out).mono ?_
      rintro e wn ⟨rfl, B⟩
      replace L := L.step B
      replace P := P.step B
      replace Z := Z.step B
      replace I := Lib.hid (I.out.step B)
      replace J := Lib.hid (J.out.step B)
      replace Y := Lib.hid (Y.out.step B)
      replace H := Lib.hid (bl_trans H.out B)
      clear B C
      clear hHeld
      go_wp2_with fail
      refine hK.out _ _ ⟨L, P, in_three Z⟩ (fun hHeld => ?_)
      clear hK K
      try simp only [Act.put, List.getElem_toArray, List.getElem_cons_succ, List.getElem_cons_zero, List.setIfInBounds_toArray, List.set_cons_zero, List.set_cons_succ]
      refine wpAnyH_take (i := 7) (oi := _) (v := ?_) rfl (by kernel_rfl) (by kernel_rfl) (by kernel_rfl) (fun _ _ _ h => h) (Or.inl ⟨by rfl, ?_⟩) hHeld ?_
      rotate_left
      · intro w hSw
        try dsimp only at hSw
        go_simp
        all_goals with_reducible rfl
      try simp only [Act.put, List.getElem_toArray, List.getElem_cons_succ, List.getElem_cons_zero, List.setIfInBounds_toArray, List.set_cons_zero, List.set_cons_succ]
      refine wpAnyH_done (by kernel_rfl) ?_ _
      have Pc0 := P.cell 0 _ rfl
      have Pc1 := P.cell 1 _ rfl
      have Pc2 := P.cell 2 _ rfl
      have Pf0 := P.fr 0
      have Pf1 := P.fr 1
      have Pf2 := P.fr 2
      have Zc0 := Z.c0
      have Zc1 := Z.c1
      have Zc2 := Z.c2
      replace Pl := P.lt
      replace Zl := Z.lt
      cases z
      · simp only [psI] at k2 e1
        go_wp2
        go_roundw
        case rel => exact ⟨j + 1, a, s, p, false, by omega, by go_num, rfl, (by simp at k2; omega), iz1, by omega, (by have := e1.out; simpa using this), ((L.far (by omega) _ _).far (by omega) _ _).far (by omega) _ _, ((P.set 0 (by simp) _).set 1 (by simp) _).set 2 (by simp) _, I.out.kept (kset (kset (kset (Kept.refl pb _) _ _) _ _) _ _) (fun h0 g off e => by have := nA.out h0 g off e; omega), J.out.kept (kset (kset (kset (Kept.refl pb _) _ _) _ _) _ _) (fun h0 g off e => by have := nG.out h0 g off e; omega), Y.out.kept (kset (kset (kset (Kept.refl pb _) _ _) _ _) _ _) (fun h0 g off e => by cases e; omega), bl_set (bl_set (bl_set H.out _ _ _ (by have := hwz.out; omega)) _ _ _ (by have := hwz.out; omega)) _ _ _ (by have := hwz.out; omega)⟩
        case measure => simp [intOf]; omega
      · simp only [psI] at k2 e1
        go_wp2
        go_roundw
        case rel => exact ⟨j + 1, a + 1, s, p, true, by omega, by go_num, by go_num, (by simp at k2; omega), iz1, by omega, (by have := e1.out; simpa using this), ((L.far (by omega) _ _).far (by omega) _ _).far (by omega) _ _, ((P.set 0 (by simp) _).set 1 (by simp) _).set 2 (by simp) _, I.out.kept (kset (kset (kset (Kept.refl pb _) _ _) _ _) _ _) (fun h0 g off e => by have := nA.out h0 g off e; omega), J.out.kept (kset (kset (kset (Kept.refl pb _) _ _) _ _) _ _) (fun h0 g off e => by have := nG.out h0 g off e; omega), Y.out.kept (kset (kset (kset (Kept.refl pb _) _ _) _ _) _ _) (fun h0 g off e => by cases e; omega), bl_set (bl_set (bl_set H.out _ _ _ (by have := hwz.out; omega)) _ _ _ (by have := hwz.out; omega)) _ _ _ (by have := hwz.out; omega)⟩
        case measure => simp [intOf]; omega
    · have hjN : j = N := by omega
      have L1 := L.cell 1 _ rfl
      have Ll := L.lt
      have g1 : (N : Int) ≤ t := by omega
      clear I J Y
      go_wp2
      go_ret
      exact ⟨rfl, H.out⟩

end Go.Proofs.Ytagbeneapmpooab
