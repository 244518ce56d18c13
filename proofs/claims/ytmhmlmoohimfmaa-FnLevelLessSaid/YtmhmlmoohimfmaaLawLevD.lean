/-
  The walk of the law FnLevelLess.
-/
import Derived.Test.YtmhmlmoohimfmaaDrawLevC
import Derived.Test.YtmhmlmoohimfmaaLevHashImplB
import Derived.Test.YtmhmlmoohimfmaaLevLaws
namespace Go.Proofs.Ytmhmlmoohimfmaa
open Go.RowKit
open M

theorem Boxes.first {W : World} {A : Option Addr} {n : Nat} {bs : List Bx} (h : Boxes W A n bs) {k : Nat} (hk : k ≤ n) : Boxes W A k (bs.take k) :=
  ⟨by rw [List.length_take]; have := h.1; omega, fun h0 => by
    obtain ⟨b, off, e, hb, hc⟩ := h.2 (by omega)
    refine ⟨b, off, e, hb, fun j hj => ?_⟩
    have e2 : (bs.take k).getD j bz = bs.getD j bz := by
      rw [List.getD_eq_getElem?_getD, List.getD_eq_getElem?_getD, List.getElem?_take_of_lt hj]
    rw [e2]
    exact hc j (by omega)⟩
theorem Boxes.behind {W : World} {b off n : Nat} {bs : List Bx} (h : Boxes W (some ⟨b, off, none⟩) n bs) {k : Nat} (hk : k ≤ n) : Boxes W (some ⟨b, off + k * 4, none⟩) (n - k) (bs.drop k) :=
  ⟨by rw [List.length_drop]; have := h.1; omega, fun h0 => by
    obtain ⟨b', off', e, hb, hc⟩ := h.2 (by omega)
    cases e
    refine ⟨b, off + k * 4, rfl, hb, fun j hj => ?_⟩
    have e2 : (bs.drop k).getD j bz = bs.getD (k + j) bz := by
      rw [List.getD_eq_getElem?_getD, List.getD_eq_getElem?_getD, List.getElem?_drop]
    rw [e2, show off + k * 4 + j * 4 = off + (k + j) * 4 by omega]
    exact hc (k + j) (by omega)⟩
theorem Boxes.void {W : World} {A : Option Addr} {n k : Nat} {bs : List Bx} (h : Boxes W A n bs) (hk : n ≤ k) : Boxes W A (n - k) (bs.drop k) :=
  ⟨by rw [List.length_drop]; have := h.1; omega, fun h0 => absurd h0 (by omega)⟩
/-- At a step of a region that draws its order: an append of a slice of boxes to a row of the call's own. -/
theorem step_append_boxes (w : World) {o : Oper} {a : Act} {K : Act → World → Prop} {Q : Exit → Act → World → Prop} (s x : Operand)
    (ho : o.op = .call { callee := .builtin .append, args := #[s, x], argTypes := #[25, 25] }) (base : Nat) (v : Value) (n : Nat) (qs : List Bx) (hs : a.eval s = v) (hown : w.ownsRow base 27 4 v n (vcl qs))
    (A : Option Addr) (m c : Nat) (bs : List Bx) (hx : a.eval x = .slice A m c) (I : Boxes w A m bs) (hn : n + m ≤ 1000000) (hb : base ≤ w.heap.size)
    (h : ∀ v' w', w'.ownsRow base 27 4 v' (n + m) (vcl (qs ++ bs)) → w.grownBy w' v.ownBlock → (v'.ownBlock = v.ownBlock ∨ v'.ownBlock = some w.heap.size) → K (a.put o.dst v') w') : o.wp Try.prog a w K Q := by
  obtain ⟨v', w', hr, h2, h3, h4⟩ := run_append_boxes w base o.type v n qs hown A m c bs I hn hb
  unfold Oper.wp execOp
  simp only [ho, resolve, invoke, builtin, Sem.run_bind, Sem.run_pure, Result.andThen_ok, List.map_toArray, List.map_cons, List.map_nil, hs, hx, hr]
  exact h v' w' h2 h3 h4
theorem mem_less {ws : List Bx} {k : Nat} : ∀ z ∈ ws.take k ++ ws.drop (k + 1), z ∈ ws := fun _z hz => (List.mem_append.1 hz).elim List.mem_of_mem_take List.mem_of_mem_drop
theorem wp_at2 {P : Program} {code : Code} {Q : Exit → Act → World → Prop} {a : Act} {W : World} (S : World → Prop) (hS : S W) (h : ∀ W', S W' → code.wp P Q a W') : code.wp P Q a W := h W hS

set_option maxRecDepth 100000 in
set_option maxHeartbeats 4000000 in
theorem walk_FnLevelLess (a : Option Addr) (len cap : Nat) (zs : List Int) (a2 : Option Addr) (len2 cap2 : Nat) (zs2 : List Int) (w : World) (h : IsRow .u8 w a len cap zs) (h2 : IsRow .u8 w a2 len2 cap2 zs2) :
    Calls Try.prog 5 #[.slice a len cap, .slice a2 len2 cap2] w fun e w' => e = .returned (.bool true) ∧ Below w.heap.size w w' := by
  have hm := h.bytes.1
  have hm2 := h.bytes.2.1
  unfold maxLen at hm2
  have hn := h2.bytes.1
  have hn2 := h2.bytes.2.1
  unfold maxLen at hn2
  clear h2
  by_cases g : 1048576 < len
  · have g1 : (1048576 : Int) < (len : Int) := by omega
    go_enter Try.func5, Try.ntmps5
    go_wp2
    go_ret
    exact ⟨rfl, Below.refl _ _⟩
  have g1 : (len : Int) ≤ 1048576 := by omega
  by_cases k : 1048576 < len2
  · have k1 : (1048576 : Int) < (len2 : Int) := by omega
    go_enter Try.func5, Try.ntmps5
    go_wp2
    go_ret
    exact ⟨rfl, Below.refl _ _⟩
  have k1 : (len2 : Int) ≤ 1048576 := by omega
  clear k hn hn2
  clear g hm hm2
  go_enter Try.func5, Try.ntmps5
  go_wp2_with fail
  refine (draw_lfree a len cap zs w h).mono ?_
  rintro e w1 ⟨i, t, x, y, A, n, c, G, m, kk, p, q, s, z, b, ws, gs, u, v, rfl, hn, hm, I, J, _, _, B⟩
  have D0 : CellsAt ((w1.alloc (.cells #[.int .i64 0, .int .i64 0, .int .i64 0, .int .i64 0, .slice none 0 0, .slice none 0 0, .int .i64 0, .int .i64 0, .int .i64 0, .int .i64 0, .int .i64 0] 29)).alloc (.cells #[.int .i64 0, .int .i64 0] 24)) w1.heap.size (lvs 0 0 0 0 none 0 0 none 0 0 0 0 0 0 0) := (CellsAt.new _ _ _ _ rfl).alloc _
  have E0 : CellsAt ((w1.alloc (.cells #[.int .i64 0, .int .i64 0, .int .i64 0, .int .i64 0, .slice none 0 0, .slice none 0 0, .int .i64 0, .int .i64 0, .int .i64 0, .int .i64 0, .int .i64 0] 29)).alloc (.cells #[.int .i64 0, .int .i64 0] 24)) (w1.heap.size + 1) [.int .i64 0, .int .i64 0] := CellsAt.new _ _ _ _ (by simp)
  have nA := Lib.hid (show 0 < n → ∀ g off, A = some ⟨g, off, none⟩ → g < w1.heap.size from fun h0 g off e => lt_of_boxes I h0 e)
  have nG := Lib.hid (show 0 < m → ∀ g off, G = some ⟨g, off, none⟩ → g < w1.heap.size from fun h0 g off e => lt_of_boxes J h0 e)
  replace I := Lib.hid ((I.alloc (.cells #[.int .i64 0, .int .i64 0, .int .i64 0, .int .i64 0, .slice none 0 0, .slice none 0 0, .int .i64 0, .int .i64 0, .int .i64 0, .int .i64 0, .int .i64 0] 29)).alloc (.cells #[.int .i64 0, .int .i64 0] 24))
  replace J := Lib.hid ((J.alloc (.cells #[.int .i64 0, .int .i64 0, .int .i64 0, .int .i64 0, .slice none 0 0, .slice none 0 0, .int .i64 0, .int .i64 0, .int .i64 0, .int .i64 0, .int .i64 0] 29)).alloc (.cells #[.int .i64 0, .int .i64 0] 24))
  have H := Lib.hid (bl_alloc (bl_alloc B (.cells #[.int .i64 0, .int .i64 0, .int .i64 0, .int .i64 0, .slice none 0 0, .slice none 0 0, .int .i64 0, .int .i64 0, .int .i64 0, .int .i64 0, .int .i64 0] 29)) (.cells #[.int .i64 0, .int .i64 0] 24))
  have B0 := Lib.hid B.size
  have hN : n ≤ 281474976710656 := by omega
  have hM : m ≤ 281474976710656 := by omega
  clear B h
  go_wp2_with (refine store_new rfl 29 (.tmp 5) (.tmp 22) rfl w1.heap.size rfl (lvs i t x y A n c G m kk p q s z b) rfl _ D0 (by simp) level_size rfl ?_)
  intro w2 K L
  have z2 := K.size
  simp at z2
  replace I := Lib.hid (I.out.kept K (fun h0 g off e => by have := nA.out h0 g off e; omega))
  replace J := Lib.hid (J.out.kept K (fun h0 g off e => by have := nG.out h0 g off e; omega))
  have E1 := E0.kept K (by omega)
  replace H := Lib.hid (kp_below H.out K (by have := B0.out; omega))
  clear K D0 E0
  go_wp2_with (refine store_new rfl 24 (.tmp 6) (.tmp 23) rfl (w1.heap.size + 1) rfl [.int .i64 u, .int .i64 v] rfl _ E1 (by simp) vec_size rfl ?_)
  intro w3 K E
  have z3 := K.size
  replace I := Lib.hid (I.out.kept K (fun h0 g off e => by have := nA.out h0 g off e; omega))
  replace J := Lib.hid (J.out.kept K (fun h0 g off e => by have := nG.out h0 g off e; omega))
  replace L := L.kept K (by omega)
  replace H := Lib.hid (kp_below H.out K (by have := B0.out; omega))
  clear K E1
  have V := Lib.hid (fun (W : World) (Z : Boxes W A n ws) (Y : Boxes W G m gs) => implLvFree i t x y A n c G m kk p q s z b ws gs u v W Z Y hN hM)
  have S := Lib.hid (fun (W : World) (Z : Boxes W A n ws) (Y : Boxes W G m gs) => specLvFree i t x y A n c G m kk p q s z b ws gs u v W Z Y hN hM)
  cases hf : lfB i t x y ws gs p q s z b u v
  · rw [hf] at V S
    have Lc0 := L.cell 0 _ rfl
    have Lc1 := L.cell 1 _ rfl
    have Lc2 := L.cell 2 _ rfl
    have Lc3 := L.cell 3 _ rfl
    have Lc4 := L.cell 4 _ rfl
    have Lc5 := L.cell 5 _ rfl
    have Lc6 := L.cell 6 _ rfl
    have Lc7 := L.cell 7 _ rfl
    have Lc8 := L.cell 8 _ rfl
    have Lc9 := L.cell 9 _ rfl
    have Lc10 := L.cell 10 _ rfl
    have Ll := L.lt
    have Ec0 := E.cell 0 _ rfl
    have Ec1 := E.cell 1 _ rfl
    have El := E.lt
    go_wp2_with fail
    refine (V.out _ I.out J.out).mono ?_
    rintro e w4 ⟨rfl, B⟩
    replace L := L.step B
    replace E := E.step B
    replace I := Lib.hid (I.out.step B)
    replace J := Lib.hid (J.out.step B)
    replace H := Lib.hid (bl_trans H.out B)
    clear B
    clear Lc0 Lc1 Lc2 Lc3 Lc4 Lc5 Lc6 Lc7 Lc8 Lc9 Lc10 Ll Ec0 Ec1 El
    have Lc0 := L.cell 0 _ rfl
    have Lc1 := L.cell 1 _ rfl
    have Lc2 := L.cell 2 _ rfl
    have Lc3 := L.cell 3 _ rfl
    have Lc4 := L.cell 4 _ rfl
    have Lc5 := L.cell 5 _ rfl
    have Lc6 := L.cell 6 _ rfl
    have Lc7 := L.cell 7 _ rfl
    have Lc8 := L.cell 8 _ rfl
    have Lc9 := L.cell 9 _ rfl
    have Lc10 := L.cell 10 _ rfl
    have Ll := L.lt
    have Ec0 := E.cell 0 _ rfl
    have Ec1 := E.cell 1 _ rfl
    have El := E.lt
    go_wp2_with fail
    refine (S.out _ I.out J.out).mono ?_
    rintro e w5 ⟨rfl, B⟩
    replace L := L.step B
    replace E := E.step B
    replace I := Lib.hid (I.out.step B)
    replace J := Lib.hid (J.out.step B)
    replace H := Lib.hid (bl_trans H.out B)
    clear B
    clear Lc0 Lc1 Lc2 Lc3 Lc4 Lc5 Lc6 Lc7 Lc8 Lc9 Lc10 Ll Ec0 Ec1 El
    go_wp2
    go_ret
    exact ⟨rfl, H.out⟩
  rw [hf] at V S
  have Lc0 := L.cell 0 _ rfl
  have Lc1 := L.cell 1 _ rfl
  have Lc2 := L.cell 2 _ rfl
  have Lc3 := L.cell 3 _ rfl
  have Lc4 := L.cell 4 _ rfl
  have Lc5 := L.cell 5 _ rfl
  have Lc6 := L.cell 6 _ rfl
  have Lc7 := L.cell 7 _ rfl
  have Lc8 := L.cell 8 _ rfl
  have Lc9 := L.cell 9 _ rfl
  have Lc10 := L.cell 10 _ rfl
  have Ll := L.lt
  have Ec0 := E.cell 0 _ rfl
  have Ec1 := E.cell 1 _ rfl
  have El := E.lt
  go_wp2_with fail
  refine (V.out _ I.out J.out).mono ?_
  rintro e w4 ⟨rfl, B⟩
  replace L := L.step B
  replace E := E.step B
  replace I := Lib.hid (I.out.step B)
  replace J := Lib.hid (J.out.step B)
  replace H := Lib.hid (bl_trans H.out B)
  clear B
  clear Lc0 Lc1 Lc2 Lc3 Lc4 Lc5 Lc6 Lc7 Lc8 Lc9 Lc10 Ll Ec0 Ec1 El
  have Lc0 := L.cell 0 _ rfl
  have Lc1 := L.cell 1 _ rfl
  have Lc2 := L.cell 2 _ rfl
  have Lc3 := L.cell 3 _ rfl
  have Lc4 := L.cell 4 _ rfl
  have Lc5 := L.cell 5 _ rfl
  have Lc6 := L.cell 6 _ rfl
  have Lc7 := L.cell 7 _ rfl
  have Lc8 := L.cell 8 _ rfl
  have Lc9 := L.cell 9 _ rfl
  have Lc10 := L.cell 10 _ rfl
  have Ll := L.lt
  have Ec0 := E.cell 0 _ rfl
  have Ec1 := E.cell 1 _ rfl
  have El := E.lt
  go_wp2_with fail
  refine (S.out _ I.out J.out).mono ?_
  rintro e w5 ⟨rfl, B⟩
  replace L := L.step B
  replace E := E.step B
  replace I := Lib.hid (I.out.step B)
  replace J := Lib.hid (J.out.step B)
  replace H := Lib.hid (bl_trans H.out B)
  clear B
  clear Lc0 Lc1 Lc2 Lc3 Lc4 Lc5 Lc6 Lc7 Lc8 Lc9 Lc10 Ll Ec0 Ec1 El
  clear V S
  rcases Nat.eq_zero_or_pos n with rfl | hpos
  · have Lc0 := L.cell 0 _ rfl
    have Lc1 := L.cell 1 _ rfl
    have Lc2 := L.cell 2 _ rfl
    have Lc3 := L.cell 3 _ rfl
    have Lc4 := L.cell 4 _ rfl
    have Lc5 := L.cell 5 _ rfl
    have Lc6 := L.cell 6 _ rfl
    have Lc7 := L.cell 7 _ rfl
    have Lc8 := L.cell 8 _ rfl
    have Lc9 := L.cell 9 _ rfl
    have Lc10 := L.cell 10 _ rfl
    have Ll := L.lt
    have Ec0 := E.cell 0 _ rfl
    have Ec1 := E.cell 1 _ rfl
    have El := E.lt
    go_wp2
    go_ret
    exact ⟨rfl, H.out⟩
  obtain ⟨ab, ao, rfl, hab, _⟩ := I.out.2 hpos
  obtain ⟨k, hk⟩ : ∃ k : Nat, (len2 : Int) % (n : Int) = (k : Int) := ⟨len2 % n, by omega⟩
  have kn : k < n := by have := Int.emod_lt_of_pos (len2 : Int) (b := (n : Int)) (by omega); omega
  have hk2 : (len2 : Int).tmod (n : Int) = (k : Int) := by rw [Int.tmod_eq_emod_of_nonneg (by omega)]; exact hk
  have nne : ((n : Int) == 0) = false := beq_eq_false_iff_ne.2 (by omega)
  have nz : (n : Int) ≠ 0 := by omega
  have Lc0 := L.cell 0 _ rfl
  have Lc1 := L.cell 1 _ rfl
  have Lc2 := L.cell 2 _ rfl
  have Lc3 := L.cell 3 _ rfl
  have Lc4 := L.cell 4 _ rfl
  have Lc5 := L.cell 5 _ rfl
  have Lc6 := L.cell 6 _ rfl
  have Lc7 := L.cell 7 _ rfl
  have Lc8 := L.cell 8 _ rfl
  have Lc9 := L.cell 9 _ rfl
  have Lc10 := L.cell 10 _ rfl
  have Ll := L.lt
  have Ec0 := E.cell 0 _ rfl
  have Ec1 := E.cell 1 _ rfl
  have El := E.lt
  go_upto_region 10 with fail
  refine wp_at2 (fun W' => CellsAt W' w1.heap.size (lvs i t x y (some ⟨ab, ao, none⟩) n c G m kk p q s z b) ∧ CellsAt W' (w1.heap.size + 1) [.int .i64 u, .int .i64 v] ∧ CellsAt W' w5.heap.size (lvs i t x y (some ⟨ab, ao, none⟩) n c G m kk p q s z b) ∧ Boxes W' (some ⟨ab, ao, none⟩) n ws ∧ Boxes W' G m gs ∧ Below w.heap.size w W') ⟨L.alloc _, E.alloc _, CellsAt.new w5 _ _ _ rfl, I.out.alloc _, J.out.alloc _, bl_alloc H.out _⟩ ?_
  have l15 := L.lt
  have l25 := E.lt
  have Hw := Lib.hid H.out.size
  clear Lc0 Lc1 Lc2 Lc3 Lc4 Lc5 Lc6 Lc7 Lc8 Lc9 Lc10 Ll Ec0 Ec1 El
  clear L E I J H hk hk2 nne nz
  rintro w6 ⟨L, E, X, I, J, H⟩
  replace I := Lib.hid I
  replace J := Lib.hid J
  replace H := Lib.hid H
  have xl := X.lt
  have nx := Lib.hid (show ∀ g off, (some ⟨ab, ao, none⟩) = some (⟨g, off, none⟩ : Addr) → g < w6.heap.size from fun g off e => lt_of_boxes I.out hpos e)
  have k0 : (0 : Int) ≤ (k : Int) := by omega
  have kc : (k : Int) ≤ (c : Int) := by omega
  have kc2 : k ≤ c := by omega
  have e1 : IntKind.i64.wrap ((k : Int) + 1) = (k : Int) + 1 := IntWalk.i64_in _ (by omega)
  have e2 : (0 : Int) ≤ (k : Int) + 1 := by omega
  have e3 : (k : Int) + 1 ≤ (n : Int) := by omega
  have e4 : ((k : Int) + 1).toNat = k + 1 := by omega
  have e5 : (n : Int) ≤ (c : Int) := by omega
  have e6 : n ≤ c := by omega
  have e7 : k + 1 ≤ n := by omega
  have e8 : (k : Int) + 1 ≤ (c : Int) := by omega
  by_cases hc : c = k + 1
  · subst hc
    have kc3 : (k : Int) ≤ (k : Int) + 1 := by omega
    clear kc e8
    refine wp_region_held_drew (S := fun w' => CellsAt w' w1.heap.size (lvs i t x y (some ⟨ab, ao, none⟩) n (k + 1) G m kk p q s z b)) (by kernel_rfl) (by repeat (first | with_reducible exact L8 | with_reducible exact L7 | with_reducible exact L | with_reducible refine CellsAt.far ?_ (by omega) _ _ | with_reducible refine CellsAt.alloc ?_ _ | with_reducible refine CellsAt.drew ?_)) (fun hHeld => ?_)
    refine wpAnyH_take (i := 1) (oi := _) (v := ?_) rfl (by kernel_rfl) (by kernel_rfl) (by kernel_rfl) (fun _ _ _ h => h) (Or.inl ⟨by rfl, ?_⟩) hHeld ?_
    rotate_left
    · intro w hSw
      try dsimp only at hSw
      go_simp
      all_goals with_reducible rfl
    try simp only [Act.put, List.getElem_toArray, List.getElem_cons_succ, List.getElem_cons_zero, List.setIfInBounds_toArray, List.set_cons_zero, List.set_cons_succ]
    refine wpAnyH_take (i := 2) (oi := _) (v := ?_) rfl (by kernel_rfl) (by kernel_rfl) (by kernel_rfl) (fun _ _ _ h => h) (Or.inl ⟨by rfl, ?_⟩) hHeld ?_
    rotate_left
    · intro w hSw
      have c4 := hSw.cell 4 _ rfl
      go_simp
      all_goals with_reducible rfl
    try simp only [Act.put, List.getElem_toArray, List.getElem_cons_succ, List.getElem_cons_zero, List.setIfInBounds_toArray, List.set_cons_zero, List.set_cons_succ]
    refine wpAnyH_take (i := 3) (oi := _) (v := ?_) rfl (by kernel_rfl) (by kernel_rfl) (by kernel_rfl) (fun _ _ _ h => h) (Or.inl ⟨by rfl, ?_⟩) hHeld ?_
    rotate_left
    · intro w hSw
      try dsimp only at hSw
      go_simp
      all_goals with_reducible rfl
    try simp only [Act.put, List.getElem_toArray, List.getElem_cons_succ, List.getElem_cons_zero, List.setIfInBounds_toArray, List.set_cons_zero, List.set_cons_succ]
    refine wpAnyH_take (i := 4) (oi := _) (v := ?_) rfl (by kernel_rfl) (by kernel_rfl) (by kernel_rfl) (fun _ _ _ h => h) (Or.inl ⟨by rfl, ?_⟩) hHeld ?_
    rotate_left
    · intro w hSw
      try dsimp only at hSw
      go_simp
      all_goals with_reducible rfl
    try simp only [Act.put, List.getElem_toArray, List.getElem_cons_succ, List.getElem_cons_zero, List.setIfInBounds_toArray, List.set_cons_zero, List.set_cons_succ]
    refine wpAnyH_take (i := 6) (oi := _) (v := ?_) rfl (by kernel_rfl) (by kernel_rfl) (by kernel_rfl) (fun _ _ _ h => h) (Or.inl ⟨by rfl, ?_⟩) hHeld ?_
    rotate_left
    · intro w hSw
      try dsimp only at hSw
      go_simp
      all_goals with_reducible rfl
    try simp only [Act.put, List.getElem_toArray, List.getElem_cons_succ, List.getElem_cons_zero, List.setIfInBounds_toArray, List.set_cons_zero, List.set_cons_succ]
    refine wpAnyH_take (i := 7) (oi := _) (v := ?_) rfl (by kernel_rfl) (by kernel_rfl) (by kernel_rfl) (fun _ _ _ h => h) (Or.inl ⟨by rfl, ?_⟩) hHeld ?_
    rotate_left
    · intro w hSw
      have c4 := hSw.cell 4 _ rfl
      go_simp
      all_goals with_reducible rfl
    try simp only [Act.put, List.getElem_toArray, List.getElem_cons_succ, List.getElem_cons_zero, List.setIfInBounds_toArray, List.set_cons_zero, List.set_cons_succ]
    refine wpAnyH_take (i := 8) (oi := _) (v := ?_) rfl (by kernel_rfl) (by kernel_rfl) (by kernel_rfl) (fun _ _ _ h => h) (Or.inl ⟨by rfl, ?_⟩) hHeld ?_
    rotate_left
    · intro w hSw
      try dsimp only at hSw
      go_simp
      all_goals with_reducible rfl
    try simp only [Act.put, List.getElem_toArray, List.getElem_cons_succ, List.getElem_cons_zero, List.setIfInBounds_toArray, List.set_cons_zero, List.set_cons_succ]
    refine wpAnyH_take (i := 9) (oi := _) (v := ?_) rfl (by kernel_rfl) (by kernel_rfl) (by kernel_rfl) (fun _ _ _ h => h) (Or.inl ⟨by rfl, ?_⟩) hHeld ?_
    rotate_left
    · intro w hSw
      try dsimp only at hSw
      go_simp
      all_goals with_reducible rfl
    try simp only [Act.put, List.getElem_toArray, List.getElem_cons_succ, List.getElem_cons_zero, List.setIfInBounds_toArray, List.set_cons_zero, List.set_cons_succ]
    refine wpAnyH_take (i := 10) (oi := _) (v := ?_) rfl (by kernel_rfl) (by kernel_rfl) (by kernel_rfl) (fun _ _ _ h => h) (Or.inl ⟨by rfl, ?_⟩) hHeld ?_
    rotate_left
    · intro w hSw
      try dsimp only at hSw
      go_simp
      all_goals with_reducible rfl
    try simp only [Act.put, List.getElem_toArray, List.getElem_cons_succ, List.getElem_cons_zero, List.setIfInBounds_toArray, List.set_cons_zero, List.set_cons_succ]
    refine wpAnyH_ready (rs := [0]) (by kernel_rfl) (by simp) ?_
    apply AllReadyH.cons rfl ?_ AllReadyH.nil
    intro K hK
    go_simp
    refine hK.out _ _ (by repeat (first | with_reducible exact L8 | with_reducible exact L7 | with_reducible exact L | with_reducible refine CellsAt.far ?_ (by omega) _ _ | with_reducible refine CellsAt.alloc ?_ _ | with_reducible refine CellsAt.drew ?_)) (fun hHeld => ?_)
    clear hK K
    try simp only [Act.put, List.getElem_toArray, List.getElem_cons_succ, List.getElem_cons_zero, List.setIfInBounds_toArray, List.set_cons_zero, List.set_cons_succ]
    refine wpAnyH_ready (rs := [5]) (by kernel_rfl) (by simp) ?_
    apply AllReadyH.cons rfl ?_ AllReadyH.nil
    intro K hK
    dsimp only [List.getElem_toArray, List.getElem_cons_succ, List.getElem_cons_zero]
    rw [if_pos (by rfl)]
    refine step_append_boxes _ (.tmp 53) (.tmp 57) rfl w6.heap.size (.slice (some ⟨w6.heap.size, 0, none⟩) 0 0) 0 [] rfl (own_empty w6.drew w6.heap.size w6.heap.size rfl (Nat.le_refl _)) _ _ _ (ws.take k) rfl ((I.out.drew.alloc _).first (by omega)) (by omega) (by simp) ?_
    intro v7 w7 O7 G7 hat
    have z7 := G7.size
    simp at z7
    have L7 := (L.drew.alloc _).grown G7 (by simp [Value.ownBlock]; omega)
    have E7 := (E.drew.alloc _).grown G7 (by simp [Value.ownBlock]; omega)
    have X7 := (X.drew.alloc _).grown G7 (by simp [Value.ownBlock]; omega)
    have I7 := Lib.hid ((I.out.drew.alloc _).grown G7 (fun h0 g off e => by have := nx.out g off e; simp [Value.ownBlock]; omega))
    have J7 := Lib.hid ((J.out.drew.alloc _).grown G7 (fun h0 g off e => by have := lt_of_boxes J.out h0 e; simp [Value.ownBlock]; omega))
    have H7 := Lib.hid ((bl_alloc (bl_drew1 H.out) _).grown G7 (by have := H.out.size; simp; omega) (fun g e => by have := H.out.size; simp [Value.ownBlock] at e; omega))
    have N7 := Lib.hid (show ∀ g, v7.ownBlock = some g → w6.heap.size ≤ g from fun g e => (O7.lt g e).1)
    replace O7 := Lib.hid O7
    clear G7 hat hHeld
    refine hK.out _ _ (by repeat (first | with_reducible exact L8 | with_reducible exact L7 | with_reducible exact L | with_reducible refine CellsAt.far ?_ (by omega) _ _ | with_reducible refine CellsAt.alloc ?_ _ | with_reducible refine CellsAt.drew ?_)) (fun hHeld => ?_)
    clear hK K
    try simp only [Act.put, List.setIfInBounds_toArray, List.set_cons_zero, List.set_cons_succ]
    refine wpAnyH_ready (rs := [11]) (by kernel_rfl) (by simp) ?_
    apply AllReadyH.cons rfl ?_ AllReadyH.nil
    intro K hK
    dsimp only [List.getElem_toArray, List.getElem_cons_succ, List.getElem_cons_zero]
    rw [if_pos (by rfl)]
    refine step_append_boxes _ (.tmp 58) (.tmp 63) rfl w6.heap.size v7 k (ws.take k) rfl (by simpa using O7.out) _ _ _ (ws.drop (k + 1)) rfl (by have t := I7.out.void (k := k + 1) (by omega); rwa [show n - (k + 1) = 0 by omega] at t) (by omega) (by omega) ?_
    intro v8 w8 O8 G8 hat
    have z8 := G8.size
    have L8 := L7.grown G8 (fun e => by have := N7.out _ e; omega)
    have E8 := E7.grown G8 (fun e => by have := N7.out _ e; omega)
    have X8 := X7.grown G8 (fun e => by have := N7.out _ e; omega)
    have J8 := Lib.hid (J7.out.grown G8 (fun h0 g off e f => by have := N7.out _ f; have := lt_of_boxes J.out h0 e; omega))
    have H8 := Lib.hid (H7.out.grown G8 (by have := H7.out.size; omega) (fun g e => by have := N7.out g e; have := H.out.size; omega))
    obtain ⟨A8, c8, rfl, I8, M8⟩ := Boxes.of_own O8
    replace I8 := Lib.hid I8
    replace M8 := Lib.hid M8
    clear O8 G8 hat hHeld L7 E7 X7 I7 J7 H7 O7 N7
    have xc := X8.cell 4 _ rfl
    have xf := X8.fr 4
    have xm := X8.lt
    refine hK.out _ _ (by repeat (first | with_reducible exact L8 | with_reducible exact L7 | with_reducible exact L | with_reducible refine CellsAt.far ?_ (by omega) _ _ | with_reducible refine CellsAt.alloc ?_ _ | with_reducible refine CellsAt.drew ?_)) (fun hHeld => ?_)
    clear hK K
    try simp only [Act.put, List.setIfInBounds_toArray, List.set_cons_zero, List.set_cons_succ]
    refine wpAnyH_take (i := 12) (oi := _) (v := ?_) rfl (by kernel_rfl) (by kernel_rfl) (by kernel_rfl) (fun _ _ _ h => h) (Or.inl ⟨by rfl, ?_⟩) hHeld ?_
    rotate_left
    · intro w hSw
      try dsimp only at hSw
      go_simp
      all_goals with_reducible rfl
    try simp only [Act.put, List.getElem_toArray, List.getElem_cons_succ, List.getElem_cons_zero, List.setIfInBounds_toArray, List.set_cons_zero, List.set_cons_succ]
    refine wpAnyH_ready (rs := [13]) (by kernel_rfl) (by simp) ?_
    apply AllReadyH.cons rfl ?_ AllReadyH.nil
    intro K hK
    go_simp
    refine hK.out _ _ (by repeat (first | with_reducible exact L8 | with_reducible exact L7 | with_reducible exact L | with_reducible refine CellsAt.far ?_ (by omega) _ _ | with_reducible refine CellsAt.alloc ?_ _ | with_reducible refine CellsAt.drew ?_)) (fun hHeld => ?_)
    clear hK K
    try simp only [Act.put, List.getElem_toArray, List.getElem_cons_succ, List.getElem_cons_zero, List.setIfInBounds_toArray, List.set_cons_zero, List.set_cons_succ]
    refine wpAnyH_done (by kernel_rfl) ?_ _
    clear e1 e2 e4 xc xf
    go_upto_region 11 with fail
    refine wp_at2 (fun W' => CellsAt W' (w1.heap.size + 1) [.int .i64 u, .int .i64 v] ∧ CellsAt W' w5.heap.size (lvs i t x y A8 k c8 G m kk p q s z b) ∧ Boxes W' A8 k (ws.take k ++ ws.drop (k + 1)) ∧ Boxes W' G m gs ∧ Below w.heap.size w W') ⟨E8.far (by omega) _ _, X8.set 4 (by simp) _, I8.out.kept (kset (Kept.refl w5.heap.size _) _ _) (fun _ g off e => by have := M8.out g off e; omega), J8.out.kept (kset (Kept.refl w5.heap.size _) _ _) (fun h0 g off e => by have := nG.out h0 g off e; omega), bl_set H8.out _ _ _ (by have := Hw.out; omega)⟩ ?_
    clear E8 X8 I8 J8 H8 L8 M8 E X L I J H
    rintro w9 ⟨E, X, I, J, H⟩
    replace I := Lib.hid I
    replace J := Lib.hid J
    replace H := Lib.hid H
    obtain ⟨y1, y2⟩ := lf_drop hf (mem_less (ws := ws) (k := k)) (by rw [List.length_append, List.length_take, List.length_drop]; omega)
    have VV := Lib.hid (fun (W : World) (Z : Boxes W A8 k (ws.take k ++ ws.drop (k + 1))) (Y : Boxes W G m gs) => implLvValid i t x y A8 k c8 G m kk p q s z b (ws.take k ++ ws.drop (k + 1)) gs W Z Y (by omega) hM)
    have FF := Lib.hid (fun (W : World) (Z : Boxes W A8 k (ws.take k ++ ws.drop (k + 1))) (Y : Boxes W G m gs) => implLvFree i t x y A8 k c8 G m kk p q s z b (ws.take k ++ ws.drop (k + 1)) gs u v W Z Y (by omega) hM)
    rw [y1] at VV
    rw [y2] at FF
    clear y1 y2
    have Xc0 := X.cell 0 _ rfl
    have Xc1 := X.cell 1 _ rfl
    have Xc2 := X.cell 2 _ rfl
    have Xc3 := X.cell 3 _ rfl
    have Xc4 := X.cell 4 _ rfl
    have Xc5 := X.cell 5 _ rfl
    have Xc6 := X.cell 6 _ rfl
    have Xc7 := X.cell 7 _ rfl
    have Xc8 := X.cell 8 _ rfl
    have Xc9 := X.cell 9 _ rfl
    have Xc10 := X.cell 10 _ rfl
    have Xl := X.lt
    have Ec0 := E.cell 0 _ rfl
    have Ec1 := E.cell 1 _ rfl
    have El := E.lt
    go_wp2_with fail
    refine (VV.out _ I.out J.out).mono ?_
    rintro e w10 ⟨rfl, B⟩
    replace X := X.step B
    replace E := E.step B
    replace I := Lib.hid (I.out.step B)
    replace J := Lib.hid (J.out.step B)
    replace H := Lib.hid (bl_trans H.out B)
    clear B
    clear Xc0 Xc1 Xc2 Xc3 Xc4 Xc5 Xc6 Xc7 Xc8 Xc9 Xc10 Xl Ec0 Ec1 El
    have Xc0 := X.cell 0 _ rfl
    have Xc1 := X.cell 1 _ rfl
    have Xc2 := X.cell 2 _ rfl
    have Xc3 := X.cell 3 _ rfl
    have Xc4 := X.cell 4 _ rfl
    have Xc5 := X.cell 5 _ rfl
    have Xc6 := X.cell 6 _ rfl
    have Xc7 := X.cell 7 _ rfl
    have Xc8 := X.cell 8 _ rfl
    have Xc9 := X.cell 9 _ rfl
    have Xc10 := X.cell 10 _ rfl
    have Xl := X.lt
    have Ec0 := E.cell 0 _ rfl
    have Ec1 := E.cell 1 _ rfl
    have El := E.lt
    go_wp2_with fail
    refine (FF.out _ I.out J.out).mono ?_
    rintro e w11 ⟨rfl, B⟩
    replace X := X.step B
    replace E := E.step B
    replace I := Lib.hid (I.out.step B)
    replace J := Lib.hid (J.out.step B)
    replace H := Lib.hid (bl_trans H.out B)
    clear B
    clear Xc0 Xc1 Xc2 Xc3 Xc4 Xc5 Xc6 Xc7 Xc8 Xc9 Xc10 Xl Ec0 Ec1 El
    go_wp2
    go_ret
    exact ⟨rfl, H.out⟩
  have hc2 : k + 1 < c := by omega
  have hc3 : c ≠ k + 1 := by omega
  refine wp_region_held_drew (S := fun w' => CellsAt w' w1.heap.size (lvs i t x y (some ⟨ab, ao, none⟩) n c G m kk p q s z b)) (by kernel_rfl) (by repeat (first | with_reducible exact L8 | with_reducible exact L7 | with_reducible exact L | with_reducible refine CellsAt.far ?_ (by omega) _ _ | with_reducible refine CellsAt.alloc ?_ _ | with_reducible refine CellsAt.drew ?_)) (fun hHeld => ?_)
  refine wpAnyH_take (i := 1) (oi := _) (v := ?_) rfl (by kernel_rfl) (by kernel_rfl) (by kernel_rfl) (fun _ _ _ h => h) (Or.inl ⟨by rfl, ?_⟩) hHeld ?_
  rotate_left
  · intro w hSw
    try dsimp only at hSw
    go_simp
    all_goals with_reducible rfl
  try simp only [Act.put, List.getElem_toArray, List.getElem_cons_succ, List.getElem_cons_zero, List.setIfInBounds_toArray, List.set_cons_zero, List.set_cons_succ]
  refine wpAnyH_take (i := 2) (oi := _) (v := ?_) rfl (by kernel_rfl) (by kernel_rfl) (by kernel_rfl) (fun _ _ _ h => h) (Or.inl ⟨by rfl, ?_⟩) hHeld ?_
  rotate_left
  · intro w hSw
    have c4 := hSw.cell 4 _ rfl
    go_simp
    all_goals with_reducible rfl
  try simp only [Act.put, List.getElem_toArray, List.getElem_cons_succ, List.getElem_cons_zero, List.setIfInBounds_toArray, List.set_cons_zero, List.set_cons_succ]
  refine wpAnyH_take (i := 3) (oi := _) (v := ?_) rfl (by kernel_rfl) (by kernel_rfl) (by kernel_rfl) (fun _ _ _ h => h) (Or.inl ⟨by rfl, ?_⟩) hHeld ?_
  rotate_left
  · intro w hSw
    try dsimp only at hSw
    go_simp
    all_goals with_reducible rfl
  try simp only [Act.put, List.getElem_toArray, List.getElem_cons_succ, List.getElem_cons_zero, List.setIfInBounds_toArray, List.set_cons_zero, List.set_cons_succ]
  refine wpAnyH_take (i := 4) (oi := _) (v := ?_) rfl (by kernel_rfl) (by kernel_rfl) (by kernel_rfl) (fun _ _ _ h => h) (Or.inl ⟨by rfl, ?_⟩) hHeld ?_
  rotate_left
  · intro w hSw
    try dsimp only at hSw
    go_simp
    all_goals with_reducible rfl
  try simp only [Act.put, List.getElem_toArray, List.getElem_cons_succ, List.getElem_cons_zero, List.setIfInBounds_toArray, List.set_cons_zero, List.set_cons_succ]
  refine wpAnyH_take (i := 6) (oi := _) (v := ?_) rfl (by kernel_rfl) (by kernel_rfl) (by kernel_rfl) (fun _ _ _ h => h) (Or.inl ⟨by rfl, ?_⟩) hHeld ?_
  rotate_left
  · intro w hSw
    try dsimp only at hSw
    go_simp
    all_goals with_reducible rfl
  try simp only [Act.put, List.getElem_toArray, List.getElem_cons_succ, List.getElem_cons_zero, List.setIfInBounds_toArray, List.set_cons_zero, List.set_cons_succ]
  refine wpAnyH_take (i := 7) (oi := _) (v := ?_) rfl (by kernel_rfl) (by kernel_rfl) (by kernel_rfl) (fun _ _ _ h => h) (Or.inl ⟨by rfl, ?_⟩) hHeld ?_
  rotate_left
  · intro w hSw
    have c4 := hSw.cell 4 _ rfl
    go_simp
    all_goals with_reducible rfl
  try simp only [Act.put, List.getElem_toArray, List.getElem_cons_succ, List.getElem_cons_zero, List.setIfInBounds_toArray, List.set_cons_zero, List.set_cons_succ]
  refine wpAnyH_take (i := 8) (oi := _) (v := ?_) rfl (by kernel_rfl) (by kernel_rfl) (by kernel_rfl) (fun _ _ _ h => h) (Or.inl ⟨by rfl, ?_⟩) hHeld ?_
  rotate_left
  · intro w hSw
    try dsimp only at hSw
    go_simp
    all_goals with_reducible rfl
  try simp only [Act.put, List.getElem_toArray, List.getElem_cons_succ, List.getElem_cons_zero, List.setIfInBounds_toArray, List.set_cons_zero, List.set_cons_succ]
  refine wpAnyH_take (i := 9) (oi := _) (v := ?_) rfl (by kernel_rfl) (by kernel_rfl) (by kernel_rfl) (fun _ _ _ h => h) (Or.inl ⟨by rfl, ?_⟩) hHeld ?_
  rotate_left
  · intro w hSw
    try dsimp only at hSw
    go_simp
    all_goals with_reducible rfl
  try simp only [Act.put, List.getElem_toArray, List.getElem_cons_succ, List.getElem_cons_zero, List.setIfInBounds_toArray, List.set_cons_zero, List.set_cons_succ]
  refine wpAnyH_take (i := 10) (oi := _) (v := ?_) rfl (by kernel_rfl) (by kernel_rfl) (by kernel_rfl) (fun _ _ _ h => h) (Or.inl ⟨by rfl, ?_⟩) hHeld ?_
  rotate_left
  · intro w hSw
    try dsimp only at hSw
    go_simp
    all_goals with_reducible rfl
  try simp only [Act.put, List.getElem_toArray, List.getElem_cons_succ, List.getElem_cons_zero, List.setIfInBounds_toArray, List.set_cons_zero, List.set_cons_succ]
  refine wpAnyH_ready (rs := [0]) (by kernel_rfl) (by simp) ?_
  apply AllReadyH.cons rfl ?_ AllReadyH.nil
  intro K hK
  go_simp
  refine hK.out _ _ (by repeat (first | with_reducible exact L8 | with_reducible exact L7 | with_reducible exact L | with_reducible refine CellsAt.far ?_ (by omega) _ _ | with_reducible refine CellsAt.alloc ?_ _ | with_reducible refine CellsAt.drew ?_)) (fun hHeld => ?_)
  clear hK K
  try simp only [Act.put, List.getElem_toArray, List.getElem_cons_succ, List.getElem_cons_zero, List.setIfInBounds_toArray, List.set_cons_zero, List.set_cons_succ]
  refine wpAnyH_ready (rs := [5]) (by kernel_rfl) (by simp) ?_
  apply AllReadyH.cons rfl ?_ AllReadyH.nil
  intro K hK
  dsimp only [List.getElem_toArray, List.getElem_cons_succ, List.getElem_cons_zero]
  rw [if_pos (by rfl)]
  refine step_append_boxes _ (.tmp 53) (.tmp 57) rfl w6.heap.size (.slice (some ⟨w6.heap.size, 0, none⟩) 0 0) 0 [] rfl (own_empty w6.drew w6.heap.size w6.heap.size rfl (Nat.le_refl _)) _ _ _ (ws.take k) rfl ((I.out.drew.alloc _).first (by omega)) (by omega) (by simp) ?_
  intro v7 w7 O7 G7 hat
  have z7 := G7.size
  simp at z7
  have L7 := (L.drew.alloc _).grown G7 (by simp [Value.ownBlock]; omega)
  have E7 := (E.drew.alloc _).grown G7 (by simp [Value.ownBlock]; omega)
  have X7 := (X.drew.alloc _).grown G7 (by simp [Value.ownBlock]; omega)
  have I7 := Lib.hid ((I.out.drew.alloc _).grown G7 (fun h0 g off e => by have := nx.out g off e; simp [Value.ownBlock]; omega))
  have J7 := Lib.hid ((J.out.drew.alloc _).grown G7 (fun h0 g off e => by have := lt_of_boxes J.out h0 e; simp [Value.ownBlock]; omega))
  have H7 := Lib.hid ((bl_alloc (bl_drew1 H.out) _).grown G7 (by have := H.out.size; simp; omega) (fun g e => by have := H.out.size; simp [Value.ownBlock] at e; omega))
  have N7 := Lib.hid (show ∀ g, v7.ownBlock = some g → w6.heap.size ≤ g from fun g e => (O7.lt g e).1)
  replace O7 := Lib.hid O7
  clear G7 hat hHeld
  refine hK.out _ _ (by repeat (first | with_reducible exact L8 | with_reducible exact L7 | with_reducible exact L | with_reducible refine CellsAt.far ?_ (by omega) _ _ | with_reducible refine CellsAt.alloc ?_ _ | with_reducible refine CellsAt.drew ?_)) (fun hHeld => ?_)
  clear hK K
  try simp only [Act.put, List.setIfInBounds_toArray, List.set_cons_zero, List.set_cons_succ]
  refine wpAnyH_ready (rs := [11]) (by kernel_rfl) (by simp) ?_
  apply AllReadyH.cons rfl ?_ AllReadyH.nil
  intro K hK
  dsimp only [List.getElem_toArray, List.getElem_cons_succ, List.getElem_cons_zero]
  rw [if_pos (by rfl)]
  refine step_append_boxes _ (.tmp 58) (.tmp 63) rfl w6.heap.size v7 k (ws.take k) rfl (by simpa using O7.out) _ _ _ (ws.drop (k + 1)) rfl (I7.out.behind (k := k + 1) (by omega)) (by omega) (by omega) ?_
  intro v8 w8 O8 G8 hat
  have z8 := G8.size
  have L8 := L7.grown G8 (fun e => by have := N7.out _ e; omega)
  have E8 := E7.grown G8 (fun e => by have := N7.out _ e; omega)
  have X8 := X7.grown G8 (fun e => by have := N7.out _ e; omega)
  have J8 := Lib.hid (J7.out.grown G8 (fun h0 g off e f => by have := N7.out _ f; have := lt_of_boxes J.out h0 e; omega))
  have H8 := Lib.hid (H7.out.grown G8 (by have := H7.out.size; omega) (fun g e => by have := N7.out g e; have := H.out.size; omega))
  obtain ⟨A8, c8, rfl, I8, M8⟩ := Boxes.of_own O8
  replace I8 := Lib.hid I8
  replace M8 := Lib.hid M8
  clear O8 G8 hat hHeld L7 E7 X7 I7 J7 H7 O7 N7
  have xc := X8.cell 4 _ rfl
  have xf := X8.fr 4
  have xm := X8.lt
  refine hK.out _ _ (by repeat (first | with_reducible exact L8 | with_reducible exact L7 | with_reducible exact L | with_reducible refine CellsAt.far ?_ (by omega) _ _ | with_reducible refine CellsAt.alloc ?_ _ | with_reducible refine CellsAt.drew ?_)) (fun hHeld => ?_)
  clear hK K
  try simp only [Act.put, List.setIfInBounds_toArray, List.set_cons_zero, List.set_cons_succ]
  refine wpAnyH_take (i := 12) (oi := _) (v := ?_) rfl (by kernel_rfl) (by kernel_rfl) (by kernel_rfl) (fun _ _ _ h => h) (Or.inl ⟨by rfl, ?_⟩) hHeld ?_
  rotate_left
  · intro w hSw
    try dsimp only at hSw
    go_simp
    all_goals with_reducible rfl
  try simp only [Act.put, List.getElem_toArray, List.getElem_cons_succ, List.getElem_cons_zero, List.setIfInBounds_toArray, List.set_cons_zero, List.set_cons_succ]
  refine wpAnyH_ready (rs := [13]) (by kernel_rfl) (by simp) ?_
  apply AllReadyH.cons rfl ?_ AllReadyH.nil
  intro K hK
  go_simp
  refine hK.out _ _ (by repeat (first | with_reducible exact L8 | with_reducible exact L7 | with_reducible exact L | with_reducible refine CellsAt.far ?_ (by omega) _ _ | with_reducible refine CellsAt.alloc ?_ _ | with_reducible refine CellsAt.drew ?_)) (fun hHeld => ?_)
  clear hK K
  try simp only [Act.put, List.getElem_toArray, List.getElem_cons_succ, List.getElem_cons_zero, List.setIfInBounds_toArray, List.set_cons_zero, List.set_cons_succ]
  refine wpAnyH_done (by kernel_rfl) ?_ _
  clear e1 e2 e4 xc xf
  go_upto_region 11 with fail
  refine wp_at2 (fun W' => CellsAt W' (w1.heap.size + 1) [.int .i64 u, .int .i64 v] ∧ CellsAt W' w5.heap.size (lvs i t x y A8 (k + (n - (k + 1))) c8 G m kk p q s z b) ∧ Boxes W' A8 (k + (n - (k + 1))) (ws.take k ++ ws.drop (k + 1)) ∧ Boxes W' G m gs ∧ Below w.heap.size w W') ⟨E8.far (by omega) _ _, X8.set 4 (by simp) _, I8.out.kept (kset (Kept.refl w5.heap.size _) _ _) (fun _ g off e => by have := M8.out g off e; omega), J8.out.kept (kset (Kept.refl w5.heap.size _) _ _) (fun h0 g off e => by have := nG.out h0 g off e; omega), bl_set H8.out _ _ _ (by have := Hw.out; omega)⟩ ?_
  clear E8 X8 I8 J8 H8 L8 M8 E X L I J H
  rintro w9 ⟨E, X, I, J, H⟩
  replace I := Lib.hid I
  replace J := Lib.hid J
  replace H := Lib.hid H
  obtain ⟨y1, y2⟩ := lf_drop hf (mem_less (ws := ws) (k := k)) (by rw [List.length_append, List.length_take, List.length_drop]; omega)
  have VV := Lib.hid (fun (W : World) (Z : Boxes W A8 (k + (n - (k + 1))) (ws.take k ++ ws.drop (k + 1))) (Y : Boxes W G m gs) => implLvValid i t x y A8 (k + (n - (k + 1))) c8 G m kk p q s z b (ws.take k ++ ws.drop (k + 1)) gs W Z Y (by omega) hM)
  have FF := Lib.hid (fun (W : World) (Z : Boxes W A8 (k + (n - (k + 1))) (ws.take k ++ ws.drop (k + 1))) (Y : Boxes W G m gs) => implLvFree i t x y A8 (k + (n - (k + 1))) c8 G m kk p q s z b (ws.take k ++ ws.drop (k + 1)) gs u v W Z Y (by omega) hM)
  rw [y1] at VV
  rw [y2] at FF
  clear y1 y2
  have Xc0 := X.cell 0 _ rfl
  have Xc1 := X.cell 1 _ rfl
  have Xc2 := X.cell 2 _ rfl
  have Xc3 := X.cell 3 _ rfl
  have Xc4 := X.cell 4 _ rfl
  have Xc5 := X.cell 5 _ rfl
  have Xc6 := X.cell 6 _ rfl
  have Xc7 := X.cell 7 _ rfl
  have Xc8 := X.cell 8 _ rfl
  have Xc9 := X.cell 9 _ rfl
  have Xc10 := X.cell 10 _ rfl
  have Xl := X.lt
  have Ec0 := E.cell 0 _ rfl
  have Ec1 := E.cell 1 _ rfl
  have El := E.lt
  go_wp2_with fail
  refine (VV.out _ I.out J.out).mono ?_
  rintro e w10 ⟨rfl, B⟩
  replace X := X.step B
  replace E := E.step B
  replace I := Lib.hid (I.out.step B)
  replace J := Lib.hid (J.out.step B)
  replace H := Lib.hid (bl_trans H.out B)
  clear B
  clear Xc0 Xc1 Xc2 Xc3 Xc4 Xc5 Xc6 Xc7 Xc8 Xc9 Xc10 Xl Ec0 Ec1 El
  have Xc0 := X.cell 0 _ rfl
  have Xc1 := X.cell 1 _ rfl
  have Xc2 := X.cell 2 _ rfl
  have Xc3 := X.cell 3 _ rfl
  have Xc4 := X.cell 4 _ rfl
  have Xc5 := X.cell 5 _ rfl
  have Xc6 := X.cell 6 _ rfl
  have Xc7 := X.cell 7 _ rfl
  have Xc8 := X.cell 8 _ rfl
  have Xc9 := X.cell 9 _ rfl
  have Xc10 := X.cell 10 _ rfl
  have Xl := X.lt
  have Ec0 := E.cell 0 _ rfl
  have Ec1 := E.cell 1 _ rfl
  have El := E.lt
  go_wp2_with fail
  refine (FF.out _ I.out J.out).mono ?_
  rintro e w11 ⟨rfl, B⟩
  replace X := X.step B
  replace E := E.step B
  replace I := Lib.hid (I.out.step B)
  replace J := Lib.hid (J.out.step B)
  replace H := Lib.hid (bl_trans H.out B)
  clear B
  clear Xc0 Xc1 Xc2 Xc3 Xc4 Xc5 Xc6 Xc7 Xc8 Xc9 Xc10 Xl Ec0 Ec1 El
  go_wp2
  go_ret
  exact ⟨rfl, H.out⟩

end Go.Proofs.Ytmhmlmoohimfmaa
