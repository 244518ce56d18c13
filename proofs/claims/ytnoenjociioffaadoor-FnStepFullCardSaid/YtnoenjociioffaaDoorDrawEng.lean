/-
  The level, state and input that the model draws for the laws of the engine, and the state alone.
-/
import Derived.Test.YtnoenjociioffaaDoorState
import Derived.Test.YtnoenjociioffaaDoorDrawInB
namespace Go.Proofs.YtnoenjociioffaaDoor
open Go.RowKit
open M

def DrawnES (w : World) (e : Ending) (w' : World) : Prop :=
  ∃ (i t x y : Int) (A : Option Addr) (n c : Nat) (G : Option Addr) (m kk : Nat) (fp fq fs fz b : Int) (ws gs : List Bx) (k ax ay fx fy u g : Int) (d o : Bool) (s p : Int) (z : Bool), e = .returned (.tuple #[lev i t x y A n c G m kk fp fq fs fz b, sta k ax ay fx fy u g d o, inp s p z]) ∧ (n ≤ 20 ∧ n ≤ c) ∧ (m ≤ 20 ∧ m ≤ kk) ∧ Boxes w' A n ws ∧ Boxes w' G m gs ∧ Below w.heap.size w w'

set_option maxRecDepth 100000 in
set_option maxHeartbeats 8000000 in
theorem draw_estep (a : Option Addr) (len cap : Nat) (zs : List Int) (w : World) (h : IsRow .u8 w a len cap zs) : Calls Tryd.prog 19 #[.slice a len cap] w (DrawnES w) := by
  have h1 := h.below (w' := ((w.alloc (.cells #[.int .i64 0, .int .i64 0, .int .i64 0, .int .i64 0, .slice none 0 0, .slice none 0 0, .int .i64 0, .int .i64 0, .int .i64 0, .int .i64 0, .int .i64 0] 29)).alloc (.cells #[.int .i64 0, .int .i64 0, .int .i64 0, .int .i64 0, .int .i64 0, .int .i64 0, .int .i64 0, .bool false, .bool false] 31)).alloc (.cells #[.int .i64 0, .int .i64 0, .bool false] 33)) (bl_alloc (bl_alloc (bl_alloc (bl_refl w) _) _) _)
  have D : CellsAt (((w.alloc (.cells #[.int .i64 0, .int .i64 0, .int .i64 0, .int .i64 0, .slice none 0 0, .slice none 0 0, .int .i64 0, .int .i64 0, .int .i64 0, .int .i64 0, .int .i64 0] 29)).alloc (.cells #[.int .i64 0, .int .i64 0, .int .i64 0, .int .i64 0, .int .i64 0, .int .i64 0, .int .i64 0, .bool false, .bool false] 31)).alloc (.cells #[.int .i64 0, .int .i64 0, .bool false] 33)) w.heap.size (lvs 0 0 0 0 none 0 0 none 0 0 0 0 0 0 0) := ((CellsAt.new w _ _ _ rfl).alloc _).alloc _
  have E : CellsAt (((w.alloc (.cells #[.int .i64 0, .int .i64 0, .int .i64 0, .int .i64 0, .slice none 0 0, .slice none 0 0, .int .i64 0, .int .i64 0, .int .i64 0, .int .i64 0, .int .i64 0] 29)).alloc (.cells #[.int .i64 0, .int .i64 0, .int .i64 0, .int .i64 0, .int .i64 0, .int .i64 0, .int .i64 0, .bool false, .bool false] 31)).alloc (.cells #[.int .i64 0, .int .i64 0, .bool false] 33)) (w.heap.size + 1) (stv 0 0 0 0 0 0 0 false false) := (CellsAt.new _ _ _ _ (by simp)).alloc _
  have Q : CellsAt (((w.alloc (.cells #[.int .i64 0, .int .i64 0, .int .i64 0, .int .i64 0, .slice none 0 0, .slice none 0 0, .int .i64 0, .int .i64 0, .int .i64 0, .int .i64 0, .int .i64 0] 29)).alloc (.cells #[.int .i64 0, .int .i64 0, .int .i64 0, .int .i64 0, .int .i64 0, .int .i64 0, .int .i64 0, .bool false, .bool false] 31)).alloc (.cells #[.int .i64 0, .int .i64 0, .bool false] 33)) (w.heap.size + 1 + 1) (ins 0 0 false) := CellsAt.new _ _ _ _ (by simp)
  have H := Lib.hid (show Below w.heap.size w (((w.alloc (.cells #[.int .i64 0, .int .i64 0, .int .i64 0, .int .i64 0, .slice none 0 0, .slice none 0 0, .int .i64 0, .int .i64 0, .int .i64 0, .int .i64 0, .int .i64 0] 29)).alloc (.cells #[.int .i64 0, .int .i64 0, .int .i64 0, .int .i64 0, .int .i64 0, .int .i64 0, .int .i64 0, .bool false, .bool false] 31)).alloc (.cells #[.int .i64 0, .int .i64 0, .bool false] 33)) from bl_alloc (bl_alloc (bl_alloc (bl_refl w) _) _) _)
  go_enter Tryd.func19, Tryd.ntmps19
  go_wp2_with fail
  refine (open_any a len cap zs (((w.alloc (.cells #[.int .i64 0, .int .i64 0, .int .i64 0, .int .i64 0, .slice none 0 0, .slice none 0 0, .int .i64 0, .int .i64 0, .int .i64 0, .int .i64 0, .int .i64 0] 29)).alloc (.cells #[.int .i64 0, .int .i64 0, .int .i64 0, .int .i64 0, .int .i64 0, .int .i64 0, .int .i64 0, .bool false, .bool false] 31)).alloc (.cells #[.int .i64 0, .int .i64 0, .bool false] 33)) h1).mono ?_
  rintro e w1 ⟨rfl, R1, B⟩
  simp at R1
  have z1 := R1.base
  replace D := D.step B
  replace E := E.step B
  replace Q := Q.step B
  replace H := Lib.hid (bl_trans H.out B)
  clear B h1 h
  go_wp2_with fail
  refine (level_drawn2 _ 0 _ R1 (by omega)).mono ?_
  rintro e w2 ⟨i', t', x', y', A', n', c', G', m', kk', p', q', s', z', b', ws', gs', rfl, hn', hm', HL', I2, J2, MA', MG', R2, K⟩
  have z2 := K.size
  replace D := (D.kept K (by omega)).alloc (.cells #[.int .i64 i', .int .i64 t', .int .i64 x', .int .i64 y', .slice A' n' c', .slice G' m' kk', .int .i64 p', .int .i64 q', .int .i64 s', .int .i64 z', .int .i64 b'] 29)
  replace E := (E.kept K (by omega)).alloc (.cells #[.int .i64 i', .int .i64 t', .int .i64 x', .int .i64 y', .slice A' n' c', .slice G' m' kk', .int .i64 p', .int .i64 q', .int .i64 s', .int .i64 z', .int .i64 b'] 29)
  replace Q := (Q.kept K (by omega)).alloc (.cells #[.int .i64 i', .int .i64 t', .int .i64 x', .int .i64 y', .slice A' n' c', .slice G' m' kk', .int .i64 p', .int .i64 q', .int .i64 s', .int .i64 z', .int .i64 b'] 29)
  replace H := Lib.hid (bl_alloc (kp_below H.out K (by omega)) (.cells #[.int .i64 i', .int .i64 t', .int .i64 x', .int .i64 y', .slice A' n' c', .slice G' m' kk', .int .i64 p', .int .i64 q', .int .i64 s', .int .i64 z', .int .i64 b'] 29))
  have L : CellsAt (w2.alloc (.cells #[.int .i64 i', .int .i64 t', .int .i64 x', .int .i64 y', .slice A' n' c', .slice G' m' kk', .int .i64 p', .int .i64 q', .int .i64 s', .int .i64 z', .int .i64 b'] 29)) w2.heap.size (lvs i' t' x' y' A' n' c' G' m' kk' p' q' s' z' b') := CellsAt.new _ _ _ _ rfl
  have nA := Lib.hid (show 0 < n' → ∀ g off, A' = some ⟨g, off, none⟩ → g < w2.heap.size from fun h0 g off e => lt_of_boxes I2 h0 e)
  have nG := Lib.hid (show 0 < m' → ∀ g off, G' = some ⟨g, off, none⟩ → g < w2.heap.size from fun h0 g off e => lt_of_boxes J2 h0 e)
  replace I2 := Lib.hid (I2.alloc (.cells #[.int .i64 i', .int .i64 t', .int .i64 x', .int .i64 y', .slice A' n' c', .slice G' m' kk', .int .i64 p', .int .i64 q', .int .i64 s', .int .i64 z', .int .i64 b'] 29))
  replace J2 := Lib.hid (J2.alloc (.cells #[.int .i64 i', .int .i64 t', .int .i64 x', .int .i64 y', .slice A' n' c', .slice G' m' kk', .int .i64 p', .int .i64 q', .int .i64 s', .int .i64 z', .int .i64 b'] 29))
  replace R2 := Lib.hid (R2.alloc (.cells #[.int .i64 i', .int .i64 t', .int .i64 x', .int .i64 y', .slice A' n' c', .slice G' m' kk', .int .i64 p', .int .i64 q', .int .i64 s', .int .i64 z', .int .i64 b'] 29))
  have MA2 := Lib.hid (show Mine _ A' from fun g off e => by have := MA' g off e; exact Nat.le_trans z1 this)
  have MG2 := Lib.hid (show Mine _ G' from fun g off e => by have := MG' g off e; exact Nat.le_trans z1 this)
  have HL2 := Lib.hid HL'
  clear R1 K MA' MG' HL'
  have Lc0 := L.cell 0 _ rfl
  have Lc1 := L.cell 1 _ rfl
  have Lc2 := L.cell 2 _ rfl
  have Lc3 := L.cell 3 _ rfl
  have Lc4 := L.cell 4 _ rfl
  have Lc5 := L.cell 5 _ rfl
  have Lc6 := L.cell 6 _ rfl
  have Lc7 := L.cell 7 _ rfl
  have Lc8 := L.cell 8 _ rfl
  have Lc9 := L.cell 9 _ rfl
  have Lc10 := L.cell 10 _ rfl
  have Ll := L.lt
  go_wp2_with fail
  refine (state_drawn _ _ i' t' x' y' A' n' c' G' m' kk' p' q' s' z' b' ws' gs' _ R2.out (by omega) (by omega) I2.out J2.out MA2.out MG2.out HL2.out.1.ok hn'.1 hm'.1 HL2.out.2).mono ?_
  rintro e w3 ⟨sk, sax, say, sfx, sfy, su, sg, sd, so, rfl, R3, K⟩
  have z3 := K.size
  simp at z3
  clear Lc0 Lc1 Lc2 Lc3 Lc4 Lc5 Lc6 Lc7 Lc8 Lc9 Lc10 Ll R2
  replace D := (D.kept K (by omega)).alloc (.cells #[.int .i64 sk, .int .i64 sax, .int .i64 say, .int .i64 sfx, .int .i64 sfy, .int .i64 su, .int .i64 sg, .bool sd, .bool so] 31)
  replace E := (E.kept K (by omega)).alloc (.cells #[.int .i64 sk, .int .i64 sax, .int .i64 say, .int .i64 sfx, .int .i64 sfy, .int .i64 su, .int .i64 sg, .bool sd, .bool so] 31)
  replace Q := (Q.kept K (by omega)).alloc (.cells #[.int .i64 sk, .int .i64 sax, .int .i64 say, .int .i64 sfx, .int .i64 sfy, .int .i64 su, .int .i64 sg, .bool sd, .bool so] 31)
  replace L := (L.kept K (by omega)).alloc (.cells #[.int .i64 sk, .int .i64 sax, .int .i64 say, .int .i64 sfx, .int .i64 sfy, .int .i64 su, .int .i64 sg, .bool sd, .bool so] 31)
  replace H := Lib.hid (bl_alloc (kp_below H.out K (by omega)) (.cells #[.int .i64 sk, .int .i64 sax, .int .i64 say, .int .i64 sfx, .int .i64 sfy, .int .i64 su, .int .i64 sg, .bool sd, .bool so] 31))
  replace I2 := Lib.hid ((I2.out.kept K (fun _ g off e => by have := MA2.out g off e; omega)).alloc (.cells #[.int .i64 sk, .int .i64 sax, .int .i64 say, .int .i64 sfx, .int .i64 sfy, .int .i64 su, .int .i64 sg, .bool sd, .bool so] 31))
  replace J2 := Lib.hid ((J2.out.kept K (fun _ g off e => by have := MG2.out g off e; omega)).alloc (.cells #[.int .i64 sk, .int .i64 sax, .int .i64 say, .int .i64 sfx, .int .i64 sfy, .int .i64 su, .int .i64 sg, .bool sd, .bool so] 31))
  have S : CellsAt (w3.alloc (.cells #[.int .i64 sk, .int .i64 sax, .int .i64 say, .int .i64 sfx, .int .i64 sfy, .int .i64 su, .int .i64 sg, .bool sd, .bool so] 31)) w3.heap.size (stv sk sax say sfx sfy su sg sd so) := CellsAt.new _ _ _ _ rfl
  replace R3 := Lib.hid (R3.alloc (.cells #[.int .i64 sk, .int .i64 sax, .int .i64 say, .int .i64 sfx, .int .i64 sfy, .int .i64 su, .int .i64 sg, .bool sd, .bool so] 31))
  clear K
  go_wp2_with fail
  refine (pick_any _ 10 _ _ R3.out (by omega) (by omega) (by omega)).mono ?_
  rintro e w4 ⟨c0, ⟨c1, c2⟩, rfl, R4, K⟩
  have z4 := K.size
  simp at z4
  replace D := D.kept K (by omega)
  replace E := E.kept K (by omega)
  replace Q := Q.kept K (by omega)
  replace L := L.kept K (by omega)
  replace S := S.kept K (by omega)
  replace H := Lib.hid (kp_below H.out K (by omega))
  replace I2 := Lib.hid (I2.out.kept K (fun _ g off e => by have := MA2.out g off e; omega))
  replace J2 := Lib.hid (J2.out.kept K (fun _ g off e => by have := MG2.out g off e; omega))
  replace R4 := Lib.hid R4
  clear K R3
  by_cases e0 : c0 = 0
  · subst e0
    go_wp2_with (refine store_new rfl 31 (.tmp 7) (.tmp 20) rfl w3.heap.size rfl (stv 0 999000 0 1500 0 0 0 false false) rfl _ S (by simp) state_size rfl ?_)
    intro wa K N
    replace S := N
    replace L := L.kept K (by omega)
    replace D := D.kept K (by omega)
    replace E := E.kept K (by omega)
    replace Q := Q.kept K (by omega)
    replace H := Lib.hid (kp_below H.out K (by omega))
    replace J2 := Lib.hid (J2.out.kept K (fun h0 g off e => by have := nG.out h0 g off e; omega))
    replace R4 := Lib.hid (R4.out.below (K.below (by omega) (by omega)))
    clear K N I2
    have hc' : (0 : Int) ≤ (c' : Int) := by omega
    have Lc0 := L.cell 0 _ rfl
    have Lf0 := L.fr 0
    have Lc1 := L.cell 1 _ rfl
    have Lf1 := L.fr 1
    have Lc2 := L.cell 2 _ rfl
    have Lf2 := L.fr 2
    have Lc3 := L.cell 3 _ rfl
    have Lf3 := L.fr 3
    have Lc4 := L.cell 4 _ rfl
    have Lf4 := L.fr 4
    have Lc5 := L.cell 5 _ rfl
    have Lf5 := L.fr 5
    have Lc6 := L.cell 6 _ rfl
    have Lf6 := L.fr 6
    have Lc7 := L.cell 7 _ rfl
    have Lf7 := L.fr 7
    have Lc8 := L.cell 8 _ rfl
    have Lf8 := L.fr 8
    have Lc9 := L.cell 9 _ rfl
    have Lf9 := L.fr 9
    have Lc10 := L.cell 10 _ rfl
    have Lf10 := L.fr 10
    have Ll := L.lt
    go_upto_region 7 with fail
    refine wp_letter (fun W' => CellsAt W' w2.heap.size (lvs i' t' x' y' A' 0 c' G' m' kk' p' q' s' z' b') ∧ CellsAt W' w3.heap.size (stv 0 999000 0 1500 0 0 0 false false) ∧ CellsAt W' w.heap.size (lvs 0 0 0 0 none 0 0 none 0 0 0 0 0 0 0) ∧ CellsAt W' (w.heap.size + 1) (stv 0 0 0 0 0 0 0 false false) ∧ CellsAt W' (w.heap.size + 1 + 1) (ins 0 0 false) ∧ Boxes W' G' m' gs' ∧ Below w.heap.size w W' ∧ RdU (w.heap.size + 1 + 1 + 1 + 1) W' (w.heap.size + 1 + 1 + 1) (0 + 60 + 240 + 1)) ⟨L.set 4 (by simp) _, S.far (by omega) _ _, D.far (by omega) _ _, E.far (by omega) _ _, Q.far (by omega) _ _, J2.out.kept (kset (Kept.refl _ _) _ _) (fun h0 g off e => by have := nG.out h0 g off e; omega), bl_set H.out _ _ _ (by omega), R4.out.set _ _ _ (by omega)⟩ ?_
    clear L S D E Q H J2 R4 Lc0 Lf0 Lc1 Lf1 Lc2 Lf2 Lc3 Lf3 Lc4 Lf4 Lc5 Lf5 Lc6 Lf6 Lc7 Lf7 Lc8 Lf8 Lc9 Lf9 Lc10 Lf10 Ll
    rintro wb ⟨L, S, D, E, Q, J2, H, R4⟩
    replace H := Lib.hid H
    replace J2 := Lib.hid J2
    replace R4 := Lib.hid R4
    have I2 := Lib.hid (Boxes.nil wb A')
    go_upto_region 7 with fail
    refine wp_region_held_drew (S := fun w' => CellsAt w' w2.heap.size (lvs i' t' x' y' A' 0 c' G' m' kk' p' q' s' z' b') ∧ CellsAt w' w3.heap.size (stv 0 999000 0 1500 0 0 0 false false)) (by kernel_rfl) ⟨L.drew, S.drew⟩ (fun hHeld => ?_)
    replace L := L.drew
    replace D := D.drew
    replace E := E.drew
    replace Q := Q.drew
    replace S := S.drew
    replace H := Lib.hid (bl_drew1 H.out)
    replace I2 := Lib.hid I2.out.drew
    replace J2 := Lib.hid J2.out.drew
    replace R4 := Lib.hid (R4.out.below ((bl_refl _).drew.mono R4.out.base))
    refine wpAnyH_take (i := 0) (oi := _) (v := ?_) rfl (by kernel_rfl) (by kernel_rfl) (by kernel_rfl) (fun _ _ _ h => h) (Or.inl ⟨by rfl, ?_⟩) hHeld ?_
    rotate_left
    · intro w hSw
      try dsimp only at hSw
      go_simp
      all_goals with_reducible rfl
    try simp only [Act.put, List.getElem_toArray, List.getElem_cons_zero, List.setIfInBounds_toArray, List.set_cons_zero, List.set_cons_succ]
    refine wpAnyH_take (i := 1) (oi := _) (v := .agg (lvs i' t' x' y' A' 0 c' G' m' kk' p' q' s' z' b').toArray) rfl (by kernel_rfl) (by kernel_rfl) (by kernel_rfl) (fun _ _ _ h => h) (yieldsIf_load_mid (by rfl) 29 (.tmp 6) rfl w2.heap.size 0 rfl (lvs i' t' x' y' A' 0 c' G' m' kk' p' q' s' z' b') _ (fun W hS => hS.1.range) Tryd.underlying29 rfl level_size) hHeld ?_
    try simp only [Act.put, List.getElem_toArray, List.getElem_cons_succ, List.getElem_cons_zero, List.setIfInBounds_toArray, List.set_cons_zero, List.set_cons_succ]
    refine wpAnyH_take (i := 3) (oi := _) (v := .agg (stv 0 999000 0 1500 0 0 0 false false).toArray) rfl (by kernel_rfl) (by kernel_rfl) (by kernel_rfl) (fun _ _ _ h => h) (yieldsIf_load_mid (by rfl) 31 (.tmp 7) rfl w3.heap.size 0 rfl (stv 0 999000 0 1500 0 0 0 false false) _ (fun W hS => hS.2.range) Tryd.underlying31 rfl state_size) hHeld ?_
    try simp only [Act.put, List.getElem_toArray, List.getElem_cons_succ, List.getElem_cons_zero, List.setIfInBounds_toArray, List.set_cons_zero, List.set_cons_succ]
    refine wpAnyH_take (i := 4) (oi := _) (v := ?_) rfl (by kernel_rfl) (by kernel_rfl) (by kernel_rfl) (fun _ _ _ h => h) (Or.inl ⟨by rfl, ?_⟩) hHeld ?_
    rotate_left
    · intro w hSw
      try dsimp only at hSw
      go_simp
      all_goals with_reducible rfl
    try simp only [Act.put, List.getElem_toArray, List.getElem_cons_succ, List.getElem_cons_zero, List.setIfInBounds_toArray, List.set_cons_zero, List.set_cons_succ]
    refine wpAnyH_ready (rs := [2]) (by kernel_rfl) (by simp) ?_
    apply AllReadyH.cons rfl ?_ AllReadyH.nil
    intro K hK
    rw [if_pos (by rfl)]
    refine wp_call_fn ⟨_, Tryd.func43, by kernel_rfl, by rfl⟩ _ _ rfl #[.pointer (some ⟨w.heap.size + 1 + 1 + 1, 0, none⟩), lev i' t' x' y' A' 0 c' G' m' kk' p' q' s' z' b'] (by simp only [List.map_toArray, List.map_cons, List.map_nil]; rfl) (bent_drawn _ _ i' t' x' y' A' 0 c' G' m' kk' p' q' s' z' b' [] gs' _ R4.out (by omega) (by omega) (Boxes.nil _ _) J2.out MA2.out MG2.out ⟨by omega, by omega⟩ hm' Lows.nil) ?_
    rintro e w5 ⟨i, t, x, y, A, n, c, G, m, kk, fp, fq, fs, fz, b, ws, gs, rfl, hn, hm, _, I, J, MA, MG, R5, K⟩
    refine ⟨_, rfl, ?_⟩
    have zK := K.size
    try simp at zK
    replace L := L.kept K (by omega)
    replace D := D.kept K (by omega)
    replace E := E.kept K (by omega)
    replace Q := Q.kept K (by omega)
    replace S := S.kept K (by omega)
    replace H := Lib.hid (kp_below H.out K (by omega))
    replace I := Lib.hid I
    replace J := Lib.hid J
    replace MA := Lib.hid MA
    replace MG := Lib.hid MG
    replace R5 := Lib.hid R5
    clear K hHeld I2 J2 R4 MA2 MG2 nA nG HL2
    refine hK.out _ _ ⟨L, S⟩ (fun hHeld => ?_)
    clear hK K
    try simp only [Act.put, List.getElem_toArray, List.getElem_cons_succ, List.getElem_cons_zero, List.setIfInBounds_toArray, List.set_cons_zero, List.set_cons_succ]
    refine wpAnyH_ready (rs := [5]) (by kernel_rfl) (by simp) ?_
    apply AllReadyH.cons rfl ?_ AllReadyH.nil
    intro K hK
    rw [if_pos (by rfl)]
    refine wp_call_fn ⟨_, Tryd.func44, by kernel_rfl, by rfl⟩ _ _ rfl #[.pointer (some ⟨w.heap.size + 1 + 1 + 1, 0, none⟩)] (by simp only [List.map_toArray, List.map_cons, List.map_nil]; rfl) (input_drawn _ _ _ R5.out (by omega)) ?_
    rintro e w6 ⟨s, p, z, _, rfl, R6, K⟩
    refine ⟨_, rfl, ?_⟩
    have zK := K.size
    try simp at zK
    replace L := L.kept K (by omega)
    replace D := D.kept K (by omega)
    replace E := E.kept K (by omega)
    replace Q := Q.kept K (by omega)
    replace S := S.kept K (by omega)
    replace H := Lib.hid (kp_below H.out K (by omega))
    replace I := Lib.hid (I.out.kept K (fun _ g off e => by have := MA.out g off e; omega))
    replace J := Lib.hid (J.out.kept K (fun _ g off e => by have := MG.out g off e; omega))
    clear K hHeld R5 R6
    refine hK.out _ _ ⟨L, S⟩ (fun hHeld => ?_)
    clear hK K
    try simp only [Act.put, List.getElem_toArray, List.getElem_cons_succ, List.getElem_cons_zero, List.setIfInBounds_toArray, List.set_cons_zero, List.set_cons_succ]
    refine wpAnyH_ready (rs := [6]) (by kernel_rfl) (by simp) ?_
    apply AllReadyH.cons rfl ?_ AllReadyH.nil
    intro K hK
    rw [if_pos (by rfl)]
    refine wp_store_new 29 (.tmp 2) (.tmp 27) rfl w.heap.size rfl (lvs i t x y A n c G m kk fp fq fs fz b) rfl _ D (by simp) level_size rfl ?_
    intro w7 K N
    have zK := K.size
    try simp at zK
    replace L := L.kept K (by omega)
    replace D := N
    replace E := E.kept K (by omega)
    replace Q := Q.kept K (by omega)
    replace S := S.kept K (by omega)
    replace H := Lib.hid (kp_below H.out K (by omega))
    replace I := Lib.hid (I.out.kept K (fun _ g off e => by have := MA.out g off e; omega))
    replace J := Lib.hid (J.out.kept K (fun _ g off e => by have := MG.out g off e; omega))
    clear K N hHeld
    refine hK.out _ _ ⟨L, S⟩ (fun hHeld => ?_)
    clear hK K
    try simp only [Act.put, List.getElem_toArray, List.getElem_cons_succ, List.getElem_cons_zero]
    refine wpAnyH_ready (rs := [7]) (by kernel_rfl) (by simp) ?_
    apply AllReadyH.cons rfl ?_ AllReadyH.nil
    intro K hK
    rw [if_pos (by rfl)]
    refine wp_store_new 31 (.tmp 3) (.tmp 28) rfl (w.heap.size + 1) rfl (stv 0 999000 0 1500 0 0 0 false false) rfl _ E (by simp) state_size rfl ?_
    intro w8 K N
    have zK := K.size
    try simp at zK
    replace L := L.kept K (by omega)
    replace D := D.kept K (by omega)
    replace E := N
    replace Q := Q.kept K (by omega)
    replace S := S.kept K (by omega)
    replace H := Lib.hid (kp_below H.out K (by omega))
    replace I := Lib.hid (I.out.kept K (fun _ g off e => by have := MA.out g off e; omega))
    replace J := Lib.hid (J.out.kept K (fun _ g off e => by have := MG.out g off e; omega))
    clear K N hHeld
    refine hK.out _ _ ⟨L, S⟩ (fun hHeld => ?_)
    clear hK K
    try simp only [Act.put, List.getElem_toArray, List.getElem_cons_succ, List.getElem_cons_zero]
    refine wpAnyH_ready (rs := [8]) (by kernel_rfl) (by simp) ?_
    apply AllReadyH.cons rfl ?_ AllReadyH.nil
    intro K hK
    rw [if_pos (by rfl)]
    refine wp_store_new 33 (.tmp 4) (.tmp 30) rfl (w.heap.size + 1 + 1) rfl (ins s p z) rfl _ Q (by simp) input_size rfl ?_
    intro w9 K N
    have zK := K.size
    try simp at zK
    replace L := L.kept K (by omega)
    replace D := D.kept K (by omega)
    replace E := E.kept K (by omega)
    replace Q := N
    replace S := S.kept K (by omega)
    replace H := Lib.hid (kp_below H.out K (by omega))
    replace I := Lib.hid (I.out.kept K (fun _ g off e => by have := MA.out g off e; omega))
    replace J := Lib.hid (J.out.kept K (fun _ g off e => by have := MG.out g off e; omega))
    clear K N hHeld
    refine hK.out _ _ ⟨L, S⟩ (fun hHeld => ?_)
    clear hK K
    try simp only [Act.put, List.getElem_toArray, List.getElem_cons_succ, List.getElem_cons_zero]
    refine wpAnyH_done (by kernel_rfl) ?_ _
    go_wp2
    exact bodyPost_ret (v := .tuple #[lev i t x y A n c G m kk fp fq fs fz b, sta 0 999000 0 1500 0 0 0 false false, inp s p z]) (res_cells3 rfl w.heap.size (w.heap.size + 1) (w.heap.size + 1 + 1) rfl rfl rfl (lvs i t x y A n c G m kk fp fq fs fz b) (stv 0 999000 0 1500 0 0 0 false false) (ins s p z) D E Q Tryd.underlying29 rfl level_size Tryd.underlying31 rfl state_size Tryd.underlying33 rfl input_size) rfl ⟨i, t, x, y, A, n, c, G, m, kk, fp, fq, fs, fz, b, ws, gs, 0, 999000, 0, 1500, 0, 0, 0, false, false, s, p, z, rfl, hn, hm, I.out, J.out, H.out⟩
  have d0 : (c0 == 0) = false := beq_eq_false_iff_ne.2 e0
  clear e0
  go_upto_region 7 with fail
  refine wp_region_held_drew (S := fun w' => CellsAt w' w2.heap.size (lvs i' t' x' y' A' n' c' G' m' kk' p' q' s' z' b') ∧ CellsAt w' w3.heap.size (stv sk sax say sfx sfy su sg sd so)) (by kernel_rfl) ⟨L.drew, S.drew⟩ (fun hHeld => ?_)
  replace L := L.drew
  replace D := D.drew
  replace E := E.drew
  replace Q := Q.drew
  replace S := S.drew
  replace H := Lib.hid (bl_drew1 H.out)
  replace I2 := Lib.hid I2.out.drew
  replace J2 := Lib.hid J2.out.drew
  replace R4 := Lib.hid (R4.out.below ((bl_refl _).drew.mono R4.out.base))
  refine wpAnyH_take (i := 0) (oi := _) (v := ?_) rfl (by kernel_rfl) (by kernel_rfl) (by kernel_rfl) (fun _ _ _ h => h) (Or.inl ⟨by rfl, ?_⟩) hHeld ?_
  rotate_left
  · intro w hSw
    try dsimp only at hSw
    go_simp
    all_goals with_reducible rfl
  try simp only [Act.put, List.getElem_toArray, List.getElem_cons_zero, List.setIfInBounds_toArray, List.set_cons_zero, List.set_cons_succ]
  refine wpAnyH_take (i := 1) (oi := _) (v := .agg (lvs i' t' x' y' A' n' c' G' m' kk' p' q' s' z' b').toArray) rfl (by kernel_rfl) (by kernel_rfl) (by kernel_rfl) (fun _ _ _ h => h) (yieldsIf_load_mid (by rfl) 29 (.tmp 6) rfl w2.heap.size 0 rfl (lvs i' t' x' y' A' n' c' G' m' kk' p' q' s' z' b') _ (fun W hS => hS.1.range) Tryd.underlying29 rfl level_size) hHeld ?_
  try simp only [Act.put, List.getElem_toArray, List.getElem_cons_succ, List.getElem_cons_zero, List.setIfInBounds_toArray, List.set_cons_zero, List.set_cons_succ]
  refine wpAnyH_take (i := 3) (oi := _) (v := .agg (stv sk sax say sfx sfy su sg sd so).toArray) rfl (by kernel_rfl) (by kernel_rfl) (by kernel_rfl) (fun _ _ _ h => h) (yieldsIf_load_mid (by rfl) 31 (.tmp 7) rfl w3.heap.size 0 rfl (stv sk sax say sfx sfy su sg sd so) _ (fun W hS => hS.2.range) Tryd.underlying31 rfl state_size) hHeld ?_
  try simp only [Act.put, List.getElem_toArray, List.getElem_cons_succ, List.getElem_cons_zero, List.setIfInBounds_toArray, List.set_cons_zero, List.set_cons_succ]
  refine wpAnyH_take (i := 4) (oi := _) (v := ?_) rfl (by kernel_rfl) (by kernel_rfl) (by kernel_rfl) (fun _ _ _ h => h) (Or.inl ⟨by rfl, ?_⟩) hHeld ?_
  rotate_left
  · intro w hSw
    try dsimp only at hSw
    go_simp
    all_goals with_reducible rfl
  try simp only [Act.put, List.getElem_toArray, List.getElem_cons_succ, List.getElem_cons_zero, List.setIfInBounds_toArray, List.set_cons_zero, List.set_cons_succ]
  refine wpAnyH_ready (rs := [2]) (by kernel_rfl) (by simp) ?_
  apply AllReadyH.cons rfl ?_ AllReadyH.nil
  intro K hK
  rw [if_pos (by rfl)]
  refine wp_call_fn ⟨_, Tryd.func43, by kernel_rfl, by rfl⟩ _ _ rfl #[.pointer (some ⟨w.heap.size + 1 + 1 + 1, 0, none⟩), lev i' t' x' y' A' n' c' G' m' kk' p' q' s' z' b'] (by simp only [List.map_toArray, List.map_cons, List.map_nil]; rfl) (bent_drawn _ _ i' t' x' y' A' n' c' G' m' kk' p' q' s' z' b' ws' gs' _ R4.out (by omega) (by omega) I2.out J2.out MA2.out MG2.out hn' hm' HL2.out.1.lows) ?_
  rintro e w5 ⟨i, t, x, y, A, n, c, G, m, kk, fp, fq, fs, fz, b, ws, gs, rfl, hn, hm, _, I, J, MA, MG, R5, K⟩
  refine ⟨_, rfl, ?_⟩
  have zK := K.size
  try simp at zK
  replace L := L.kept K (by omega)
  replace D := D.kept K (by omega)
  replace E := E.kept K (by omega)
  replace Q := Q.kept K (by omega)
  replace S := S.kept K (by omega)
  replace H := Lib.hid (kp_below H.out K (by omega))
  replace I := Lib.hid I
  replace J := Lib.hid J
  replace MA := Lib.hid MA
  replace MG := Lib.hid MG
  replace R5 := Lib.hid R5
  clear K hHeld I2 J2 R4 MA2 MG2 nA nG HL2
  refine hK.out _ _ ⟨L, S⟩ (fun hHeld => ?_)
  clear hK K
  try simp only [Act.put, List.getElem_toArray, List.getElem_cons_succ, List.getElem_cons_zero, List.setIfInBounds_toArray, List.set_cons_zero, List.set_cons_succ]
  refine wpAnyH_ready (rs := [5]) (by kernel_rfl) (by simp) ?_
  apply AllReadyH.cons rfl ?_ AllReadyH.nil
  intro K hK
  rw [if_pos (by rfl)]
  refine wp_call_fn ⟨_, Tryd.func44, by kernel_rfl, by rfl⟩ _ _ rfl #[.pointer (some ⟨w.heap.size + 1 + 1 + 1, 0, none⟩)] (by simp only [List.map_toArray, List.map_cons, List.map_nil]; rfl) (input_drawn _ _ _ R5.out (by omega)) ?_
  rintro e w6 ⟨s, p, z, _, rfl, R6, K⟩
  refine ⟨_, rfl, ?_⟩
  have zK := K.size
  try simp at zK
  replace L := L.kept K (by omega)
  replace D := D.kept K (by omega)
  replace E := E.kept K (by omega)
  replace Q := Q.kept K (by omega)
  replace S := S.kept K (by omega)
  replace H := Lib.hid (kp_below H.out K (by omega))
  replace I := Lib.hid (I.out.kept K (fun _ g off e => by have := MA.out g off e; omega))
  replace J := Lib.hid (J.out.kept K (fun _ g off e => by have := MG.out g off e; omega))
  clear K hHeld R5 R6
  refine hK.out _ _ ⟨L, S⟩ (fun hHeld => ?_)
  clear hK K
  try simp only [Act.put, List.getElem_toArray, List.getElem_cons_succ, List.getElem_cons_zero, List.setIfInBounds_toArray, List.set_cons_zero, List.set_cons_succ]
  refine wpAnyH_ready (rs := [6]) (by kernel_rfl) (by simp) ?_
  apply AllReadyH.cons rfl ?_ AllReadyH.nil
  intro K hK
  rw [if_pos (by rfl)]
  refine wp_store_new 29 (.tmp 2) (.tmp 27) rfl w.heap.size rfl (lvs i t x y A n c G m kk fp fq fs fz b) rfl _ D (by simp) level_size rfl ?_
  intro w7 K N
  have zK := K.size
  try simp at zK
  replace L := L.kept K (by omega)
  replace D := N
  replace E := E.kept K (by omega)
  replace Q := Q.kept K (by omega)
  replace S := S.kept K (by omega)
  replace H := Lib.hid (kp_below H.out K (by omega))
  replace I := Lib.hid (I.out.kept K (fun _ g off e => by have := MA.out g off e; omega))
  replace J := Lib.hid (J.out.kept K (fun _ g off e => by have := MG.out g off e; omega))
  clear K N hHeld
  refine hK.out _ _ ⟨L, S⟩ (fun hHeld => ?_)
  clear hK K
  try simp only [Act.put, List.getElem_toArray, List.getElem_cons_succ, List.getElem_cons_zero]
  refine wpAnyH_ready (rs := [7]) (by kernel_rfl) (by simp) ?_
  apply AllReadyH.cons rfl ?_ AllReadyH.nil
  intro K hK
  rw [if_pos (by rfl)]
  refine wp_store_new 31 (.tmp 3) (.tmp 28) rfl (w.heap.size + 1) rfl (stv sk sax say sfx sfy su sg sd so) rfl _ E (by simp) state_size rfl ?_
  intro w8 K N
  have zK := K.size
  try simp at zK
  replace L := L.kept K (by omega)
  replace D := D.kept K (by omega)
  replace E := N
  replace Q := Q.kept K (by omega)
  replace S := S.kept K (by omega)
  replace H := Lib.hid (kp_below H.out K (by omega))
  replace I := Lib.hid (I.out.kept K (fun _ g off e => by have := MA.out g off e; omega))
  replace J := Lib.hid (J.out.kept K (fun _ g off e => by have := MG.out g off e; omega))
  clear K N hHeld
  refine hK.out _ _ ⟨L, S⟩ (fun hHeld => ?_)
  clear hK K
  try simp only [Act.put, List.getElem_toArray, List.getElem_cons_succ, List.getElem_cons_zero]
  refine wpAnyH_ready (rs := [8]) (by kernel_rfl) (by simp) ?_
  apply AllReadyH.cons rfl ?_ AllReadyH.nil
  intro K hK
  rw [if_pos (by rfl)]
  refine wp_store_new 33 (.tmp 4) (.tmp 30) rfl (w.heap.size + 1 + 1) rfl (ins s p z) rfl _ Q (by simp) input_size rfl ?_
  intro w9 K N
  have zK := K.size
  try simp at zK
  replace L := L.kept K (by omega)
  replace D := D.kept K (by omega)
  replace E := E.kept K (by omega)
  replace Q := N
  replace S := S.kept K (by omega)
  replace H := Lib.hid (kp_below H.out K (by omega))
  replace I := Lib.hid (I.out.kept K (fun _ g off e => by have := MA.out g off e; omega))
  replace J := Lib.hid (J.out.kept K (fun _ g off e => by have := MG.out g off e; omega))
  clear K N hHeld
  refine hK.out _ _ ⟨L, S⟩ (fun hHeld => ?_)
  clear hK K
  try simp only [Act.put, List.getElem_toArray, List.getElem_cons_succ, List.getElem_cons_zero]
  refine wpAnyH_done (by kernel_rfl) ?_ _
  go_wp2
  exact bodyPost_ret (v := .tuple #[lev i t x y A n c G m kk fp fq fs fz b, sta sk sax say sfx sfy su sg sd so, inp s p z]) (res_cells3 rfl w.heap.size (w.heap.size + 1) (w.heap.size + 1 + 1) rfl rfl rfl (lvs i t x y A n c G m kk fp fq fs fz b) (stv sk sax say sfx sfy su sg sd so) (ins s p z) D E Q Tryd.underlying29 rfl level_size Tryd.underlying31 rfl state_size Tryd.underlying33 rfl input_size) rfl ⟨i, t, x, y, A, n, c, G, m, kk, fp, fq, fs, fz, b, ws, gs, sk, sax, say, sfx, sfy, su, sg, sd, so, s, p, z, rfl, hn, hm, I.out, J.out, H.out⟩

def DrawnS (w : World) (e : Ending) (w' : World) : Prop := ∃ (k ax ay fx fy u g : Int) (d o : Bool), e = .returned (sta k ax ay fx fy u g d o) ∧ Below w.heap.size w w'

end Go.Proofs.YtnoenjociioffaaDoor
