/-
  A level and two inputs that the model draws.
-/
import Derived.Test.YtagbeneapmpooaaDrawIn
import Derived.Test.YtagbeneapmpooaaDrawLevB
namespace Go.Proofs.Ytagbeneapmpooaa
open Go.RowKit
open M

def DrawnLII (w : World) (e : Ending) (w' : World) : Prop :=
  ∃ (i t x y : Int) (A : Option Addr) (n c : Nat) (G : Option Addr) (m kk : Nat) (p q s z b : Int) (ws gs : List Bx) (s1 p1 : Int) (z1 : Bool) (s2 p2 : Int) (z2 : Bool), (((-3 ≤ s1 ∧ s1 ≤ 3) ∧ (-3 ≤ p1 ∧ p1 ≤ 5)) ∧ ((-3 ≤ s2 ∧ s2 ≤ 3) ∧ (-3 ≤ p2 ∧ p2 ≤ 5))) ∧ e = .returned (.tuple #[lev i t x y A n c G m kk p q s z b, inp s1 p1 z1, inp s2 p2 z2]) ∧ (n ≤ 20 ∧ n ≤ c) ∧ (m ≤ 20 ∧ m ≤ kk) ∧ Boxes w' A n ws ∧ Boxes w' G m gs ∧ Mine w.heap.size A ∧ Mine w.heap.size G ∧ Below w.heap.size w w'
/-- What a function hands back that lies in three variables. -/
theorem res_cells3 {P : Program} {fn : Func} {p p' p2 : Tmp} {ty ty' ty2 : TypeId} {tmps : Array Value} {w : World} (h : fn.results = #[.cell p ty, .cell p' ty', .cell p2 ty2]) (b b' b2 : Nat) (hp : tmps[p]?.getD undef = .pointer (some ⟨b, 0, none⟩)) (hp' : tmps[p']?.getD undef = .pointer (some ⟨b', 0, none⟩)) (hp2 : tmps[p2]?.getD undef = .pointer (some ⟨b2, 0, none⟩)) (vs us ts : List Value) (L : CellsAt w b vs) (L' : CellsAt w b' us) (L2 : CellsAt w b2 ts) {d d' d2 : TypeDesc}
    (hu : P.underlying ty = some d) (hd : d.isRow = true) (hi : (P.info? ty).map (·.size) = some vs.length) (hu' : P.underlying ty' = some d') (hd' : d'.isRow = true) (hi' : (P.info? ty').map (·.size) = some us.length) (hu2 : P.underlying ty2 = some d2) (hd2 : d2.isRow = true) (hi2 : (P.info? ty2).map (·.size) = some ts.length) : (results fn tmps).run P w = .ok (.tuple #[.agg vs.toArray, .agg us.toArray, .agg ts.toArray]) w := by
  simp [results, h, hp, hp', hp2, asAddr, run_loadVar_mid w b 0 ty vs d L.range hu hd hi, run_loadVar_mid w b' 0 ty' us d' L'.range hu' hd' hi', run_loadVar_mid w b2 0 ty2 ts d2 L2.range hu2 hd2 hi2]

set_option maxRecDepth 100000 in
set_option maxHeartbeats 4000000 in
theorem draw_ifol (a : Option Addr) (len cap : Nat) (zs : List Int) (w : World) (h : IsRow .u8 w a len cap zs) : Calls Try.prog 24 #[.slice a len cap] w (DrawnLII w) := by
  have h1 := h.below (w' := ((w.alloc (.cells #[.int .i64 0, .int .i64 0, .int .i64 0, .int .i64 0, .slice none 0 0, .slice none 0 0, .int .i64 0, .int .i64 0, .int .i64 0, .int .i64 0, .int .i64 0] 38)).alloc (.cells #[.int .i64 0, .int .i64 0, .bool false] 24)).alloc (.cells #[.int .i64 0, .int .i64 0, .bool false] 24)) (bl_alloc (bl_alloc (bl_alloc (bl_refl w) _) _) _)
  have D : CellsAt (((w.alloc (.cells #[.int .i64 0, .int .i64 0, .int .i64 0, .int .i64 0, .slice none 0 0, .slice none 0 0, .int .i64 0, .int .i64 0, .int .i64 0, .int .i64 0, .int .i64 0] 38)).alloc (.cells #[.int .i64 0, .int .i64 0, .bool false] 24)).alloc (.cells #[.int .i64 0, .int .i64 0, .bool false] 24)) w.heap.size (lvs 0 0 0 0 none 0 0 none 0 0 0 0 0 0 0) := ((CellsAt.new w _ _ _ rfl).alloc _).alloc _
  have E : CellsAt (((w.alloc (.cells #[.int .i64 0, .int .i64 0, .int .i64 0, .int .i64 0, .slice none 0 0, .slice none 0 0, .int .i64 0, .int .i64 0, .int .i64 0, .int .i64 0, .int .i64 0] 38)).alloc (.cells #[.int .i64 0, .int .i64 0, .bool false] 24)).alloc (.cells #[.int .i64 0, .int .i64 0, .bool false] 24)) (w.heap.size + 1) (ins 0 0 false) := (CellsAt.new _ _ _ _ (by simp)).alloc _
  have Q : CellsAt (((w.alloc (.cells #[.int .i64 0, .int .i64 0, .int .i64 0, .int .i64 0, .slice none 0 0, .slice none 0 0, .int .i64 0, .int .i64 0, .int .i64 0, .int .i64 0, .int .i64 0] 38)).alloc (.cells #[.int .i64 0, .int .i64 0, .bool false] 24)).alloc (.cells #[.int .i64 0, .int .i64 0, .bool false] 24)) (w.heap.size + 1 + 1) (ins 0 0 false) := CellsAt.new _ _ _ _ (by simp)
  have H := Lib.hid (show Below w.heap.size w (((w.alloc (.cells #[.int .i64 0, .int .i64 0, .int .i64 0, .int .i64 0, .slice none 0 0, .slice none 0 0, .int .i64 0, .int .i64 0, .int .i64 0, .int .i64 0, .int .i64 0] 38)).alloc (.cells #[.int .i64 0, .int .i64 0, .bool false] 24)).alloc (.cells #[.int .i64 0, .int .i64 0, .bool false] 24)) from bl_alloc (bl_alloc (bl_alloc (bl_refl w) _) _) _)
  go_enter Try.func24, Try.ntmps24
  go_wp2_with fail
  refine (open_any a len cap zs (((w.alloc (.cells #[.int .i64 0, .int .i64 0, .int .i64 0, .int .i64 0, .slice none 0 0, .slice none 0 0, .int .i64 0, .int .i64 0, .int .i64 0, .int .i64 0, .int .i64 0] 38)).alloc (.cells #[.int .i64 0, .int .i64 0, .bool false] 24)).alloc (.cells #[.int .i64 0, .int .i64 0, .bool false] 24)) h1).mono ?_
  rintro e w1 ⟨rfl, R1, B⟩
  simp at R1
  have z1 := R1.base
  replace D := D.step B
  replace E := E.step B
  replace Q := Q.step B
  replace H := Lib.hid (bl_trans H.out B)
  clear B h1 h
  go_wp2_with fail
  refine (level_drawn _ 0 _ R1 (by omega)).mono ?_
  rintro e w2 ⟨i', t', x', y', A', n', c', G', m', kk', p', q', s', z', b', ws', gs', rfl, hn', hm', HL', I2, J2, MA', MG', R2, K⟩
  have z2 := K.size
  replace D := D.kept K (by omega)
  replace E := E.kept K (by omega)
  replace Q := Q.kept K (by omega)
  replace H := Lib.hid (kp_below H.out K (by omega))
  clear R1 K
  go_wp2_with fail
  refine (bent_drawn _ _ i' t' x' y' A' n' c' G' m' kk' p' q' s' z' b' ws' gs' _ R2 (by omega) (by omega) I2 J2 (fun g off e => by have := MA' g off e; omega) (fun g off e => by have := MG' g off e; omega) hn' hm' HL').mono ?_
  clear hn' hm' HL' I2 J2 MA' MG'
  rintro e w3 ⟨i, t, x, y, A, n, c, G, m, kk, p, q, s, z, b, ws, gs, rfl, hn, hm, HL, I, J, MA, MG, R3, K⟩
  have z3 := K.size
  replace D := D.kept K (by omega)
  replace E := E.kept K (by omega)
  replace Q := Q.kept K (by omega)
  replace H := Lib.hid (kp_below H.out K (by omega))
  replace MA := Lib.hid MA
  replace MG := Lib.hid MG
  have L : CellsAt (w3.alloc (.cells #[.int .i64 i, .int .i64 t, .int .i64 x, .int .i64 y, .slice A n c, .slice G m kk, .int .i64 p, .int .i64 q, .int .i64 s, .int .i64 z, .int .i64 b] 38)) w3.heap.size (lvs i t x y A n c G m kk p q s z b) := CellsAt.new _ _ _ _ rfl
  replace D := D.alloc (.cells #[.int .i64 i, .int .i64 t, .int .i64 x, .int .i64 y, .slice A n c, .slice G m kk, .int .i64 p, .int .i64 q, .int .i64 s, .int .i64 z, .int .i64 b] 38)
  replace E := E.alloc (.cells #[.int .i64 i, .int .i64 t, .int .i64 x, .int .i64 y, .slice A n c, .slice G m kk, .int .i64 p, .int .i64 q, .int .i64 s, .int .i64 z, .int .i64 b] 38)
  replace Q := Q.alloc (.cells #[.int .i64 i, .int .i64 t, .int .i64 x, .int .i64 y, .slice A n c, .slice G m kk, .int .i64 p, .int .i64 q, .int .i64 s, .int .i64 z, .int .i64 b] 38)
  replace H := Lib.hid (bl_alloc H.out (.cells #[.int .i64 i, .int .i64 t, .int .i64 x, .int .i64 y, .slice A n c, .slice G m kk, .int .i64 p, .int .i64 q, .int .i64 s, .int .i64 z, .int .i64 b] 38))
  replace I := Lib.hid (I.alloc (.cells #[.int .i64 i, .int .i64 t, .int .i64 x, .int .i64 y, .slice A n c, .slice G m kk, .int .i64 p, .int .i64 q, .int .i64 s, .int .i64 z, .int .i64 b] 38))
  replace J := Lib.hid (J.alloc (.cells #[.int .i64 i, .int .i64 t, .int .i64 x, .int .i64 y, .slice A n c, .slice G m kk, .int .i64 p, .int .i64 q, .int .i64 s, .int .i64 z, .int .i64 b] 38))
  clear R2 K HL
  go_wp2_with fail
  refine (input_drawn _ _ _ (R3.alloc _) (by omega)).mono ?_
  rintro e w4 ⟨s1, p1, z1', hb1, rfl, R4, K⟩
  have z4 := K.size
  simp at z4
  replace L := L.kept K (by omega)
  replace D := D.kept K (by omega)
  replace E := E.kept K (by omega)
  replace Q := Q.kept K (by omega)
  replace H := Lib.hid (kp_below H.out K (by omega))
  replace I := Lib.hid (I.out.kept K (fun _ g off e => by have := MA.out g off e; omega))
  replace J := Lib.hid (J.out.kept K (fun _ g off e => by have := MG.out g off e; omega))
  clear K R3
  have Y : CellsAt (w4.alloc (.cells #[.int .i64 s1, .int .i64 p1, .bool z1'] 24)) w4.heap.size (ins s1 p1 z1') := CellsAt.new _ _ _ _ rfl
  replace L := L.alloc (.cells #[.int .i64 s1, .int .i64 p1, .bool z1'] 24)
  replace D := D.alloc (.cells #[.int .i64 s1, .int .i64 p1, .bool z1'] 24)
  replace E := E.alloc (.cells #[.int .i64 s1, .int .i64 p1, .bool z1'] 24)
  replace Q := Q.alloc (.cells #[.int .i64 s1, .int .i64 p1, .bool z1'] 24)
  replace H := Lib.hid (bl_alloc H.out (.cells #[.int .i64 s1, .int .i64 p1, .bool z1'] 24))
  replace I := Lib.hid (I.out.alloc (.cells #[.int .i64 s1, .int .i64 p1, .bool z1'] 24))
  replace J := Lib.hid (J.out.alloc (.cells #[.int .i64 s1, .int .i64 p1, .bool z1'] 24))
  have R5 := Lib.hid (R4.alloc (.cells #[.int .i64 s1, .int .i64 p1, .bool z1'] 24))
  clear R4
  go_wp2_with fail
  refine wp_region_held_drew (S := fun w' => CellsAt w' w3.heap.size (lvs i t x y A n c G m kk p q s z b) ∧ CellsAt w' w4.heap.size (ins s1 p1 z1')) (by kernel_rfl) ⟨(by repeat (first | with_reducible exact L | with_reducible refine CellsAt.alloc ?_ _ | with_reducible refine CellsAt.drew ?_)), (by repeat (first | with_reducible exact Y | with_reducible refine CellsAt.alloc ?_ _ | with_reducible refine CellsAt.drew ?_))⟩ (fun hHeld => ?_)
  refine wpAnyH_take (i := 0) (oi := _) (v := .agg (lvs i t x y A n c G m kk p q s z b).toArray) rfl (by kernel_rfl) (by kernel_rfl) (by kernel_rfl) (fun _ _ _ h => h) (yieldsIf_load_mid (by rfl) 38 (.tmp 6) rfl w3.heap.size 0 rfl (lvs i t x y A n c G m kk p q s z b) _ (fun W hS => hS.1.range) Try.underlying38 rfl level_size) hHeld ?_
  try simp only [Act.put, List.getElem_toArray, List.getElem_cons_zero, List.setIfInBounds_toArray, List.set_cons_zero, List.set_cons_succ]
  refine wpAnyH_take (i := 1) (oi := _) (v := .agg (ins s1 p1 z1').toArray) rfl (by kernel_rfl) (by kernel_rfl) (by kernel_rfl) (fun _ _ _ h => h) (yieldsIf_load_mid (by rfl) 24 (.tmp 7) rfl w4.heap.size 0 rfl (ins s1 p1 z1') _ (fun W hS => hS.2.range) Try.underlying24 rfl input_size) hHeld ?_
  try simp only [Act.put, List.getElem_toArray, List.getElem_cons_succ, List.getElem_cons_zero, List.setIfInBounds_toArray, List.set_cons_zero, List.set_cons_succ]
  refine wpAnyH_take (i := 2) (oi := _) (v := ?_) rfl (by kernel_rfl) (by kernel_rfl) (by kernel_rfl) (fun _ _ _ h => h) (Or.inl ⟨by rfl, ?_⟩) hHeld ?_
  rotate_left
  · intro w hSw
    try dsimp only at hSw
    go_simp
    all_goals with_reducible rfl
  try simp only [Act.put, List.getElem_toArray, List.getElem_cons_succ, List.getElem_cons_zero, List.setIfInBounds_toArray, List.set_cons_zero, List.set_cons_succ]
  refine wpAnyH_ready (rs := [3]) (by kernel_rfl) (by simp) ?_
  apply AllReadyH.cons rfl ?_ AllReadyH.nil
  intro K hK
  go_simp
  go_at_call 39
  refine (input_drawn _ _ _ (by first | with_reducible exact R5.out.drew | with_reducible exact R5.out) (by omega)).mono ?_
  rintro e w5 ⟨s2, p2, z2', hb2, rfl, R6, K⟩
  have zK := K.size
  try simp at zK
  replace L := CellsAt.kept (by first | with_reducible exact L | with_reducible exact L.drew) K (by omega)
  replace D := CellsAt.kept (by first | with_reducible exact D | with_reducible exact D.drew) K (by omega)
  replace E := CellsAt.kept (by first | with_reducible exact E | with_reducible exact E.drew) K (by omega)
  replace Q := CellsAt.kept (by first | with_reducible exact Q | with_reducible exact Q.drew) K (by omega)
  replace Y := CellsAt.kept (by first | with_reducible exact Y | with_reducible exact Y.drew) K (by omega)
  replace H := Lib.hid (kp_below (by first | with_reducible exact H.out | with_reducible exact bl_drew1 H.out) K (by omega))
  replace I := Lib.hid (Boxes.kept (by first | with_reducible exact I.out | with_reducible exact I.out.drew) K (fun _ g off e => by have := MA.out g off e; omega))
  replace J := Lib.hid (Boxes.kept (by first | with_reducible exact J.out | with_reducible exact J.out.drew) K (fun _ g off e => by have := MG.out g off e; omega))
  clear K
  clear R6 R5
  clear hHeld
  go_wp2_with fail
  refine hK.out _ _ ⟨(by repeat (first | with_reducible exact L | with_reducible refine CellsAt.alloc ?_ _ | with_reducible refine CellsAt.drew ?_)), (by repeat (first | with_reducible exact Y | with_reducible refine CellsAt.alloc ?_ _ | with_reducible refine CellsAt.drew ?_))⟩ (fun hHeld => ?_)
  clear hK K
  try simp only [Act.put, List.getElem_toArray, List.getElem_cons_succ, List.getElem_cons_zero, List.setIfInBounds_toArray, List.set_cons_zero, List.set_cons_succ]
  refine wpAnyH_ready (rs := [4]) (by kernel_rfl) (by simp) ?_
  apply AllReadyH.cons rfl ?_ AllReadyH.nil
  intro K hK
  dsimp only [List.getElem_toArray, List.getElem_cons_succ, List.getElem_cons_zero]
  rw [if_pos (by rfl)]
  refine wp_store_new 38 (.tmp 2) (.tmp 16) rfl w.heap.size rfl (lvs i t x y A n c G m kk p q s z b) rfl _ D (by simp) level_size rfl ?_
  intro w6 K N
  have zK := K.size
  try simp at zK
  replace L := CellsAt.kept (by first | with_reducible exact L | with_reducible exact L.drew) K (by omega)
  replace D := N
  replace E := CellsAt.kept (by first | with_reducible exact E | with_reducible exact E.drew) K (by omega)
  replace Q := CellsAt.kept (by first | with_reducible exact Q | with_reducible exact Q.drew) K (by omega)
  replace Y := CellsAt.kept (by first | with_reducible exact Y | with_reducible exact Y.drew) K (by omega)
  replace H := Lib.hid (kp_below (by first | with_reducible exact H.out | with_reducible exact bl_drew1 H.out) K (by omega))
  replace I := Lib.hid (Boxes.kept (by first | with_reducible exact I.out | with_reducible exact I.out.drew) K (fun _ g off e => by have := MA.out g off e; omega))
  replace J := Lib.hid (Boxes.kept (by first | with_reducible exact J.out | with_reducible exact J.out.drew) K (fun _ g off e => by have := MG.out g off e; omega))
  clear K
  refine hK.out _ _ ⟨(by repeat (first | with_reducible exact L | with_reducible refine CellsAt.alloc ?_ _ | with_reducible refine CellsAt.drew ?_)), (by repeat (first | with_reducible exact Y | with_reducible refine CellsAt.alloc ?_ _ | with_reducible refine CellsAt.drew ?_))⟩ (fun hHeld => ?_)
  clear hK K
  try simp only [Act.put]
  refine wpAnyH_ready (rs := [5]) (by kernel_rfl) (by simp) ?_
  apply AllReadyH.cons rfl ?_ AllReadyH.nil
  intro K hK
  dsimp only [List.getElem_toArray, List.getElem_cons_succ, List.getElem_cons_zero]
  rw [if_pos (by rfl)]
  refine wp_store_new 24 (.tmp 3) (.tmp 17) rfl (w.heap.size + 1) rfl (ins s1 p1 z1') rfl _ E (by simp) input_size rfl ?_
  intro w7 K N
  have zK := K.size
  try simp at zK
  replace L := CellsAt.kept (by first | with_reducible exact L | with_reducible exact L.drew) K (by omega)
  replace D := CellsAt.kept (by first | with_reducible exact D | with_reducible exact D.drew) K (by omega)
  replace E := N
  replace Q := CellsAt.kept (by first | with_reducible exact Q | with_reducible exact Q.drew) K (by omega)
  replace Y := CellsAt.kept (by first | with_reducible exact Y | with_reducible exact Y.drew) K (by omega)
  replace H := Lib.hid (kp_below (by first | with_reducible exact H.out | with_reducible exact bl_drew1 H.out) K (by omega))
  replace I := Lib.hid (Boxes.kept (by first | with_reducible exact I.out | with_reducible exact I.out.drew) K (fun _ g off e => by have := MA.out g off e; omega))
  replace J := Lib.hid (Boxes.kept (by first | with_reducible exact J.out | with_reducible exact J.out.drew) K (fun _ g off e => by have := MG.out g off e; omega))
  clear K
  refine hK.out _ _ ⟨(by repeat (first | with_reducible exact L | with_reducible refine CellsAt.alloc ?_ _ | with_reducible refine CellsAt.drew ?_)), (by repeat (first | with_reducible exact Y | with_reducible refine CellsAt.alloc ?_ _ | with_reducible refine CellsAt.drew ?_))⟩ (fun hHeld => ?_)
  clear hK K
  try simp only [Act.put]
  refine wpAnyH_ready (rs := [6]) (by kernel_rfl) (by simp) ?_
  apply AllReadyH.cons rfl ?_ AllReadyH.nil
  intro K hK
  dsimp only [List.getElem_toArray, List.getElem_cons_succ, List.getElem_cons_zero]
  rw [if_pos (by rfl)]
  refine wp_store_new 24 (.tmp 4) (.tmp 19) rfl (w.heap.size + 1 + 1) rfl (ins s2 p2 z2') rfl _ Q (by simp) input_size rfl ?_
  intro w8 K N
  have zK := K.size
  try simp at zK
  replace L := CellsAt.kept (by first | with_reducible exact L | with_reducible exact L.drew) K (by omega)
  replace D := CellsAt.kept (by first | with_reducible exact D | with_reducible exact D.drew) K (by omega)
  replace E := CellsAt.kept (by first | with_reducible exact E | with_reducible exact E.drew) K (by omega)
  replace Q := N
  replace Y := CellsAt.kept (by first | with_reducible exact Y | with_reducible exact Y.drew) K (by omega)
  replace H := Lib.hid (kp_below (by first | with_reducible exact H.out | with_reducible exact bl_drew1 H.out) K (by omega))
  replace I := Lib.hid (Boxes.kept (by first | with_reducible exact I.out | with_reducible exact I.out.drew) K (fun _ g off e => by have := MA.out g off e; omega))
  replace J := Lib.hid (Boxes.kept (by first | with_reducible exact J.out | with_reducible exact J.out.drew) K (fun _ g off e => by have := MG.out g off e; omega))
  clear K
  refine hK.out _ _ ⟨(by repeat (first | with_reducible exact L | with_reducible refine CellsAt.alloc ?_ _ | with_reducible refine CellsAt.drew ?_)), (by repeat (first | with_reducible exact Y | with_reducible refine CellsAt.alloc ?_ _ | with_reducible refine CellsAt.drew ?_))⟩ (fun hHeld => ?_)
  clear hK K
  try simp only [Act.put]
  refine wpAnyH_done (by kernel_rfl) ?_ _
  go_wp2
  exact bodyPost_ret (v := .tuple #[lev i t x y A n c G m kk p q s z b, inp s1 p1 z1', inp s2 p2 z2']) (res_cells3 rfl w.heap.size (w.heap.size + 1) (w.heap.size + 1 + 1) rfl rfl rfl (lvs i t x y A n c G m kk p q s z b) (ins s1 p1 z1') (ins s2 p2 z2') D E Q Try.underlying38 rfl level_size Try.underlying24 rfl input_size Try.underlying24 rfl input_size) rfl ⟨i, t, x, y, A, n, c, G, m, kk, p, q, s, z, b, ws, gs, s1, p1, z1', s2, p2, z2', ⟨hb1, hb2⟩, rfl, hn, hm, I.out, J.out, fun g off e => by have := MA.out g off e; omega, fun g off e => by have := MG.out g off e; omega, H.out⟩

end Go.Proofs.Ytagbeneapmpooaa
