/-
  What the program's own helpers of a tick return: the direction, a push, a slower speed, the control of an input and its steering.
-/
import Derived.Test.YtnoenjociioffaaDoorEng
import Derived.Test.YtnoenjociioffaaDoorVecDirB
import Derived.Test.YtnoenjociioffaaDoorInRow
import Derived.Handy
namespace Go.Proofs.YtnoenjociioffaaDoor
open Go.RowKit
open M

theorem implDirAfter (u s : Int) (w : World) (u0 : 0 ≤ u) (u1 : u ≤ 15) (s1 : -1 ≤ s) (s2 : s ≤ 1) : Calls Tryd.prog 77 #[.int .i64 u, .int .i64 s] w fun e w' => e = .returned (.int .i64 ((u + s) % 16)) ∧ Below w.heap.size w w' := by
  go_enter Tryd.func77, Tryd.ntmps77
  go_wp2
  go_ret
  exact ⟨ret_int (by omega), bl_refl w⟩

/-- A push. -/
theorem vs_push {u : Int} (u0 : 0 ≤ u) (u1 : u ≤ 15) : vsX (dirX u) (dirY u) 200 = mu (dirX u) 200 ∧ vsY (dirX u) (dirY u) 200 = mu (dirY u) 200 ∧ vsB (dirX u) (dirY u) 200 = true := by
  have dd := dir_small u0 u1
  have q := push_small u0 u1
  exact vs_mk (vok_mk ⟨⟨by omega, by omega⟩, by omega, by omega⟩) (by decide) rfl rfl (vok_mk ⟨⟨by omega, by omega⟩, by omega, by omega⟩)

set_option maxRecDepth 100000 in
set_option maxHeartbeats 4000000 in
theorem implPushed (fx fy u : Int) (w : World) (x1 : -2000 ≤ fx) (x2 : fx ≤ 2000) (y1 : -2000 ≤ fy) (y2 : fy ≤ 2000) (u0 : 0 ≤ u) (u1 : u ≤ 15) (hQ : Quarter w) :
    Calls Tryd.prog 78 #[vec fx fy, .int .i64 u] w fun e w' => e = .returned (vec (fsX fx fy u 1) (fsY fx fy u 1)) ∧ Below w.heap.size w w' := by
  have q := push_small u0 u1
  have dd := dir_small u0 u1
  have C1 := fun (W : World) (Z : Quarter W) => implVDir u W Z
  have C2 := fun W => implVScale (dirX u) (dirY u) 200 W
  obtain ⟨r1, r2, r3⟩ := vs_push u0 u1
  rw [inB_yes (show 0 ≤ u ∧ u ≤ 15 from ⟨u0, u1⟩)] at C1
  rw [r1, r2, r3] at C2
  have E : fsX fx fy u 1 = cpX (fx + mu (dirX u) 200) (fy + mu (dirY u) 200) 2000 ∧ fsY fx fy u 1 = cpY (fx + mu (dirX u) 200) (fy + mu (dirY u) 200) 2000 := ⟨by simp [fsX], by simp [fsY]⟩
  have E := Lib.hid E
  clear r1 r2 r3
  generalize mu (dirX u) 200 = e1 at *
  generalize mu (dirY u) 200 = e2 at *
  generalize dirX u = f1 at *
  generalize dirY u = f2 at *
  obtain ⟨⟨q1, q2⟩, q3, q4⟩ := q
  have v3 : vokB (fx + e1) (fy + e2) = true := vok_mk ⟨⟨by omega, by omega⟩, by omega, by omega⟩
  have C3 := fun W => implVAdd fx fy e1 e2 W
  obtain ⟨r1, r2, r3⟩ := va_mk (x := fx) (y := fy) (u := e1) (v := e2) (vok_mk ⟨⟨by omega, by omega⟩, by omega, by omega⟩) (vok_mk ⟨⟨by omega, by omega⟩, by omega, by omega⟩) v3
  rw [r1, r2, r3] at C3
  have C4 := fun W => implVClamp (fx + e1) (fy + e2) 2000 W
  rw [cp_yes v3 (by decide)] at C4
  generalize cpX (fx + e1) (fy + e2) 2000 = g1 at *
  generalize cpY (fx + e1) (fy + e2) 2000 = g2 at *
  have C1 := Lib.hid C1
  have C2 := Lib.hid C2
  have C3 := Lib.hid C3
  have C4 := Lib.hid C4
  have hQ := Lib.hid hQ
  clear r1 r2 r3 v3 dd q1 q2 q3 q4
  have P : CellsAt ((w.alloc (.cells #[.int .i64 fx, .int .i64 fy] 24)).alloc (.cells #[.int .i64 0, .int .i64 0] 24)) w.heap.size [.int .i64 (fx), .int .i64 (fy)] := (CellsAt.new w _ _ _ rfl).alloc _
  have D : CellsAt ((w.alloc (.cells #[.int .i64 fx, .int .i64 fy] 24)).alloc (.cells #[.int .i64 0, .int .i64 0] 24)) (w.heap.size + 1) [.int .i64 (0), .int .i64 (0)] := CellsAt.new _ _ _ _ (by simp)
  have H := Lib.hid (bl_alloc (bl_alloc (bl_refl w) (.cells #[.int .i64 fx, .int .i64 fy] 24)) (.cells #[.int .i64 0, .int .i64 0] 24))
  go_enter Tryd.func78, Tryd.ntmps78
  have Pc0 := P.cell 0 _ rfl
  have Pc1 := P.cell 1 _ rfl
  have Pl := P.lt
  have Dc0 := D.cell 0 _ rfl
  have Dc1 := D.cell 1 _ rfl
  have Dl := D.lt
  go_wp2_with fail
  clear Pc0 Pc1 Pl Dc0 Dc1 Dl
  refine (C1.out _ (hQ.out.step H.out)).mono ?_
  rintro e w1 ⟨rfl, B⟩
  replace P := P.step B
  replace D := D.step B
  replace H := Lib.hid (bl_trans H.out B)
  clear B
  have Pc0 := P.cell 0 _ rfl
  have Pc1 := P.cell 1 _ rfl
  have Pl := P.lt
  have Dc0 := D.cell 0 _ rfl
  have Dc1 := D.cell 1 _ rfl
  have Dl := D.lt
  go_wp2_with fail
  clear Pc0 Pc1 Pl Dc0 Dc1 Dl
  refine (C2.out _).mono ?_
  rintro e w2 ⟨rfl, B⟩
  replace P := P.alloc (.cells #[.int .i64 f1, .int .i64 f2] 24)
  replace D := D.alloc (.cells #[.int .i64 f1, .int .i64 f2] 24)
  replace H := Lib.hid (bl_alloc H.out (.cells #[.int .i64 f1, .int .i64 f2] 24))
  replace P := P.step B
  replace D := D.step B
  replace H := Lib.hid (bl_trans H.out B)
  clear B
  have Pc0 := P.cell 0 _ rfl
  have Pc1 := P.cell 1 _ rfl
  have Pl := P.lt
  have Dc0 := D.cell 0 _ rfl
  have Dc1 := D.cell 1 _ rfl
  have Dl := D.lt
  go_wp2_with fail
  clear Pc0 Pc1 Pl Dc0 Dc1 Dl
  refine (C3.out _).mono ?_
  rintro e w3 ⟨rfl, B⟩
  replace P := P.alloc (.cells #[.int .i64 e1, .int .i64 e2] 24)
  replace D := D.alloc (.cells #[.int .i64 e1, .int .i64 e2] 24)
  replace H := Lib.hid (bl_alloc H.out (.cells #[.int .i64 e1, .int .i64 e2] 24))
  replace P := P.step B
  replace D := D.step B
  replace H := Lib.hid (bl_trans H.out B)
  clear B
  have Pc0 := P.cell 0 _ rfl
  have Pc1 := P.cell 1 _ rfl
  have Pl := P.lt
  have Dc0 := D.cell 0 _ rfl
  have Dc1 := D.cell 1 _ rfl
  have Dl := D.lt
  go_wp2_with fail
  clear Pc0 Pc1 Pl Dc0 Dc1 Dl
  refine (C4.out _).mono ?_
  rintro e w4 ⟨rfl, B⟩
  replace P := P.alloc (.cells #[.int .i64 (fx + e1), .int .i64 (fy + e2)] 24)
  replace D := D.alloc (.cells #[.int .i64 (fx + e1), .int .i64 (fy + e2)] 24)
  replace H := Lib.hid (bl_alloc H.out (.cells #[.int .i64 (fx + e1), .int .i64 (fy + e2)] 24))
  replace P := P.step B
  replace D := D.step B
  replace H := Lib.hid (bl_trans H.out B)
  clear B
  have Pc0 := P.cell 0 _ rfl
  have Pc1 := P.cell 1 _ rfl
  have Pl := P.lt
  have Dc0 := D.cell 0 _ rfl
  have Dc1 := D.cell 1 _ rfl
  have Dl := D.lt
  go_upto_region 5 with fail
  clear Pc0 Pc1 Pl Dc0 Dc1 Dl
  have U : CellsAt (w4.alloc (.cells #[.int .i64 g1, .int .i64 g2] 24)) w4.heap.size [.int .i64 (g1), .int .i64 (g2)] := CellsAt.new _ _ _ _ rfl
  replace D := D.alloc (.cells #[.int .i64 g1, .int .i64 g2] 24)
  replace H := Lib.hid (bl_alloc H.out (.cells #[.int .i64 g1, .int .i64 g2] 24))
  refine wp_region_lit ?_
  refine load_cells rfl 24 (.tmp 11) rfl w4.heap.size rfl [.int .i64 (g1), .int .i64 (g2)] U Tryd.underlying24 rfl vec_size ?_
  refine store_new rfl 24 (.tmp 4) (.tmp 34) rfl (w.heap.size + 1) rfl [.int .i64 (g1), .int .i64 (g2)] rfl _ D (by simp) vec_size rfl ?_
  intro w5 K N
  go_wp2
  exact bodyPost_ret (v := vec g1 g2) (res_cells rfl (w.heap.size + 1) rfl [.int .i64 (g1), .int .i64 (g2)] N Tryd.underlying24 rfl vec_size) rfl ⟨by rw [E.out.1, E.out.2], kp_below H.out K (by omega)⟩

set_option maxRecDepth 100000 in
set_option maxHeartbeats 1000000 in
theorem implSlowed (fx fy c : Int) (w : World) (x1 : -2000 ≤ fx) (x2 : fx ≤ 2000) (y1 : -2000 ≤ fy) (y2 : fy ≤ 2000) (c0 : 0 ≤ c) (c1 : c ≤ 1000) :
    Calls Tryd.prog 79 #[vec fx fy, .int .i64 c] w fun e w' => e = .returned (vec (mu fx c) (mu fy c)) ∧ Below w.heap.size w w' := by
  have q1 := mu_small x1 x2 c0 c1
  have q2 := mu_small y1 y2 c0 c1
  have C1 := fun W => implVScale fx fy c W
  obtain ⟨r1, r2, r3⟩ := vs_mk (x := fx) (y := fy) (k := c) (vok_mk ⟨⟨by omega, by omega⟩, by omega, by omega⟩) (ok_yes (by omega)) rfl rfl (vok_mk ⟨⟨by omega, by omega⟩, by omega, by omega⟩)
  rw [r1, r2, r3] at C1
  generalize mu fx c = g1 at *
  generalize mu fy c = g2 at *
  have C1 := Lib.hid C1
  clear r1 r2 r3
  have P : CellsAt ((w.alloc (.cells #[.int .i64 fx, .int .i64 fy] 24)).alloc (.cells #[.int .i64 0, .int .i64 0] 24)) w.heap.size [.int .i64 (fx), .int .i64 (fy)] := (CellsAt.new w _ _ _ rfl).alloc _
  have D : CellsAt ((w.alloc (.cells #[.int .i64 fx, .int .i64 fy] 24)).alloc (.cells #[.int .i64 0, .int .i64 0] 24)) (w.heap.size + 1) [.int .i64 (0), .int .i64 (0)] := CellsAt.new _ _ _ _ (by simp)
  have H := Lib.hid (bl_alloc (bl_alloc (bl_refl w) (.cells #[.int .i64 fx, .int .i64 fy] 24)) (.cells #[.int .i64 0, .int .i64 0] 24))
  go_enter Tryd.func79, Tryd.ntmps79
  have Pc0 := P.cell 0 _ rfl
  have Pc1 := P.cell 1 _ rfl
  have Pl := P.lt
  have Dc0 := D.cell 0 _ rfl
  have Dc1 := D.cell 1 _ rfl
  have Dl := D.lt
  go_wp2_with fail
  clear Pc0 Pc1 Pl Dc0 Dc1 Dl
  refine (C1.out _).mono ?_
  rintro e w1 ⟨rfl, B⟩
  replace P := P.step B
  replace D := D.step B
  replace H := Lib.hid (bl_trans H.out B)
  clear B
  have Pc0 := P.cell 0 _ rfl
  have Pc1 := P.cell 1 _ rfl
  have Pl := P.lt
  have Dc0 := D.cell 0 _ rfl
  have Dc1 := D.cell 1 _ rfl
  have Dl := D.lt
  go_upto_region 2 with fail
  clear Pc0 Pc1 Pl Dc0 Dc1 Dl
  have U : CellsAt (w1.alloc (.cells #[.int .i64 g1, .int .i64 g2] 24)) w1.heap.size [.int .i64 (g1), .int .i64 (g2)] := CellsAt.new _ _ _ _ rfl
  replace D := D.alloc (.cells #[.int .i64 g1, .int .i64 g2] 24)
  replace H := Lib.hid (bl_alloc H.out (.cells #[.int .i64 g1, .int .i64 g2] 24))
  refine wp_region_lit ?_
  refine load_cells rfl 24 (.tmp 5) rfl w1.heap.size rfl [.int .i64 (g1), .int .i64 (g2)] U Tryd.underlying24 rfl vec_size ?_
  refine store_new rfl 24 (.tmp 4) (.tmp 13) rfl (w.heap.size + 1) rfl [.int .i64 (g1), .int .i64 (g2)] rfl _ D (by simp) vec_size rfl ?_
  intro w2 K N
  go_wp2
  exact bodyPost_ret (v := vec g1 g2) (res_cells rfl (w.heap.size + 1) rfl [.int .i64 (g1), .int .i64 (g2)] N Tryd.underlying24 rfl vec_size) rfl ⟨rfl, kp_below H.out K (by omega)⟩

/-- The control of an input. -/
def ctl (s p : Int) (z : Bool) : Value := if z then .iface 111 (.agg #[]) else if p = 1 then .iface 115 (.agg #[.int .i64 s]) else if p = 2 then .iface 117 (.agg #[.int .i64 s]) else .iface 118 (.agg #[.int .i64 s])

set_option maxRecDepth 100000 in
set_option maxHeartbeats 1000000 in
theorem implControl (s p : Int) (z : Bool) (w : World) : Calls Tryd.prog 48 #[inp s p z] w fun e w' => e = .returned (ctl s p z) ∧ Below w.heap.size w w' := by
  cases z
  rotate_left
  · go_enter Tryd.func48, Tryd.ntmps48
    go_wp2
    go_ret
    exact ⟨rfl, bl_alloc (bl_alloc (bl_refl w) _) _⟩
  by_cases h1 : p = 1
  · subst h1
    go_enter Tryd.func48, Tryd.ntmps48
    go_wp2
    go_ret
    exact ⟨rfl, bl_alloc (bl_alloc (bl_refl w) _) _⟩
  have d1 : (p == 1) = false := beq_eq_false_iff_ne.2 h1
  by_cases h2 : p = 2
  · subst h2
    go_enter Tryd.func48, Tryd.ntmps48
    go_wp2
    go_ret
    exact ⟨rfl, bl_alloc (bl_alloc (bl_refl w) _) _⟩
  have d2 : (p == 2) = false := beq_eq_false_iff_ne.2 h2
  have E := Lib.hid (show ctl s p false = .iface 118 (.agg #[.int .i64 s]) by simp [ctl, h1, h2])
  clear h1 h2
  go_enter Tryd.func48, Tryd.ntmps48
  go_wp2
  go_ret
  exact ⟨by rw [E.out]; rfl, bl_alloc (bl_alloc (bl_refl w) _) _⟩
theorem implSteer (s : Int) (w : World) : Calls Tryd.prog 140 #[.agg #[.int .i64 s]] w fun e w' => e = .returned (.int .i64 s) ∧ Below w.heap.size w w' := by
  go_enter Tryd.func140, Tryd.ntmps140
  go_wp2
  go_ret
  exact ⟨rfl, bl_alloc (bl_refl w) _⟩
theorem implPauseSteer (w : World) : Calls Tryd.prog 139 #[.agg #[]] w fun e w' => e = .returned (.int .i64 0) ∧ Below w.heap.size w w' := by
  go_enter Tryd.func139, Tryd.ntmps139
  go_wp2
  go_ret
  exact ⟨rfl, bl_alloc (bl_refl w) _⟩

end Go.Proofs.YtnoenjociioffaaDoor
