/-
  The walks of FnEngineHash, FnEngineHashAt.
-/
import Derived.Test.YtnoenjociioffabEngH
import Derived.Test.YtnoenjociioffabEngS
import Derived.Test.YtnoenjociioffabDrawEng
import Derived.Test.YtnoenjociioffabEngHash
import Derived.Deep.Cut
namespace Go.Proofs.Ytnoenjociioffab
open Go.RowKit
open M

set_option maxRecDepth 100000 in
set_option maxHeartbeats 4000000 in
theorem walk_FnEngineHash (a : Option Addr) (len cap : Nat) (zs : List Int) (a2 : Option Addr) (len2 cap2 : Nat) (zs2 : List Int) (w : World) (h : IsRow .u8 w a len cap zs) (h2 : IsRow .u8 w a2 len2 cap2 zs2) :
    Calls Try.prog 4 #[.slice a len cap, .slice a2 len2 cap2] w fun e w' => e = .returned (.bool true) ∧ Below w.heap.size w w' := by
  have hm := h.bytes.1
  have hm2 := h.bytes.2.1
  unfold maxLen at hm2
  have hq := h2.bytes.1
  have hq2 := h2.bytes.2.1
  unfold maxLen at hq2
  clear h2
  by_cases g9 : 1048576 < len
  · have g1 : (1048576 : Int) < (len : Int) := by omega
    go_enter Try.func4, Try.ntmps4
    go_wp2
    go_ret
    exact ⟨rfl, Below.refl _ _⟩
  have g1d : decide ((1048576 : Int) < (len : Int)) = false := decide_eq_false (by omega)
  have g2d : decide (1048576 < len) = false := decide_eq_false (by omega)
  clear g9
  by_cases g8 : 1048576 < len2
  · have g1 : (1048576 : Int) < (len2 : Int) := by omega
    go_enter Try.func4, Try.ntmps4
    go_wp2
    go_ret
    exact ⟨rfl, Below.refl _ _⟩
  have g3d : decide ((1048576 : Int) < (len2 : Int)) = false := decide_eq_false (by omega)
  have g4d : decide (1048576 < len2) = false := decide_eq_false (by omega)
  have g8' : len2 ≤ 1048576 := by omega
  clear g8
  go_enter Try.func4, Try.ntmps4
  go_wp2_with fail
  refine (draw_ehash a len cap zs w h).mono ?_
  rintro e w1 ⟨k, ax, ay, fx, fy, u, g, d, o, rfl, B⟩
  have S : CellsAt (w1.alloc (.cells #[.int .i64 k, .int .i64 ax, .int .i64 ay, .int .i64 fx, .int .i64 fy, .int .i64 u, .int .i64 g, .bool d, .bool o] 32)) w1.heap.size (stv k ax ay fx fy u g d o) := CellsAt.new _ _ _ _ rfl
  have H := Lib.hid (bl_alloc B (.cells #[.int .i64 k, .int .i64 ax, .int .i64 ay, .int .i64 fx, .int .i64 fy, .int .i64 u, .int .i64 g, .bool d, .bool o] 32))
  clear B h
  have C1 := fun W => implEHash k ax ay fx fy u g d o W
  have C2 := fun W => specEHash k ax ay fx fy u g d o W
  cases ho : ownB k ax ay fx fy u g d o
  · rw [eh_no ho] at C1 C2
    replace C1 := Lib.hid C1
    replace C2 := Lib.hid C2
    clear ho
    have Sc0 := S.cell 0 _ rfl
    have Sc1 := S.cell 1 _ rfl
    have Sc2 := S.cell 2 _ rfl
    have Sc3 := S.cell 3 _ rfl
    have Sc4 := S.cell 4 _ rfl
    have Sc5 := S.cell 5 _ rfl
    have Sc6 := S.cell 6 _ rfl
    have Sc7 := S.cell 7 _ rfl
    have Sc8 := S.cell 8 _ rfl
    have Sl := S.lt
    go_wp2_with fail
    clear Sc0 Sc1 Sc2 Sc3 Sc4 Sc5 Sc6 Sc7 Sc8 Sl
    refine (C1.out _).mono ?_
    rintro e w2 ⟨rfl, B⟩
    replace S := S.step B
    replace H := Lib.hid (bl_trans H.out B)
    clear B
    have Sc0 := S.cell 0 _ rfl
    have Sc1 := S.cell 1 _ rfl
    have Sc2 := S.cell 2 _ rfl
    have Sc3 := S.cell 3 _ rfl
    have Sc4 := S.cell 4 _ rfl
    have Sc5 := S.cell 5 _ rfl
    have Sc6 := S.cell 6 _ rfl
    have Sc7 := S.cell 7 _ rfl
    have Sc8 := S.cell 8 _ rfl
    have Sl := S.lt
    go_wp2_with fail
    clear Sc0 Sc1 Sc2 Sc3 Sc4 Sc5 Sc6 Sc7 Sc8 Sl
    refine (C2.out _).mono ?_
    rintro e w3 ⟨rfl, B⟩
    replace S := S.step B
    replace H := Lib.hid (bl_trans H.out B)
    clear B
    have Sc0 := S.cell 0 _ rfl
    have Sc1 := S.cell 1 _ rfl
    have Sc2 := S.cell 2 _ rfl
    have Sc3 := S.cell 3 _ rfl
    have Sc4 := S.cell 4 _ rfl
    have Sc5 := S.cell 5 _ rfl
    have Sc6 := S.cell 6 _ rfl
    have Sc7 := S.cell 7 _ rfl
    have Sc8 := S.cell 8 _ rfl
    have Sl := S.lt
    go_wp2
    go_ret
    exact ⟨rfl, H.out⟩
  have hp := eh_pos ho
  have q1 := (own_iff ..).1 ho
  obtain ⟨⟨k1, k2⟩, _, _, _, ⟨u1, u2⟩, _⟩ := q1
  obtain ⟨tk, htk⟩ : ∃ tk, (k + 1 + (len2 : Int) % 60) % 61 = tk := ⟨_, rfl⟩
  obtain ⟨tu, htu⟩ : ∃ tu, (u + 1 + (len2 : Int) % 15) % 16 = tu := ⟨_, rfl⟩
  have n1 := eh_tick ho (k' := tk) (by omega) (by omega)
  have n2 := eh_turn ho (u' := tu) (by omega) (by omega)
  have C3 := fun W => implEHash tk ax ay fx fy u g d o W
  have C4 := fun W => implEHash k ax ay fx fy tu g d o W
  generalize ehI k ax ay fx fy u g d o = h0 at *
  generalize ehI tk ax ay fx fy u g d o = h3 at *
  generalize ehI k ax ay fx fy tu g d o = h4 at *
  have m1 : (h3 != h0) = true := bne_iff_ne.2 n1
  have m2 : (h4 != h0) = true := bne_iff_ne.2 n2
  have hp1 : decide (h0 < 0) = false := decide_eq_false (by omega)
  have C1 := Lib.hid C1
  have C2 := Lib.hid C2
  have C3 := Lib.hid C3
  have C4 := Lib.hid C4
  clear n1 n2 ho hp
  have Sc0 := S.cell 0 _ rfl
  have Sc1 := S.cell 1 _ rfl
  have Sc2 := S.cell 2 _ rfl
  have Sc3 := S.cell 3 _ rfl
  have Sc4 := S.cell 4 _ rfl
  have Sc5 := S.cell 5 _ rfl
  have Sc6 := S.cell 6 _ rfl
  have Sc7 := S.cell 7 _ rfl
  have Sc8 := S.cell 8 _ rfl
  have Sl := S.lt
  go_wp2_with fail
  clear Sc0 Sc1 Sc2 Sc3 Sc4 Sc5 Sc6 Sc7 Sc8 Sl
  refine (C1.out _).mono ?_
  rintro e w2 ⟨rfl, B⟩
  replace S := S.step B
  replace H := Lib.hid (bl_trans H.out B)
  clear B
  have Sc0 := S.cell 0 _ rfl
  have Sc1 := S.cell 1 _ rfl
  have Sc2 := S.cell 2 _ rfl
  have Sc3 := S.cell 3 _ rfl
  have Sc4 := S.cell 4 _ rfl
  have Sc5 := S.cell 5 _ rfl
  have Sc6 := S.cell 6 _ rfl
  have Sc7 := S.cell 7 _ rfl
  have Sc8 := S.cell 8 _ rfl
  have Sl := S.lt
  go_wp2_with fail
  clear Sc0 Sc1 Sc2 Sc3 Sc4 Sc5 Sc6 Sc7 Sc8 Sl
  refine (C2.out _).mono ?_
  rintro e w3 ⟨rfl, B⟩
  replace S := S.step B
  replace H := Lib.hid (bl_trans H.out B)
  clear B
  have Sc0 := S.cell 0 _ rfl
  have Sc1 := S.cell 1 _ rfl
  have Sc2 := S.cell 2 _ rfl
  have Sc3 := S.cell 3 _ rfl
  have Sc4 := S.cell 4 _ rfl
  have Sc5 := S.cell 5 _ rfl
  have Sc6 := S.cell 6 _ rfl
  have Sc7 := S.cell 7 _ rfl
  have Sc8 := S.cell 8 _ rfl
  have Sl := S.lt
  go_upto_region 12 with fail
  clear Sc0 Sc1 Sc2 Sc3 Sc4 Sc5 Sc6 Sc7 Sc8 Sl
  refine wp_let (fun W' => CellsAt W' w3.heap.size (stv tk ax ay fx fy u g d o) ∧ CellsAt W' (w3.heap.size + 1) (stv k ax ay fx fy tu g d o) ∧ Below w.heap.size w W') ⟨by subst htk; exact (CellsAt.new _ _ _ _ rfl).alloc _, by subst htu; exact CellsAt.new _ _ _ _ (by simp), bl_alloc (bl_alloc H.out _) _⟩ ?_
  clear S H
  rintro w4 ⟨S, T, H⟩
  replace H := Lib.hid H
  have Sc0 := S.cell 0 _ rfl
  have Sc1 := S.cell 1 _ rfl
  have Sc2 := S.cell 2 _ rfl
  have Sc3 := S.cell 3 _ rfl
  have Sc4 := S.cell 4 _ rfl
  have Sc5 := S.cell 5 _ rfl
  have Sc6 := S.cell 6 _ rfl
  have Sc7 := S.cell 7 _ rfl
  have Sc8 := S.cell 8 _ rfl
  have Sl := S.lt
  have Tc0 := T.cell 0 _ rfl
  have Tc1 := T.cell 1 _ rfl
  have Tc2 := T.cell 2 _ rfl
  have Tc3 := T.cell 3 _ rfl
  have Tc4 := T.cell 4 _ rfl
  have Tc5 := T.cell 5 _ rfl
  have Tc6 := T.cell 6 _ rfl
  have Tc7 := T.cell 7 _ rfl
  have Tc8 := T.cell 8 _ rfl
  have Tl := T.lt
  go_wp2_with fail
  clear Sc0 Sc1 Sc2 Sc3 Sc4 Sc5 Sc6 Sc7 Sc8 Sl Tc0 Tc1 Tc2 Tc3 Tc4 Tc5 Tc6 Tc7 Tc8 Tl
  refine (C3.out _).mono ?_
  rintro e w5 ⟨rfl, B⟩
  replace S := S.step B
  replace T := T.step B
  replace H := Lib.hid (bl_trans H.out B)
  clear B
  have Sc0 := S.cell 0 _ rfl
  have Sc1 := S.cell 1 _ rfl
  have Sc2 := S.cell 2 _ rfl
  have Sc3 := S.cell 3 _ rfl
  have Sc4 := S.cell 4 _ rfl
  have Sc5 := S.cell 5 _ rfl
  have Sc6 := S.cell 6 _ rfl
  have Sc7 := S.cell 7 _ rfl
  have Sc8 := S.cell 8 _ rfl
  have Sl := S.lt
  have Tc0 := T.cell 0 _ rfl
  have Tc1 := T.cell 1 _ rfl
  have Tc2 := T.cell 2 _ rfl
  have Tc3 := T.cell 3 _ rfl
  have Tc4 := T.cell 4 _ rfl
  have Tc5 := T.cell 5 _ rfl
  have Tc6 := T.cell 6 _ rfl
  have Tc7 := T.cell 7 _ rfl
  have Tc8 := T.cell 8 _ rfl
  have Tl := T.lt
  go_wp2_with fail
  clear Sc0 Sc1 Sc2 Sc3 Sc4 Sc5 Sc6 Sc7 Sc8 Sl Tc0 Tc1 Tc2 Tc3 Tc4 Tc5 Tc6 Tc7 Tc8 Tl
  refine (C4.out _).mono ?_
  rintro e w6 ⟨rfl, B⟩
  replace S := S.step B
  replace T := T.step B
  replace H := Lib.hid (bl_trans H.out B)
  clear B
  have Sc0 := S.cell 0 _ rfl
  have Sc1 := S.cell 1 _ rfl
  have Sc2 := S.cell 2 _ rfl
  have Sc3 := S.cell 3 _ rfl
  have Sc4 := S.cell 4 _ rfl
  have Sc5 := S.cell 5 _ rfl
  have Sc6 := S.cell 6 _ rfl
  have Sc7 := S.cell 7 _ rfl
  have Sc8 := S.cell 8 _ rfl
  have Sl := S.lt
  have Tc0 := T.cell 0 _ rfl
  have Tc1 := T.cell 1 _ rfl
  have Tc2 := T.cell 2 _ rfl
  have Tc3 := T.cell 3 _ rfl
  have Tc4 := T.cell 4 _ rfl
  have Tc5 := T.cell 5 _ rfl
  have Tc6 := T.cell 6 _ rfl
  have Tc7 := T.cell 7 _ rfl
  have Tc8 := T.cell 8 _ rfl
  have Tl := T.lt
  go_wp2
  go_ret
  exact ⟨rfl, H.out⟩

set_option maxRecDepth 100000 in
set_option maxHeartbeats 4000000 in
theorem walk_FnEngineHashAt (a : Option Addr) (len cap : Nat) (zs : List Int) (a2 : Option Addr) (len2 cap2 : Nat) (zs2 : List Int) (w : World) (h : IsRow .u8 w a len cap zs) (h2 : IsRow .u8 w a2 len2 cap2 zs2) :
    Calls Try.prog 5 #[.slice a len cap, .slice a2 len2 cap2] w fun e w' => e = .returned (.bool true) ∧ Below w.heap.size w w' := by
  have hm := h.bytes.1
  have hm2 := h.bytes.2.1
  unfold maxLen at hm2
  have hq := h2.bytes.1
  have hq2 := h2.bytes.2.1
  unfold maxLen at hq2
  clear h2
  by_cases g9 : 1048576 < len
  · have g1 : (1048576 : Int) < (len : Int) := by omega
    go_enter Try.func5, Try.ntmps5
    go_wp2
    go_ret
    exact ⟨rfl, Below.refl _ _⟩
  have g1d : decide ((1048576 : Int) < (len : Int)) = false := decide_eq_false (by omega)
  have g2d : decide (1048576 < len) = false := decide_eq_false (by omega)
  clear g9
  by_cases g8 : 1048576 < len2
  · have g1 : (1048576 : Int) < (len2 : Int) := by omega
    go_enter Try.func5, Try.ntmps5
    go_wp2
    go_ret
    exact ⟨rfl, Below.refl _ _⟩
  have g3d : decide ((1048576 : Int) < (len2 : Int)) = false := decide_eq_false (by omega)
  have g4d : decide (1048576 < len2) = false := decide_eq_false (by omega)
  have g8' : len2 ≤ 1048576 := by omega
  clear g8
  go_enter Try.func5, Try.ntmps5
  go_wp2_with fail
  refine (draw_ehash a len cap zs w h).mono ?_
  rintro e w1 ⟨k, ax, ay, fx, fy, u, g, d, o, rfl, B⟩
  have S : CellsAt (w1.alloc (.cells #[.int .i64 k, .int .i64 ax, .int .i64 ay, .int .i64 fx, .int .i64 fy, .int .i64 u, .int .i64 g, .bool d, .bool o] 32)) w1.heap.size (stv k ax ay fx fy u g d o) := CellsAt.new _ _ _ _ rfl
  have H := Lib.hid (bl_alloc B (.cells #[.int .i64 k, .int .i64 ax, .int .i64 ay, .int .i64 fx, .int .i64 fy, .int .i64 u, .int .i64 g, .bool d, .bool o] 32))
  clear B h
  have C1 := fun W => implEHash k ax ay fx fy u g d o W
  have C2 := fun W => specEHash k ax ay fx fy u g d o W
  cases ho : ownB k ax ay fx fy u g d o
  · rw [eh_no ho] at C1 C2
    replace C1 := Lib.hid C1
    replace C2 := Lib.hid C2
    clear ho
    have Sc0 := S.cell 0 _ rfl
    have Sc1 := S.cell 1 _ rfl
    have Sc2 := S.cell 2 _ rfl
    have Sc3 := S.cell 3 _ rfl
    have Sc4 := S.cell 4 _ rfl
    have Sc5 := S.cell 5 _ rfl
    have Sc6 := S.cell 6 _ rfl
    have Sc7 := S.cell 7 _ rfl
    have Sc8 := S.cell 8 _ rfl
    have Sl := S.lt
    go_wp2_with fail
    clear Sc0 Sc1 Sc2 Sc3 Sc4 Sc5 Sc6 Sc7 Sc8 Sl
    refine (C1.out _).mono ?_
    rintro e w2 ⟨rfl, B⟩
    replace S := S.step B
    replace H := Lib.hid (bl_trans H.out B)
    clear B
    have Sc0 := S.cell 0 _ rfl
    have Sc1 := S.cell 1 _ rfl
    have Sc2 := S.cell 2 _ rfl
    have Sc3 := S.cell 3 _ rfl
    have Sc4 := S.cell 4 _ rfl
    have Sc5 := S.cell 5 _ rfl
    have Sc6 := S.cell 6 _ rfl
    have Sc7 := S.cell 7 _ rfl
    have Sc8 := S.cell 8 _ rfl
    have Sl := S.lt
    go_wp2_with fail
    clear Sc0 Sc1 Sc2 Sc3 Sc4 Sc5 Sc6 Sc7 Sc8 Sl
    refine (C2.out _).mono ?_
    rintro e w3 ⟨rfl, B⟩
    replace S := S.step B
    replace H := Lib.hid (bl_trans H.out B)
    clear B
    have Sc0 := S.cell 0 _ rfl
    have Sc1 := S.cell 1 _ rfl
    have Sc2 := S.cell 2 _ rfl
    have Sc3 := S.cell 3 _ rfl
    have Sc4 := S.cell 4 _ rfl
    have Sc5 := S.cell 5 _ rfl
    have Sc6 := S.cell 6 _ rfl
    have Sc7 := S.cell 7 _ rfl
    have Sc8 := S.cell 8 _ rfl
    have Sl := S.lt
    go_wp2
    go_ret
    exact ⟨rfl, H.out⟩
  have hp := eh_pos ho
  have q1 := (own_iff ..).1 ho
  obtain ⟨_, hat, _⟩ := q1
  obtain ⟨⟨x1, x2⟩, _⟩ := (vok_iff ax ay).1 hat
  obtain ⟨tx, htx⟩ : ∃ tx, ax + 1 + (len2 : Int) % 500 = tx := ⟨_, rfl⟩
  have hp1 : decide (ehI k ax ay fx fy u g d o < 0) = false := decide_eq_false (by omega)
  by_cases hb : 1000000 < tx
  · generalize ehI k ax ay fx fy u g d o = h0 at *
    have C1 := Lib.hid C1
    have C2 := Lib.hid C2
    clear ho hp hat
    have Sc0 := S.cell 0 _ rfl
    have Sc1 := S.cell 1 _ rfl
    have Sc2 := S.cell 2 _ rfl
    have Sc3 := S.cell 3 _ rfl
    have Sc4 := S.cell 4 _ rfl
    have Sc5 := S.cell 5 _ rfl
    have Sc6 := S.cell 6 _ rfl
    have Sc7 := S.cell 7 _ rfl
    have Sc8 := S.cell 8 _ rfl
    have Sl := S.lt
    go_wp2_with fail
    clear Sc0 Sc1 Sc2 Sc3 Sc4 Sc5 Sc6 Sc7 Sc8 Sl
    refine (C1.out _).mono ?_
    rintro e w2 ⟨rfl, B⟩
    replace S := S.step B
    replace H := Lib.hid (bl_trans H.out B)
    clear B
    have Sc0 := S.cell 0 _ rfl
    have Sc1 := S.cell 1 _ rfl
    have Sc2 := S.cell 2 _ rfl
    have Sc3 := S.cell 3 _ rfl
    have Sc4 := S.cell 4 _ rfl
    have Sc5 := S.cell 5 _ rfl
    have Sc6 := S.cell 6 _ rfl
    have Sc7 := S.cell 7 _ rfl
    have Sc8 := S.cell 8 _ rfl
    have Sl := S.lt
    go_wp2_with fail
    clear Sc0 Sc1 Sc2 Sc3 Sc4 Sc5 Sc6 Sc7 Sc8 Sl
    refine (C2.out _).mono ?_
    rintro e w3 ⟨rfl, B⟩
    replace S := S.step B
    replace H := Lib.hid (bl_trans H.out B)
    clear B
    have Sc0 := S.cell 0 _ rfl
    have Sc1 := S.cell 1 _ rfl
    have Sc2 := S.cell 2 _ rfl
    have Sc3 := S.cell 3 _ rfl
    have Sc4 := S.cell 4 _ rfl
    have Sc5 := S.cell 5 _ rfl
    have Sc6 := S.cell 6 _ rfl
    have Sc7 := S.cell 7 _ rfl
    have Sc8 := S.cell 8 _ rfl
    have Sl := S.lt
    go_upto_region 10 with fail
    clear Sc0 Sc1 Sc2 Sc3 Sc4 Sc5 Sc6 Sc7 Sc8 Sl
    refine wp_let (fun W' => CellsAt W' w3.heap.size (stv k tx ay fx fy u g d o) ∧ Below w.heap.size w W') ⟨by subst htx; exact CellsAt.new _ _ _ _ rfl, bl_alloc H.out _⟩ ?_
    clear S H
    rintro w4 ⟨S, H⟩
    replace H := Lib.hid H
    have Sc0 := S.cell 0 _ rfl
    have Sc1 := S.cell 1 _ rfl
    have Sc2 := S.cell 2 _ rfl
    have Sc3 := S.cell 3 _ rfl
    have Sc4 := S.cell 4 _ rfl
    have Sc5 := S.cell 5 _ rfl
    have Sc6 := S.cell 6 _ rfl
    have Sc7 := S.cell 7 _ rfl
    have Sc8 := S.cell 8 _ rfl
    have Sl := S.lt
    go_wp2
    go_ret
    exact ⟨rfl, H.out⟩
  have n1 := eh_at ho (a' := tx) (by omega) (by omega)
  have C3 := fun W => implEHash k tx ay fx fy u g d o W
  generalize ehI k ax ay fx fy u g d o = h0 at *
  generalize ehI k tx ay fx fy u g d o = h3 at *
  have m1 : (h3 != h0) = true := bne_iff_ne.2 n1
  have hbd : decide (1000000 < tx) = false := decide_eq_false hb
  have C3 := Lib.hid C3
  clear n1 hb
  have C1 := Lib.hid C1
  have C2 := Lib.hid C2
  clear ho hp hat
  have Sc0 := S.cell 0 _ rfl
  have Sc1 := S.cell 1 _ rfl
  have Sc2 := S.cell 2 _ rfl
  have Sc3 := S.cell 3 _ rfl
  have Sc4 := S.cell 4 _ rfl
  have Sc5 := S.cell 5 _ rfl
  have Sc6 := S.cell 6 _ rfl
  have Sc7 := S.cell 7 _ rfl
  have Sc8 := S.cell 8 _ rfl
  have Sl := S.lt
  go_wp2_with fail
  clear Sc0 Sc1 Sc2 Sc3 Sc4 Sc5 Sc6 Sc7 Sc8 Sl
  refine (C1.out _).mono ?_
  rintro e w2 ⟨rfl, B⟩
  replace S := S.step B
  replace H := Lib.hid (bl_trans H.out B)
  clear B
  have Sc0 := S.cell 0 _ rfl
  have Sc1 := S.cell 1 _ rfl
  have Sc2 := S.cell 2 _ rfl
  have Sc3 := S.cell 3 _ rfl
  have Sc4 := S.cell 4 _ rfl
  have Sc5 := S.cell 5 _ rfl
  have Sc6 := S.cell 6 _ rfl
  have Sc7 := S.cell 7 _ rfl
  have Sc8 := S.cell 8 _ rfl
  have Sl := S.lt
  go_wp2_with fail
  clear Sc0 Sc1 Sc2 Sc3 Sc4 Sc5 Sc6 Sc7 Sc8 Sl
  refine (C2.out _).mono ?_
  rintro e w3 ⟨rfl, B⟩
  replace S := S.step B
  replace H := Lib.hid (bl_trans H.out B)
  clear B
  have Sc0 := S.cell 0 _ rfl
  have Sc1 := S.cell 1 _ rfl
  have Sc2 := S.cell 2 _ rfl
  have Sc3 := S.cell 3 _ rfl
  have Sc4 := S.cell 4 _ rfl
  have Sc5 := S.cell 5 _ rfl
  have Sc6 := S.cell 6 _ rfl
  have Sc7 := S.cell 7 _ rfl
  have Sc8 := S.cell 8 _ rfl
  have Sl := S.lt
  go_upto_region 10 with fail
  clear Sc0 Sc1 Sc2 Sc3 Sc4 Sc5 Sc6 Sc7 Sc8 Sl
  refine wp_let (fun W' => CellsAt W' w3.heap.size (stv k tx ay fx fy u g d o) ∧ Below w.heap.size w W') ⟨by subst htx; exact CellsAt.new _ _ _ _ rfl, bl_alloc H.out _⟩ ?_
  clear S H
  rintro w4 ⟨S, H⟩
  replace H := Lib.hid H
  have Sc0 := S.cell 0 _ rfl
  have Sc1 := S.cell 1 _ rfl
  have Sc2 := S.cell 2 _ rfl
  have Sc3 := S.cell 3 _ rfl
  have Sc4 := S.cell 4 _ rfl
  have Sc5 := S.cell 5 _ rfl
  have Sc6 := S.cell 6 _ rfl
  have Sc7 := S.cell 7 _ rfl
  have Sc8 := S.cell 8 _ rfl
  have Sl := S.lt
  go_wp2_with fail
  clear Sc0 Sc1 Sc2 Sc3 Sc4 Sc5 Sc6 Sc7 Sc8 Sl
  refine (C3.out _).mono ?_
  rintro e w5 ⟨rfl, B⟩
  replace S := S.step B
  replace H := Lib.hid (bl_trans H.out B)
  clear B
  have Sc0 := S.cell 0 _ rfl
  have Sc1 := S.cell 1 _ rfl
  have Sc2 := S.cell 2 _ rfl
  have Sc3 := S.cell 3 _ rfl
  have Sc4 := S.cell 4 _ rfl
  have Sc5 := S.cell 5 _ rfl
  have Sc6 := S.cell 6 _ rfl
  have Sc7 := S.cell 7 _ rfl
  have Sc8 := S.cell 8 _ rfl
  have Sl := S.lt
  go_wp2
  go_ret
  exact ⟨rfl, H.out⟩

end Go.Proofs.Ytnoenjociioffab
