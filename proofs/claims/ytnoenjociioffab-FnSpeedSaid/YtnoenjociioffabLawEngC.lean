/-
  The walk of FnSpeed.
-/
import Derived.Test.YtnoenjociioffabEngH
import Derived.Test.YtnoenjociioffabEngS
import Derived.Test.YtnoenjociioffabDrawEng
import Derived.Test.YtnoenjociioffabEngOwn
import Derived.Deep.Cut
namespace Go.Proofs.Ytnoenjociioffab
open Go.RowKit
open M

theorem draw_espeed (a : Option Addr) (len cap : Nat) (zs : List Int) (w : World) (h : IsRow .u8 w a len cap zs) : Calls Try.prog 18 #[.slice a len cap] w (DrawnS w) := by
  have D0 : CellsAt (w.alloc (.cells #[.int .i64 0, .int .i64 0, .int .i64 0, .int .i64 0, .int .i64 0, .int .i64 0, .int .i64 0, .bool false, .bool false] 32)) w.heap.size (stv 0 0 0 0 0 0 0 false false) := CellsAt.new w _ _ _ rfl
  have H := Lib.hid (bl_alloc (bl_refl w) (.cells #[.int .i64 0, .int .i64 0, .int .i64 0, .int .i64 0, .int .i64 0, .int .i64 0, .int .i64 0, .bool false, .bool false] 32))
  go_enter Try.func18, Try.ntmps18
  go_wp2_with fail
  refine (draw_ehash a len cap zs _ (h.below (bl_alloc (bl_refl w) _))).mono ?_
  rintro e w1 ⟨k, ax, ay, fx, fy, u, g, d, o, rfl, B⟩
  replace D0 := D0.step B
  replace H := Lib.hid (bl_trans H.out B)
  clear B
  go_wp2_with (refine store_new rfl 32 (.tmp 2) (.tmp 4) rfl w.heap.size rfl (stv k ax ay fx fy u g d o) rfl _ D0 (by simp) state_size rfl ?_)
  intro w2 K N
  go_wp2
  exact bodyPost_ret (v := sta k ax ay fx fy u g d o) (res_cells rfl w.heap.size rfl (stv k ax ay fx fy u g d o) N Try.underlying32 rfl state_size) rfl ⟨k, ax, ay, fx, fy, u, g, d, o, rfl, kp_below H.out K (by omega)⟩

set_option maxRecDepth 100000 in
set_option maxHeartbeats 4000000 in
theorem walk_FnSpeed (a : Option Addr) (len cap : Nat) (zs : List Int) (w : World) (h : IsRow .u8 w a len cap zs) :
    Calls Try.prog 6 #[.slice a len cap] w fun e w' => e = .returned (.bool true) ∧ Below w.heap.size w w' := by
  have hm := h.bytes.1
  have hm2 := h.bytes.2.1
  unfold maxLen at hm2
  by_cases g9 : 1048576 < len
  · have g1 : (1048576 : Int) < (len : Int) := by omega
    go_enter Try.func6, Try.ntmps6
    go_wp2
    go_ret
    exact ⟨rfl, Below.refl _ _⟩
  have g1d : decide ((1048576 : Int) < (len : Int)) = false := decide_eq_false (by omega)
  have g2d : decide (1048576 < len) = false := decide_eq_false (by omega)
  clear g9
  go_enter Try.func6, Try.ntmps6
  go_wp2_with fail
  refine (draw_espeed a len cap zs w h).mono ?_
  rintro e w1 ⟨k, ax, ay, fx, fy, u, g, d, o, rfl, B⟩
  have S : CellsAt (w1.alloc (.cells #[.int .i64 k, .int .i64 ax, .int .i64 ay, .int .i64 fx, .int .i64 fy, .int .i64 u, .int .i64 g, .bool d, .bool o] 32)) w1.heap.size (stv k ax ay fx fy u g d o) := CellsAt.new _ _ _ _ rfl
  have H := Lib.hid (bl_alloc B (.cells #[.int .i64 k, .int .i64 ax, .int .i64 ay, .int .i64 fx, .int .i64 fy, .int .i64 u, .int .i64 g, .bool d, .bool o] 32))
  clear B h
  have C1 := fun W => implESpeed k ax ay fx fy u g d o W
  have C2 := fun W => specESpeed k ax ay fx fy u g d o W
  cases ho : ownB k ax ay fx fy u g d o
  · rw [ho, if_neg (by simp)] at C1 C2
    replace C1 := Lib.hid C1
    replace C2 := Lib.hid C2
    clear ho
    have Sc0 := S.cell 0 _ rfl
    have Sc1 := S.cell 1 _ rfl
    have Sc2 := S.cell 2 _ rfl
    have Sc3 := S.cell 3 _ rfl
    have Sc4 := S.cell 4 _ rfl
    have Sc5 := S.cell 5 _ rfl
    have Sc6 := S.cell 6 _ rfl
    have Sc7 := S.cell 7 _ rfl
    have Sc8 := S.cell 8 _ rfl
    have Sl := S.lt
    go_wp2_with fail
    clear Sc0 Sc1 Sc2 Sc3 Sc4 Sc5 Sc6 Sc7 Sc8 Sl
    refine (C1.out _).mono ?_
    rintro e w2 ⟨rfl, B⟩
    replace S := S.step B
    replace H := Lib.hid (bl_trans H.out B)
    clear B
    have Sc0 := S.cell 0 _ rfl
    have Sc1 := S.cell 1 _ rfl
    have Sc2 := S.cell 2 _ rfl
    have Sc3 := S.cell 3 _ rfl
    have Sc4 := S.cell 4 _ rfl
    have Sc5 := S.cell 5 _ rfl
    have Sc6 := S.cell 6 _ rfl
    have Sc7 := S.cell 7 _ rfl
    have Sc8 := S.cell 8 _ rfl
    have Sl := S.lt
    go_wp2_with fail
    clear Sc0 Sc1 Sc2 Sc3 Sc4 Sc5 Sc6 Sc7 Sc8 Sl
    refine (C2.out _).mono ?_
    rintro e w3 ⟨rfl, B⟩
    replace S := S.step B
    replace H := Lib.hid (bl_trans H.out B)
    clear B
    have Sc0 := S.cell 0 _ rfl
    have Sc1 := S.cell 1 _ rfl
    have Sc2 := S.cell 2 _ rfl
    have Sc3 := S.cell 3 _ rfl
    have Sc4 := S.cell 4 _ rfl
    have Sc5 := S.cell 5 _ rfl
    have Sc6 := S.cell 6 _ rfl
    have Sc7 := S.cell 7 _ rfl
    have Sc8 := S.cell 8 _ rfl
    have Sl := S.lt
    go_wp2
    go_ret
    exact ⟨rfl, H.out⟩
  have C3 := fun W => implVLen fx fy W
  rw [vl_yes (own_v ho), own_v ho] at C3
  rw [ho, if_pos rfl] at C1 C2
  generalize vl fx fy = ll at *
  replace C1 := Lib.hid C1
  replace C2 := Lib.hid C2
  replace C3 := Lib.hid C3
  clear ho
  have Sc0 := S.cell 0 _ rfl
  have Sc1 := S.cell 1 _ rfl
  have Sc2 := S.cell 2 _ rfl
  have Sc3 := S.cell 3 _ rfl
  have Sc4 := S.cell 4 _ rfl
  have Sc5 := S.cell 5 _ rfl
  have Sc6 := S.cell 6 _ rfl
  have Sc7 := S.cell 7 _ rfl
  have Sc8 := S.cell 8 _ rfl
  have Sl := S.lt
  go_wp2_with fail
  clear Sc0 Sc1 Sc2 Sc3 Sc4 Sc5 Sc6 Sc7 Sc8 Sl
  refine (C1.out _).mono ?_
  rintro e w2 ⟨rfl, B⟩
  replace S := S.step B
  replace H := Lib.hid (bl_trans H.out B)
  clear B
  have Sc0 := S.cell 0 _ rfl
  have Sc1 := S.cell 1 _ rfl
  have Sc2 := S.cell 2 _ rfl
  have Sc3 := S.cell 3 _ rfl
  have Sc4 := S.cell 4 _ rfl
  have Sc5 := S.cell 5 _ rfl
  have Sc6 := S.cell 6 _ rfl
  have Sc7 := S.cell 7 _ rfl
  have Sc8 := S.cell 8 _ rfl
  have Sl := S.lt
  go_wp2_with fail
  clear Sc0 Sc1 Sc2 Sc3 Sc4 Sc5 Sc6 Sc7 Sc8 Sl
  refine (C2.out _).mono ?_
  rintro e w3 ⟨rfl, B⟩
  replace S := S.step B
  replace H := Lib.hid (bl_trans H.out B)
  clear B
  have Sc0 := S.cell 0 _ rfl
  have Sc1 := S.cell 1 _ rfl
  have Sc2 := S.cell 2 _ rfl
  have Sc3 := S.cell 3 _ rfl
  have Sc4 := S.cell 4 _ rfl
  have Sc5 := S.cell 5 _ rfl
  have Sc6 := S.cell 6 _ rfl
  have Sc7 := S.cell 7 _ rfl
  have Sc8 := S.cell 8 _ rfl
  have Sl := S.lt
  go_wp2_with fail
  clear Sc0 Sc1 Sc2 Sc3 Sc4 Sc5 Sc6 Sc7 Sc8 Sl
  refine (C3.out _).mono ?_
  rintro e w4 ⟨rfl, B⟩
  replace S := S.step B
  replace H := Lib.hid (bl_trans H.out B)
  clear B
  have Sc0 := S.cell 0 _ rfl
  have Sc1 := S.cell 1 _ rfl
  have Sc2 := S.cell 2 _ rfl
  have Sc3 := S.cell 3 _ rfl
  have Sc4 := S.cell 4 _ rfl
  have Sc5 := S.cell 5 _ rfl
  have Sc6 := S.cell 6 _ rfl
  have Sc7 := S.cell 7 _ rfl
  have Sc8 := S.cell 8 _ rfl
  have Sl := S.lt
  go_wp2
  go_ret
  exact ⟨rfl, H.out⟩

end Go.Proofs.Ytnoenjociioffab
