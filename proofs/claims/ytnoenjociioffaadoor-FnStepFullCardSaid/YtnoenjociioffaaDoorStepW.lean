/-
  What the program's own EngineSpeed returns; '==' on states.
-/
/-
  The two EngineSteps by their result.
-/
import Derived.Test.YtnoenjociioffaaDoorEngP
import Derived.Test.YtnoenjociioffaaDoorEngLaws
import Derived.Laws.StructEq
import Derived.Test.YtnoenjociioffaaDoorEngG
import Derived.Test.YtnoenjociioffaaDoorDrawEng
namespace Go.Proofs.YtnoenjociioffaaDoor
open Go.RowKit
open M

theorem own_v {k ax ay fx fy u g : Int} {d o : Bool} (h : ownB k ax ay fx fy u g d o = true) : vokB fx fy = true := ((own_iff ..).1 h).2.2.1

set_option maxRecDepth 100000 in
theorem implESpeed (k ax ay fx fy u g : Int) (d o : Bool) (w : World) : Calls Tryd.prog 24 #[sta k ax ay fx fy u g d o] w fun e w' => e = .returned (.tuple #[.int .i64 (if ownB k ax ay fx fy u g d o then vl fx fy else 0), .bool (ownB k ax ay fx fy u g d o)]) ∧ Below w.heap.size w w' := by
  have V := fun W => implPoss k ax ay fx fy u g d o W
  cases hv : ownB k ax ay fx fy u g d o
  · rw [hv] at V
    have V := Lib.hid V
    clear hv
    go_enter Tryd.func24, Tryd.ntmps24
    go_wp2_with fail
    refine (V.out _).mono ?_
    rintro e w1 ⟨rfl, B⟩
    have H := Lib.hid (bl_trans (bl_alloc (bl_refl w) _) B)
    clear B
    go_wp2
    exact bodyPost_ret (v := .tuple #[.int .i64 0, .bool false]) (by simp [results, Tryd.results24, go_sem]) rfl ⟨rfl, H.out⟩
  · have C := fun W => implVLen fx fy W
    rw [vl_yes (own_v hv), own_v hv] at C
    rw [hv] at V
    have V := Lib.hid V
    have C := Lib.hid C
    clear hv
    go_enter Tryd.func24, Tryd.ntmps24
    go_wp2_with fail
    refine (V.out _).mono ?_
    rintro e w1 ⟨rfl, B⟩
    have P : CellsAt w1 w.heap.size (stv k ax ay fx fy u g d o) := (CellsAt.new w _ _ _ rfl).step B
    have H := Lib.hid (bl_trans (bl_alloc (bl_refl w) _) B)
    clear B
    have Pc0 := P.cell 0 _ rfl
    have Pc1 := P.cell 1 _ rfl
    have Pc2 := P.cell 2 _ rfl
    have Pc3 := P.cell 3 _ rfl
    have Pc4 := P.cell 4 _ rfl
    have Pc5 := P.cell 5 _ rfl
    have Pc6 := P.cell 6 _ rfl
    have Pc7 := P.cell 7 _ rfl
    have Pc8 := P.cell 8 _ rfl
    have Pl := P.lt
    go_wp2_with fail
    refine (C.out _).mono ?_
    rintro e w2 ⟨rfl, B⟩
    replace H := Lib.hid (bl_trans H.out B)
    clear B Pc0 Pc1 Pc2 Pc3 Pc4 Pc5 Pc6 Pc7 Pc8 Pl P
    go_wp2
    exact bodyPost_ret (v := .tuple #[.int .i64 (vl fx fy), .bool true]) (by simp [results, Tryd.results24, go_sem]) rfl ⟨rfl, H.out⟩

theorem equal_vecs (x y : Int) (w : World) : (Op.equalIn 9999 24 (.agg #[.int .i64 x, .int .i64 y]) (.agg #[.int .i64 x, .int .i64 y])).run Tryd.prog w = .ok true w := by
  have u3 := Tryd.underlying3
  have a3 := Tryd.isAgg3
  have z3 := Tryd.sizeOf3
  have hS : Tryd.prog.underlying 24 = some (.struct (Tryd.prog.fieldsOf 24)) := by kernel_rfl
  have hp : Tryd.prog.stoodInHeld 24 = false := by kernel_rfl
  rw [show (9999 : Nat) = 9998 + 1 from rfl, run_equalIn_agg w 9998 24 _ _ hS hp]
  clear hS
  simp only [Program.fieldsOf, Tryd.underlying24]
  go_simp
set_option maxRecDepth 100000 in
set_option maxHeartbeats 1000000 in
theorem equal_state (k ax ay fx fy u g : Int) (d o : Bool) (w : World) : (Op.equalIn 10000 31 (sta k ax ay fx fy u g d o) (sta k ax ay fx fy u g d o)).run Tryd.prog w = .ok true w := by
  have u3 := Tryd.underlying3
  have a3 := Tryd.isAgg3
  have z3 := Tryd.sizeOf3
  have u4 := Tryd.underlying4
  have a4 := Tryd.isAgg4
  have z4 := Tryd.sizeOf4
  have a5 := Tryd.isAgg24
  have z5 := Tryd.sizeOf24
  have V1 := equal_vecs ax ay w
  have V2 := equal_vecs fx fy w
  have hS : Tryd.prog.underlying 31 = some (.struct (Tryd.prog.fieldsOf 31)) := by kernel_rfl
  have hp : Tryd.prog.stoodInHeld 31 = false := by kernel_rfl
  rw [show (10000 : Nat) = 9999 + 1 from rfl, run_equalIn_agg w 9999 31 _ _ hS hp]
  clear hS
  simp only [Program.fieldsOf, Tryd.underlying31]
  go_simp
theorem eq_state (k ax ay fx fy u g : Int) (d o : Bool) (w : World) : (binOp .eql 31 (sta k ax ay fx fy u g d o) (sta k ax ay fx fy u g d o)).run Tryd.prog w = .ok (.bool true) w := by
  rw [run_eql_struct, equal_state]
  rfl
theorem neq_state (k ax ay fx fy u g : Int) (d o : Bool) (w : World) : (binOp .neq 31 (sta k ax ay fx fy u g d o) (sta k ax ay fx fy u g d o)).run Tryd.prog w = .ok (.bool false) w := by
  rw [run_neq_struct, equal_state]
  rfl
theorem state_guard : Tryd.prog.eqGuardType Tryd.prog.depth 31 = false := by kernel_rfl

end Go.Proofs.YtnoenjociioffaaDoor
namespace Go.Proofs.YtnoenjociioffaaDoor
open Go.RowKit
open M

theorem implEStepE (i t x y : Int) (A : Option Addr) (n c : Nat) (G : Option Addr) (m kk : Nat) (fp fq fs fz b : Int) (ws gs : List Bx) (k ax ay fx fy u g : Int) (d o : Bool) (s p : Int) (z : Bool) {K' X' Y' P' Q' U' V' : Int} {D' O' : Bool} {r : Bool} (hE : esS i t x y ws gs fp fq fs fz b k ax ay fx fy u g d o s p z = ⟨K', X', Y', P', Q', U', V', D', O'⟩) (hr : eoB i t x y ws gs fp fq fs fz b k ax ay fx fy u g d o s p z = r) (hn : n ≤ 281474976710656) (hm : m ≤ 281474976710656) (w : World) (I : Boxes w A n ws) (J : Boxes w G m gs) (R : Quarter w) :
    Calls Tryd.prog 20 #[lev i t x y A n c G m kk fp fq fs fz b, sta k ax ay fx fy u g d o, inp s p z] w fun e w' => e = .returned (.tuple #[sta K' X' Y' P' Q' U' V' D' O', .bool r]) ∧ Below w.heap.size w w' := by
  refine (implEStep i t x y A n c G m kk fp fq fs fz b ws gs k ax ay fx fy u g d o s p z w I J hn hm R).mono ?_
  rintro e w' ⟨⟨_, _, _, _, _, _, _, _, _, e1, rfl⟩, B⟩
  rw [hE] at e1
  injection e1 with a1 a2 a3 a4 a5 a6 a7 a8 a9
  subst a1 a2 a3 a4 a5 a6 a7 a8 a9 hr
  exact ⟨rfl, B⟩
theorem specEStepE (i t x y : Int) (A : Option Addr) (n c : Nat) (G : Option Addr) (m kk : Nat) (fp fq fs fz b : Int) (ws gs : List Bx) (k ax ay fx fy u g : Int) (d o : Bool) (s p : Int) (z : Bool) {K' X' Y' P' Q' U' V' : Int} {D' O' : Bool} {r : Bool} (hE : esS i t x y ws gs fp fq fs fz b k ax ay fx fy u g d o s p z = ⟨K', X', Y', P', Q', U', V', D', O'⟩) (hr : eoB i t x y ws gs fp fq fs fz b k ax ay fx fy u g d o s p z = r) (hn : n ≤ 281474976710656) (hm : m ≤ 281474976710656) (w : World) (I : Boxes w A n ws) (J : Boxes w G m gs) :
    Calls Tryd.prog 21 #[lev i t x y A n c G m kk fp fq fs fz b, sta k ax ay fx fy u g d o, inp s p z] w fun e w' => e = .returned (.tuple #[sta K' X' Y' P' Q' U' V' D' O', .bool r]) ∧ Below w.heap.size w w' := by
  refine (specEStep i t x y A n c G m kk fp fq fs fz b ws gs k ax ay fx fy u g d o s p z w I J hn hm).mono ?_
  rintro e w' ⟨⟨_, _, _, _, _, _, _, _, _, e1, rfl⟩, B⟩
  rw [hE] at e1
  injection e1 with a1 a2 a3 a4 a5 a6 a7 a8 a9
  subst a1 a2 a3 a4 a5 a6 a7 a8 a9 hr
  exact ⟨rfl, B⟩

end Go.Proofs.YtnoenjociioffaaDoor
