/-
  What the model's EngineHash returns, at every argument.
-/
import Derived.Test.YtnoenjociioffabEngOwn
namespace Go.Proofs.Ytnoenjociioffab
open Go.RowKit
open M

def M.flg (d o : Bool) : Int := if d then (if o then 3 else 1) else if o then 2 else 0
/-- What is hashed of a state. -/
def M.stL (k ax ay fx fy u g : Int) (d o : Bool) : List Int := [k, ax, ay, fx, fy, u, g, flg d o]
def M.ehI (k ax ay fx fy u g : Int) (d o : Bool) : Int := if ownB k ax ay fx fy u g d o then hsh 17 (stL k ax ay fx fy u g d o) else -1
theorem Ints.eight (w : World) (B : Nat) (a b c d e f g h : Int) (t : TypeId) (hB : B = w.heap.size) : Ints (w.alloc (.cells #[.int .i64 a, .int .i64 b, .int .i64 c, .int .i64 d, .int .i64 e, .int .i64 f, .int .i64 g, .int .i64 h] t)) (some ⟨B, 0, none⟩) 8 [a, b, c, d, e, f, g, h] :=
  hB ▸ ⟨rfl, fun _ => ⟨w.heap.size, 0, rfl, by simp, fun k hk => by
    match k, hk with
    | 0, _ => simp
    | 1, _ => simp
    | 2, _ => simp
    | 3, _ => simp
    | 4, _ => simp
    | 5, _ => simp
    | 6, _ => simp
    | 7, _ => simp⟩⟩

set_option maxRecDepth 100000 in
set_option maxHeartbeats 1000000 in
theorem specHash0 (k ax ay fx fy u g : Int) (d o : Bool) (w : World) : Calls Try.prog 40 #[sta k ax ay fx fy u g d o] w fun e w' => e = .returned (.int .i64 (hsh 17 (stL k ax ay fx fy u g d o))) ∧ Below w.heap.size w w' := by
  cases d <;> cases o
  · have E := Lib.hid (show stL k ax ay fx fy u g false false = [k, ax, ay, fx, fy, u, g, 0] from rfl)
    have C := Lib.hid (fun (D : Nat) (W : World) (Z : Ints W (some ⟨D, 0, none⟩) 8 [k, ax, ay, fx, fy, u, g, 0]) => specHsh 17 (some ⟨D, 0, none⟩) 8 8 _ W (by omega) (by omega) Z (by omega))
    go_enter Try.func40, Try.ntmps40
    go_wp2_with fail
    refine (C.out _ _ (Ints.eight _ _ _ _ _ _ _ _ _ _ _ (by simp))).mono ?_
    rintro e w' ⟨rfl, rfl⟩
    go_wp2
    go_ret
    exact ⟨ret_int (by rw [E.out]), bl_alloc (bl_alloc (bl_refl w) _) _⟩
  · have E := Lib.hid (show stL k ax ay fx fy u g false true = [k, ax, ay, fx, fy, u, g, 2] from rfl)
    have C := Lib.hid (fun (D : Nat) (W : World) (Z : Ints W (some ⟨D, 0, none⟩) 8 [k, ax, ay, fx, fy, u, g, 2]) => specHsh 17 (some ⟨D, 0, none⟩) 8 8 _ W (by omega) (by omega) Z (by omega))
    go_enter Try.func40, Try.ntmps40
    go_wp2_with fail
    refine (C.out _ _ (Ints.eight _ _ _ _ _ _ _ _ _ _ _ (by simp))).mono ?_
    rintro e w' ⟨rfl, rfl⟩
    go_wp2
    go_ret
    exact ⟨ret_int (by rw [E.out]), bl_alloc (bl_alloc (bl_refl w) _) _⟩
  · have E := Lib.hid (show stL k ax ay fx fy u g true false = [k, ax, ay, fx, fy, u, g, 1] from rfl)
    have C := Lib.hid (fun (D : Nat) (W : World) (Z : Ints W (some ⟨D, 0, none⟩) 8 [k, ax, ay, fx, fy, u, g, 1]) => specHsh 17 (some ⟨D, 0, none⟩) 8 8 _ W (by omega) (by omega) Z (by omega))
    go_enter Try.func40, Try.ntmps40
    go_wp2_with fail
    refine (C.out _ _ (Ints.eight _ _ _ _ _ _ _ _ _ _ _ (by simp))).mono ?_
    rintro e w' ⟨rfl, rfl⟩
    go_wp2
    go_ret
    exact ⟨ret_int (by rw [E.out]), bl_alloc (bl_alloc (bl_refl w) _) _⟩
  · have E := Lib.hid (show stL k ax ay fx fy u g true true = [k, ax, ay, fx, fy, u, g, 3] from rfl)
    have C := Lib.hid (fun (D : Nat) (W : World) (Z : Ints W (some ⟨D, 0, none⟩) 8 [k, ax, ay, fx, fy, u, g, 3]) => specHsh 17 (some ⟨D, 0, none⟩) 8 8 _ W (by omega) (by omega) Z (by omega))
    go_enter Try.func40, Try.ntmps40
    go_wp2_with fail
    refine (C.out _ _ (Ints.eight _ _ _ _ _ _ _ _ _ _ _ (by simp))).mono ?_
    rintro e w' ⟨rfl, rfl⟩
    go_wp2
    go_ret
    exact ⟨ret_int (by rw [E.out]), bl_alloc (bl_alloc (bl_refl w) _) _⟩

set_option maxRecDepth 100000 in
theorem specEHash (k ax ay fx fy u g : Int) (d o : Bool) (w : World) : Calls Try.prog 17 #[sta k ax ay fx fy u g d o] w fun e w' => e = .returned (.int .i64 (ehI k ax ay fx fy u g d o)) ∧ Below w.heap.size w w' := by
  have V := fun W => specOwn k ax ay fx fy u g d o W
  cases hv : ownB k ax ay fx fy u g d o
  · rw [hv] at V
    have V := Lib.hid V
    have E := Lib.hid (show ehI k ax ay fx fy u g d o = -1 by simp [ehI, hv])
    clear hv
    go_enter Try.func17, Try.ntmps17
    go_wp2_with fail
    refine (V.out _).mono ?_
    rintro e w1 ⟨rfl, B⟩
    have H := Lib.hid (bl_trans (bl_alloc (bl_refl w) _) B)
    clear B
    go_wp2
    go_ret
    exact ⟨ret_int (by rw [E.out]), H.out⟩
  · rw [hv] at V
    have V := Lib.hid V
    have E := Lib.hid (show ehI k ax ay fx fy u g d o = hsh 17 (stL k ax ay fx fy u g d o) by simp [ehI, hv])
    have C := Lib.hid (fun W => specHash0 k ax ay fx fy u g d o W)
    clear hv
    go_enter Try.func17, Try.ntmps17
    go_wp2_with fail
    refine (V.out _).mono ?_
    rintro e w1 ⟨rfl, B⟩
    have P : CellsAt w1 w.heap.size (stv k ax ay fx fy u g d o) := (CellsAt.new w _ _ _ rfl).step B
    have H := Lib.hid (bl_trans (bl_alloc (bl_refl w) _) B)
    clear B
    have Pc0 := P.cell 0 _ rfl
    have Pc1 := P.cell 1 _ rfl
    have Pc2 := P.cell 2 _ rfl
    have Pc3 := P.cell 3 _ rfl
    have Pc4 := P.cell 4 _ rfl
    have Pc5 := P.cell 5 _ rfl
    have Pc6 := P.cell 6 _ rfl
    have Pc7 := P.cell 7 _ rfl
    have Pc8 := P.cell 8 _ rfl
    have Pl := P.lt
    go_wp2_with fail
    refine (C.out _).mono ?_
    rintro e w2 ⟨rfl, B⟩
    replace H := Lib.hid (bl_trans H.out B)
    clear B Pc0 Pc1 Pc2 Pc3 Pc4 Pc5 Pc6 Pc7 Pc8 Pl P
    go_wp2
    go_ret
    exact ⟨ret_int (by rw [E.out]), H.out⟩

end Go.Proofs.Ytnoenjociioffab
