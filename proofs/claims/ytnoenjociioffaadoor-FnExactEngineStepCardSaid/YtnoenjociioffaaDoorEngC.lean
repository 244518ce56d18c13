/-
  What the model's engine returns: a step.
-/
import Derived.Test.YtnoenjociioffaaDoorEngB
namespace Go.Proofs.YtnoenjociioffaaDoor
open Go.RowKit
open M

set_option maxRecDepth 100000 in
set_option maxHeartbeats 3000000 in
theorem specStep13 (i t x y : Int) (A : Option Addr) (n c : Nat) (G : Option Addr) (m kk : Nat) (fp fq fs fz b : Int) (ws gs : List Bx) (k ax ay fx fy u : Int) (gn : Nat) (d o : Bool) (s p : Int) (z : Bool) (w : World) (I : Boxes w A n ws) (J : Boxes w G m gs) (ok : bxs ws = true) (hn : n ≤ 281474976710656) (hm : m ≤ 281474976710656) (hB : StB m ⟨k, ax, ay, fx, fy, u, gn, d, o⟩) (hk9 : k < 1000000) (s1 : -1 ≤ s) (s2 : s ≤ 1) :
    Calls Tryd.prog 49 #[lev i t x y A n c G m kk fp fq fs fz b, sta k ax ay fx fy u gn d o, inp s p z] w fun e w' => (∃ K X Y P Q U V D O, stS ws gs fp fq fs fz ⟨k, ax, ay, fx, fy, u, gn, d, o⟩ ⟨s, p, z⟩ = ⟨K, X, Y, P, Q, U, V, D, O⟩ ∧ e = .returned (sta K X Y P Q U V D O)) ∧ Below w.heap.size w w' := by
  have k0 := hB.k.1
  simp only at k0
  have hB1 : StB m ⟨k + 1, ax, ay, fx, fy, u, gn, d, o⟩ := ⟨hB.a, hB.f, hB.u, hB.g, by show 0 ≤ k + 1 ∧ k + 1 ≤ 1000000; omega⟩
  have C := fun (W : World) (Z : Boxes W A n ws) (Y : Boxes W G m gs) => specDrive i t x y A n c G m kk fp fq fs fz b ws gs (k + 1) ax ay fx fy u gn d o s p z W Z Y ok hn hm hB1 s1 s2
  have I := Lib.hid I
  have J := Lib.hid J
  clear hB hB1
  have L : CellsAt ((((w.alloc (.cells #[.int .i64 i, .int .i64 t, .int .i64 x, .int .i64 y, .slice A n c, .slice G m kk, .int .i64 fp, .int .i64 fq, .int .i64 fs, .int .i64 fz, .int .i64 b] 29)).alloc (.cells #[.int .i64 k, .int .i64 ax, .int .i64 ay, .int .i64 fx, .int .i64 fy, .int .i64 u, .int .i64 gn, .bool d, .bool o] 31)).alloc (.cells #[.int .i64 s, .int .i64 p, .bool z] 33)).alloc (.cells #[.int .i64 0, .int .i64 0, .int .i64 0, .int .i64 0, .int .i64 0, .int .i64 0, .int .i64 0, .bool false, .bool false] 31)) w.heap.size (lvs i t x y A n c G m kk fp fq fs fz b) := (((CellsAt.new w _ _ _ rfl).alloc _).alloc _).alloc _
  have S : CellsAt ((((w.alloc (.cells #[.int .i64 i, .int .i64 t, .int .i64 x, .int .i64 y, .slice A n c, .slice G m kk, .int .i64 fp, .int .i64 fq, .int .i64 fs, .int .i64 fz, .int .i64 b] 29)).alloc (.cells #[.int .i64 k, .int .i64 ax, .int .i64 ay, .int .i64 fx, .int .i64 fy, .int .i64 u, .int .i64 gn, .bool d, .bool o] 31)).alloc (.cells #[.int .i64 s, .int .i64 p, .bool z] 33)).alloc (.cells #[.int .i64 0, .int .i64 0, .int .i64 0, .int .i64 0, .int .i64 0, .int .i64 0, .int .i64 0, .bool false, .bool false] 31)) (w.heap.size + 1) (stv k ax ay fx fy u gn d o) := ((CellsAt.new _ _ _ _ (by simp)).alloc _).alloc _
  have X : CellsAt ((((w.alloc (.cells #[.int .i64 i, .int .i64 t, .int .i64 x, .int .i64 y, .slice A n c, .slice G m kk, .int .i64 fp, .int .i64 fq, .int .i64 fs, .int .i64 fz, .int .i64 b] 29)).alloc (.cells #[.int .i64 k, .int .i64 ax, .int .i64 ay, .int .i64 fx, .int .i64 fy, .int .i64 u, .int .i64 gn, .bool d, .bool o] 31)).alloc (.cells #[.int .i64 s, .int .i64 p, .bool z] 33)).alloc (.cells #[.int .i64 0, .int .i64 0, .int .i64 0, .int .i64 0, .int .i64 0, .int .i64 0, .int .i64 0, .bool false, .bool false] 31)) (w.heap.size + 1 + 1) (ins s p z) := (CellsAt.new _ _ _ _ (by simp)).alloc _
  have D : CellsAt ((((w.alloc (.cells #[.int .i64 i, .int .i64 t, .int .i64 x, .int .i64 y, .slice A n c, .slice G m kk, .int .i64 fp, .int .i64 fq, .int .i64 fs, .int .i64 fz, .int .i64 b] 29)).alloc (.cells #[.int .i64 k, .int .i64 ax, .int .i64 ay, .int .i64 fx, .int .i64 fy, .int .i64 u, .int .i64 gn, .bool d, .bool o] 31)).alloc (.cells #[.int .i64 s, .int .i64 p, .bool z] 33)).alloc (.cells #[.int .i64 0, .int .i64 0, .int .i64 0, .int .i64 0, .int .i64 0, .int .i64 0, .int .i64 0, .bool false, .bool false] 31)) (w.heap.size + 1 + 1 + 1) (stv 0 0 0 0 0 0 0 false false) := CellsAt.new _ _ _ _ (by simp)
  have H := Lib.hid (bl_alloc (bl_alloc (bl_alloc (bl_alloc (bl_refl w) (.cells #[.int .i64 i, .int .i64 t, .int .i64 x, .int .i64 y, .slice A n c, .slice G m kk, .int .i64 fp, .int .i64 fq, .int .i64 fs, .int .i64 fz, .int .i64 b] 29)) (.cells #[.int .i64 k, .int .i64 ax, .int .i64 ay, .int .i64 fx, .int .i64 fy, .int .i64 u, .int .i64 gn, .bool d, .bool o] 31)) (.cells #[.int .i64 s, .int .i64 p, .bool z] 33)) (.cells #[.int .i64 0, .int .i64 0, .int .i64 0, .int .i64 0, .int .i64 0, .int .i64 0, .int .i64 0, .bool false, .bool false] 31))
  cases d
  rotate_left
  · have E := Lib.hid (show stS ws gs fp fq fs fz ⟨k, ax, ay, fx, fy, u, gn, true, o⟩ ⟨s, p, z⟩ = ⟨k, ax, ay, fx, fy, u, gn, true, o⟩ by simp [stS])
    clear C
    have Sc0 := S.cell 0 _ rfl
    have Sc1 := S.cell 1 _ rfl
    have Sc2 := S.cell 2 _ rfl
    have Sc3 := S.cell 3 _ rfl
    have Sc4 := S.cell 4 _ rfl
    have Sc5 := S.cell 5 _ rfl
    have Sc6 := S.cell 6 _ rfl
    have Sc7 := S.cell 7 _ rfl
    have Sc8 := S.cell 8 _ rfl
    have Sl := S.lt
    go_enter Tryd.func49, Tryd.ntmps49
    go_upto_region 2 with fail
    clear Sc0 Sc1 Sc2 Sc3 Sc4 Sc5 Sc6 Sc7 Sc8 Sl 
    refine wp_region_lit ?_
    refine load_cells rfl 31 (.tmp 4) rfl (w.heap.size + 1) rfl (stv k ax ay fx fy u gn true o) S Tryd.underlying31 rfl state_size ?_
    refine store_new rfl 31 (.tmp 6) (.tmp 13) rfl (w.heap.size + 1 + 1 + 1) rfl (stv k ax ay fx fy u gn true o) rfl _ D (by simp) state_size rfl ?_
    intro w8 K N
    clear S D
    replace H := Lib.hid (kp_below H.out K (by omega))
    go_wp2
    exact bodyPost_ret (v := sta k ax ay fx fy u gn true o) (res_cells rfl (w.heap.size + 1 + 1 + 1) rfl (stv k ax ay fx fy u gn true o) N Tryd.underlying31 rfl state_size) rfl ⟨⟨_, _, _, _, _, _, _, _, _, E.out, rfl⟩, H.out⟩
  cases o
  rotate_left
  · have E := Lib.hid (show stS ws gs fp fq fs fz ⟨k, ax, ay, fx, fy, u, gn, false, true⟩ ⟨s, p, z⟩ = ⟨k, ax, ay, fx, fy, u, gn, false, true⟩ by simp [stS])
    clear C
    have Sc0 := S.cell 0 _ rfl
    have Sc1 := S.cell 1 _ rfl
    have Sc2 := S.cell 2 _ rfl
    have Sc3 := S.cell 3 _ rfl
    have Sc4 := S.cell 4 _ rfl
    have Sc5 := S.cell 5 _ rfl
    have Sc6 := S.cell 6 _ rfl
    have Sc7 := S.cell 7 _ rfl
    have Sc8 := S.cell 8 _ rfl
    have Sl := S.lt
    go_enter Tryd.func49, Tryd.ntmps49
    go_upto_region 2 with fail
    clear Sc0 Sc1 Sc2 Sc3 Sc4 Sc5 Sc6 Sc7 Sc8 Sl 
    refine wp_region_lit ?_
    refine load_cells rfl 31 (.tmp 4) rfl (w.heap.size + 1) rfl (stv k ax ay fx fy u gn false true) S Tryd.underlying31 rfl state_size ?_
    refine store_new rfl 31 (.tmp 6) (.tmp 13) rfl (w.heap.size + 1 + 1 + 1) rfl (stv k ax ay fx fy u gn false true) rfl _ D (by simp) state_size rfl ?_
    intro w8 K N
    clear S D
    replace H := Lib.hid (kp_below H.out K (by omega))
    go_wp2
    exact bodyPost_ret (v := sta k ax ay fx fy u gn false true) (res_cells rfl (w.heap.size + 1 + 1 + 1) rfl (stv k ax ay fx fy u gn false true) N Tryd.underlying31 rfl state_size) rfl ⟨⟨_, _, _, _, _, _, _, _, _, E.out, rfl⟩, H.out⟩
  cases z
  rotate_left
  · have E := Lib.hid (show stS ws gs fp fq fs fz ⟨k, ax, ay, fx, fy, u, gn, false, false⟩ ⟨s, p, true⟩ = ⟨k + 1, ax, ay, fx, fy, u, gn, false, false⟩ by simp [stS])
    clear C
    have Sc0 := S.cell 0 _ rfl
    have Sc1 := S.cell 1 _ rfl
    have Sc2 := S.cell 2 _ rfl
    have Sc3 := S.cell 3 _ rfl
    have Sc4 := S.cell 4 _ rfl
    have Sc5 := S.cell 5 _ rfl
    have Sc6 := S.cell 6 _ rfl
    have Sc7 := S.cell 7 _ rfl
    have Sc8 := S.cell 8 _ rfl
    have Sl := S.lt
    have Sf0 := S.fr 0
    have Sf1 := S.fr 1
    have Sf2 := S.fr 2
    have Sf3 := S.fr 3
    have Sf4 := S.fr 4
    have Sf5 := S.fr 5
    have Sf6 := S.fr 6
    have Sf7 := S.fr 7
    have Sf8 := S.fr 8
    have Xc0 := X.cell 0 _ rfl
    have Xc1 := X.cell 1 _ rfl
    have Xc2 := X.cell 2 _ rfl
    have Xl := X.lt
    go_enter Tryd.func49, Tryd.ntmps49
    go_upto_region 5 with fail
    refine wp_letter (fun W' => CellsAt W' w.heap.size (lvs i t x y A n c G m kk fp fq fs fz b) ∧ CellsAt W' (w.heap.size + 1) (stv (k + 1) ax ay fx fy u gn false false) ∧ CellsAt W' (w.heap.size + 1 + 1) (ins s p true) ∧ CellsAt W' (w.heap.size + 1 + 1 + 1) (stv 0 0 0 0 0 0 0 false false) ∧ Below w.heap.size w W') ⟨(((CellsAt.new w _ _ _ rfl).alloc _).alloc _).alloc _, ((CellsAt.new _ _ _ _ (by simp)).alloc _).alloc _, (CellsAt.new _ _ _ _ (by simp)).alloc _, CellsAt.new _ _ _ _ (by simp), bl_alloc (bl_alloc (bl_alloc (bl_alloc (bl_refl w) _) _) _) _⟩ ?_
    clear L S X D H Sc0 Sc1 Sc2 Sc3 Sc4 Sc5 Sc6 Sc7 Sc8 Sl Xc0 Xc1 Xc2 Xl Sf0 Sf1 Sf2 Sf3 Sf4 Sf5 Sf6 Sf7 Sf8
    rintro w1 ⟨L, S, X, D, H⟩
    replace H := Lib.hid H
    refine wp_region_lit ?_
    refine load_cells rfl 31 (.tmp 4) rfl (w.heap.size + 1) rfl (stv (k + 1) ax ay fx fy u gn false false) S Tryd.underlying31 rfl state_size ?_
    refine store_new rfl 31 (.tmp 6) (.tmp 20) rfl (w.heap.size + 1 + 1 + 1) rfl (stv (k + 1) ax ay fx fy u gn false false) rfl _ D (by simp) state_size rfl ?_
    intro w8 K N
    clear S D
    replace H := Lib.hid (kp_below H.out K (by omega))
    go_wp2
    exact bodyPost_ret (v := sta (k + 1) ax ay fx fy u gn false false) (res_cells rfl (w.heap.size + 1 + 1 + 1) rfl (stv (k + 1) ax ay fx fy u gn false false) N Tryd.underlying31 rfl state_size) rfl ⟨⟨_, _, _, _, _, _, _, _, _, E.out, rfl⟩, H.out⟩
  have ES := Lib.hid (show stS ws gs fp fq fs fz ⟨k, ax, ay, fx, fy, u, gn, false, false⟩ ⟨s, p, false⟩ = drS ws gs fp fq fs fz ⟨k + 1, ax, ay, fx, fy, u, gn, false, false⟩ s p by simp [stS])
  replace C := Lib.hid C
  have Sc0 := S.cell 0 _ rfl
  have Sc1 := S.cell 1 _ rfl
  have Sc2 := S.cell 2 _ rfl
  have Sc3 := S.cell 3 _ rfl
  have Sc4 := S.cell 4 _ rfl
  have Sc5 := S.cell 5 _ rfl
  have Sc6 := S.cell 6 _ rfl
  have Sc7 := S.cell 7 _ rfl
  have Sc8 := S.cell 8 _ rfl
  have Sl := S.lt
  have Sf0 := S.fr 0
  have Sf1 := S.fr 1
  have Sf2 := S.fr 2
  have Sf3 := S.fr 3
  have Sf4 := S.fr 4
  have Sf5 := S.fr 5
  have Sf6 := S.fr 6
  have Sf7 := S.fr 7
  have Sf8 := S.fr 8
  have Xc0 := X.cell 0 _ rfl
  have Xc1 := X.cell 1 _ rfl
  have Xc2 := X.cell 2 _ rfl
  have Xl := X.lt
  go_enter Tryd.func49, Tryd.ntmps49
  go_upto_region 6 with fail
  refine wp_letter (fun W' => CellsAt W' w.heap.size (lvs i t x y A n c G m kk fp fq fs fz b) ∧ CellsAt W' (w.heap.size + 1) (stv (k + 1) ax ay fx fy u gn false false) ∧ CellsAt W' (w.heap.size + 1 + 1) (ins s p false) ∧ CellsAt W' (w.heap.size + 1 + 1 + 1) (stv 0 0 0 0 0 0 0 false false) ∧ Below w.heap.size w W') ⟨(((CellsAt.new w _ _ _ rfl).alloc _).alloc _).alloc _, ((CellsAt.new _ _ _ _ (by simp)).alloc _).alloc _, (CellsAt.new _ _ _ _ (by simp)).alloc _, CellsAt.new _ _ _ _ (by simp), bl_alloc (bl_alloc (bl_alloc (bl_alloc (bl_refl w) _) _) _) _⟩ ?_
  clear L S X D H Sc0 Sc1 Sc2 Sc3 Sc4 Sc5 Sc6 Sc7 Sc8 Sl Xc0 Xc1 Xc2 Xl Sf0 Sf1 Sf2 Sf3 Sf4 Sf5 Sf6 Sf7 Sf8
  rintro w1 ⟨L, S, X, D, H⟩
  replace H := Lib.hid H
  have Lc0 := L.cell 0 _ rfl
  have Lc1 := L.cell 1 _ rfl
  have Lc2 := L.cell 2 _ rfl
  have Lc3 := L.cell 3 _ rfl
  have Lc4 := L.cell 4 _ rfl
  have Lc5 := L.cell 5 _ rfl
  have Lc6 := L.cell 6 _ rfl
  have Lc7 := L.cell 7 _ rfl
  have Lc8 := L.cell 8 _ rfl
  have Lc9 := L.cell 9 _ rfl
  have Lc10 := L.cell 10 _ rfl
  have Ll := L.lt
  have Sc0 := S.cell 0 _ rfl
  have Sc1 := S.cell 1 _ rfl
  have Sc2 := S.cell 2 _ rfl
  have Sc3 := S.cell 3 _ rfl
  have Sc4 := S.cell 4 _ rfl
  have Sc5 := S.cell 5 _ rfl
  have Sc6 := S.cell 6 _ rfl
  have Sc7 := S.cell 7 _ rfl
  have Sc8 := S.cell 8 _ rfl
  have Sl := S.lt
  have Xc0 := X.cell 0 _ rfl
  have Xc1 := X.cell 1 _ rfl
  have Xc2 := X.cell 2 _ rfl
  have Xl := X.lt
  go_wp2_with fail
  refine (C.out _ (I.out.step H.out) (J.out.step H.out)).mono ?_
  rintro e w2 ⟨⟨K, X', Y', P', Q', U', V', D', O', eM, rfl⟩, B⟩
  replace L := L.step B
  replace S := S.step B
  replace X := X.step B
  replace D := D.step B
  replace H := Lib.hid (bl_trans H.out B)
  clear B
  clear Lc0 Lc1 Lc2 Lc3 Lc4 Lc5 Lc6 Lc7 Lc8 Lc9 Lc10 Ll Sc0 Sc1 Sc2 Sc3 Sc4 Sc5 Sc6 Sc7 Sc8 Sl Xc0 Xc1 Xc2 Xl  C
  have E := Lib.hid (ES.out.trans eM)
  clear eM ES L S X
  go_wp2_with (refine store_new rfl 31 (.tmp 6) (.tmp 24) rfl (w.heap.size + 1 + 1 + 1) rfl (stv K X' Y' P' Q' U' V' D' O') rfl _ D (by simp) state_size rfl ?_)
  intro w8 Kp N
  clear D
  replace H := Lib.hid (kp_below H.out Kp (by omega))
  go_wp2
  exact bodyPost_ret (v := sta K X' Y' P' Q' U' V' D' O') (res_cells rfl (w.heap.size + 1 + 1 + 1) rfl (stv K X' Y' P' Q' U' V' D' O') N Tryd.underlying31 rfl state_size) rfl ⟨⟨_, _, _, _, _, _, _, _, _, E.out, rfl⟩, H.out⟩

end Go.Proofs.YtnoenjociioffaaDoor
