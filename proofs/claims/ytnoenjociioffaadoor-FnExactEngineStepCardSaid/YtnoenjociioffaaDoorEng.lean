/-
  What the model's engine returns: the start, how fast, a move.
-/
import Derived.Test.YtnoenjociioffaaDoorFree2
import Derived.Test.YtnoenjociioffaaDoorEngMath
import Derived.Test.YtnoenjociioffaaDoorVecS
import Derived.Test.YtnoenjociioffaaDoorCelS
import Derived.Deep.Cut
namespace Go.Proofs.YtnoenjociioffaaDoor
open Go.RowKit
open M

/-- A state as a value, and as cells. -/
abbrev sta (k ax ay fx fy u g : Int) (d o : Bool) : Value := .agg #[.int .i64 k, .int .i64 ax, .int .i64 ay, .int .i64 fx, .int .i64 fy, .int .i64 u, .int .i64 g, .bool d, .bool o]
abbrev stv (k ax ay fx fy u g : Int) (d o : Bool) : List Value := [.int .i64 k, .int .i64 ax, .int .i64 ay, .int .i64 fx, .int .i64 fy, .int .i64 u, .int .i64 g, .bool d, .bool o]
theorem state_size : (Tryd.prog.info? 31).map (·.size) = some 9 := by kernel_rfl
theorem wp_letter {P : Program} {code : Code} {Q : Exit → Act → World → Prop} {a : Act} {W : World} (S : World → Prop) (hS : S W) (h : ∀ W', S W' → code.wp P Q a W') : code.wp P Q a W := h W hS

theorem specStart (i t x y : Int) (A : Option Addr) (n c : Nat) (G : Option Addr) (m kk : Nat) (fp fq fs fz b : Int) (w : World) : Calls Tryd.prog 61 #[lev i t x y A n c G m kk fp fq fs fz b] w fun e w' => e = .returned (sta 0 x y 0 0 0 0 false false) ∧ Below w.heap.size w w' := by
  have D : CellsAt ((w.alloc (.cells #[.int .i64 i, .int .i64 t, .int .i64 x, .int .i64 y, .slice A n c, .slice G m kk, .int .i64 fp, .int .i64 fq, .int .i64 fs, .int .i64 fz, .int .i64 b] 29)).alloc (.cells #[.int .i64 0, .int .i64 0, .int .i64 0, .int .i64 0, .int .i64 0, .int .i64 0, .int .i64 0, .bool false, .bool false] 31)) (w.heap.size + 1) (stv 0 0 0 0 0 0 0 false false) := CellsAt.new _ _ _ _ (by simp)
  have H := Lib.hid (bl_alloc (bl_alloc (bl_refl w) (.cells #[.int .i64 i, .int .i64 t, .int .i64 x, .int .i64 y, .slice A n c, .slice G m kk, .int .i64 fp, .int .i64 fq, .int .i64 fs, .int .i64 fz, .int .i64 b] 29)) (.cells #[.int .i64 0, .int .i64 0, .int .i64 0, .int .i64 0, .int .i64 0, .int .i64 0, .int .i64 0, .bool false, .bool false] 31))
  go_enter Tryd.func61, Tryd.ntmps61
  go_wp2_with (refine store_new rfl 31 (.tmp 2) (.tmp 5) rfl (w.heap.size + 1) rfl (stv 0 x y 0 0 0 0 false false) rfl _ D (by simp) state_size rfl ?_)
  intro w1 K N
  go_wp2
  exact bodyPost_ret (v := sta 0 x y 0 0 0 0 false false) (res_cells rfl (w.heap.size + 1) rfl (stv 0 x y 0 0 0 0 false false) N Tryd.underlying31 rfl state_size) rfl ⟨rfl, kp_below H.out K (by omega)⟩

set_option maxRecDepth 100000 in
set_option maxHeartbeats 4000000 in
theorem specFast (k ax ay fx fy u g : Int) (d o : Bool) (v p : Int) (w : World) (x1 : -2000 ≤ fx) (x2 : fx ≤ 2000) (y1 : -2000 ≤ fy) (y2 : fy ≤ 2000) (v0 : 0 ≤ v) (v1 : v ≤ 15) :
    Calls Tryd.prog 108 #[sta k ax ay fx fy u g d o, .int .i64 v, .int .i64 p] w fun e w' => e = .returned (vec (fsX fx fy v p) (fsY fx fy v p)) ∧ Below w.heap.size w w' := by
  have P : CellsAt ((w.alloc (.cells #[.int .i64 k, .int .i64 ax, .int .i64 ay, .int .i64 fx, .int .i64 fy, .int .i64 u, .int .i64 g, .bool d, .bool o] 31)).alloc (.cells #[.int .i64 0, .int .i64 0] 24)) w.heap.size (stv k ax ay fx fy u g d o) := (CellsAt.new w _ _ _ rfl).alloc _
  have D : CellsAt ((w.alloc (.cells #[.int .i64 k, .int .i64 ax, .int .i64 ay, .int .i64 fx, .int .i64 fy, .int .i64 u, .int .i64 g, .bool d, .bool o] 31)).alloc (.cells #[.int .i64 0, .int .i64 0] 24)) (w.heap.size + 1) [.int .i64 0, .int .i64 0] := CellsAt.new _ _ _ _ (by simp)
  have H := Lib.hid (bl_alloc (bl_alloc (bl_refl w) (.cells #[.int .i64 k, .int .i64 ax, .int .i64 ay, .int .i64 fx, .int .i64 fy, .int .i64 u, .int .i64 g, .bool d, .bool o] 31)) (.cells #[.int .i64 0, .int .i64 0] 24))
  by_cases hp : p = 1
  · subst hp
    have q := push_small v0 v1
    have dd := dir_small v0 v1
    have C1 := Lib.hid (fun W => specVDir0 v W v0 v1)
    have C2 := Lib.hid (fun W => specVScale0 (dirX v) (dirY v) 200 W (by omega) (by omega) (by omega) (by omega) (by omega) (by omega))
    have E : fsX fx fy v 1 = cpX (fx + mu (dirX v) 200) (fy + mu (dirY v) 200) 2000 ∧ fsY fx fy v 1 = cpY (fx + mu (dirX v) 200) (fy + mu (dirY v) 200) 2000 := ⟨by simp [fsX], by simp [fsY]⟩
    have E := Lib.hid E
    generalize mu (dirX v) 200 = e1 at *
    generalize mu (dirY v) 200 = e2 at *
    generalize dirX v = f1 at *
    generalize dirY v = f2 at *
    obtain ⟨⟨q1, q2⟩, q3, q4⟩ := q
    have C3 := Lib.hid (fun W => specVClamp0 (fx + e1) (fy + e2) 2000 W (by omega) (by omega) (by omega) (by omega) (by omega) (by omega))
    clear dd
    go_enter Tryd.func108, Tryd.ntmps108
    go_wp2_with fail
    refine (C1.out _).mono ?_
    rintro e w1 ⟨rfl, B⟩
    replace P := P.step B
    replace D := D.step B
    replace H := Lib.hid (bl_trans H.out B)
    clear B C1
    go_wp2_with fail
    refine (C2.out _).mono ?_
    rintro e w2 ⟨rfl, B⟩
    replace P := (P.step B).alloc (.cells #[.int .i64 e1, .int .i64 e2] 24)
    replace D := (D.step B).alloc (.cells #[.int .i64 e1, .int .i64 e2] 24)
    replace H := Lib.hid (bl_alloc (bl_trans H.out B) (.cells #[.int .i64 e1, .int .i64 e2] 24))
    clear B C2
    have U : CellsAt (w2.alloc (.cells #[.int .i64 e1, .int .i64 e2] 24)) w2.heap.size [.int .i64 e1, .int .i64 e2] := CellsAt.new _ _ _ _ rfl
    have Pc0 := P.cell 0 _ rfl
    have Pc1 := P.cell 1 _ rfl
    have Pc2 := P.cell 2 _ rfl
    have Pc3 := P.cell 3 _ rfl
    have Pc4 := P.cell 4 _ rfl
    have Pc5 := P.cell 5 _ rfl
    have Pc6 := P.cell 6 _ rfl
    have Pc7 := P.cell 7 _ rfl
    have Pc8 := P.cell 8 _ rfl
    have Pl := P.lt
    have Uc0 := U.cell 0 _ rfl
    have Uc1 := U.cell 1 _ rfl
    have Ul := U.lt
    go_wp2_with fail
    refine (C3.out _).mono ?_
    rintro e w3 ⟨rfl, B⟩
    replace D := D.step B
    replace H := Lib.hid (bl_trans H.out B)
    clear B C3 Pc0 Pc1 Pc2 Pc3 Pc4 Pc5 Pc6 Pc7 Pc8 Pl Uc0 Uc1 Ul
    generalize cpX (fx + e1) (fy + e2) 2000 = r1 at *
    generalize cpY (fx + e1) (fy + e2) 2000 = r2 at *
    go_wp2_with (refine store_new rfl 24 (.tmp 6) (.tmp 27) rfl (w.heap.size + 1) rfl [.int .i64 r1, .int .i64 r2] rfl _ D (by simp) vec_size rfl ?_)
    intro w4 K N
    go_wp2
    exact bodyPost_ret (v := vec (r1) (r2)) (res_cells rfl (w.heap.size + 1) rfl [.int .i64 (r1), .int .i64 (r2)] N Tryd.underlying24 rfl vec_size) rfl ⟨by rw [E.out.1, E.out.2], kp_below H.out K (by omega)⟩
  have dp : (p == 1) = false := beq_eq_false_iff_ne.2 hp
  by_cases hq : p = 2
  · subst hq
    have E := Lib.hid (show fsX fx fy v 2 = mu fx 700 ∧ fsY fx fy v 2 = mu fy 700 from ⟨by simp [fsX], by simp [fsY]⟩)
    have C := Lib.hid (fun W => specVScale0 fx fy 700 W (by omega) (by omega) (by omega) (by omega) (by omega) (by omega))
    generalize mu fx 700 = r1 at *
    generalize mu fy 700 = r2 at *
    clear hp
    have Pc0 := P.cell 0 _ rfl
    have Pc1 := P.cell 1 _ rfl
    have Pc2 := P.cell 2 _ rfl
    have Pc3 := P.cell 3 _ rfl
    have Pc4 := P.cell 4 _ rfl
    have Pc5 := P.cell 5 _ rfl
    have Pc6 := P.cell 6 _ rfl
    have Pc7 := P.cell 7 _ rfl
    have Pc8 := P.cell 8 _ rfl
    have Pl := P.lt
    go_enter Tryd.func108, Tryd.ntmps108
    go_wp2_with fail
    refine (C.out _).mono ?_
    rintro e w1 ⟨rfl, B⟩
    replace D := D.step B
    replace H := Lib.hid (bl_trans H.out B)
    clear B C Pc0 Pc1 Pc2 Pc3 Pc4 Pc5 Pc6 Pc7 Pc8 Pl
    go_wp2_with (refine store_new rfl 24 (.tmp 6) (.tmp 32) rfl (w.heap.size + 1) rfl [.int .i64 r1, .int .i64 r2] rfl _ D (by simp) vec_size rfl ?_)
    intro w4 K N
    go_wp2
    exact bodyPost_ret (v := vec (r1) (r2)) (res_cells rfl (w.heap.size + 1) rfl [.int .i64 (r1), .int .i64 (r2)] N Tryd.underlying24 rfl vec_size) rfl ⟨by rw [E.out.1, E.out.2], kp_below H.out K (by omega)⟩
  have E := Lib.hid (show fsX fx fy v p = mu fx 950 ∧ fsY fx fy v p = mu fy 950 from ⟨by simp [fsX, hp, hq], by simp [fsY, hp, hq]⟩)
  have dq : (p == 2) = false := beq_eq_false_iff_ne.2 hq
  have C := Lib.hid (fun W => specVScale0 fx fy 950 W (by omega) (by omega) (by omega) (by omega) (by omega) (by omega))
  generalize mu fx 950 = r1 at *
  generalize mu fy 950 = r2 at *
  clear hp hq
  have Pc0 := P.cell 0 _ rfl
  have Pc1 := P.cell 1 _ rfl
  have Pc2 := P.cell 2 _ rfl
  have Pc3 := P.cell 3 _ rfl
  have Pc4 := P.cell 4 _ rfl
  have Pc5 := P.cell 5 _ rfl
  have Pc6 := P.cell 6 _ rfl
  have Pc7 := P.cell 7 _ rfl
  have Pc8 := P.cell 8 _ rfl
  have Pl := P.lt
  go_enter Tryd.func108, Tryd.ntmps108
  go_wp2_with fail
  refine (C.out _).mono ?_
  rintro e w1 ⟨rfl, B⟩
  replace D := D.step B
  replace H := Lib.hid (bl_trans H.out B)
  clear B C Pc0 Pc1 Pc2 Pc3 Pc4 Pc5 Pc6 Pc7 Pc8 Pl
  go_wp2_with (refine store_new rfl 24 (.tmp 6) (.tmp 35) rfl (w.heap.size + 1) rfl [.int .i64 r1, .int .i64 r2] rfl _ D (by simp) vec_size rfl ?_)
  intro w4 K N
  go_wp2
  exact bodyPost_ret (v := vec (r1) (r2)) (res_cells rfl (w.heap.size + 1) rfl [.int .i64 (r1), .int .i64 (r2)] N Tryd.underlying24 rfl vec_size) rfl ⟨by rw [E.out.1, E.out.2], kp_below H.out K (by omega)⟩

set_option maxRecDepth 100000 in
set_option maxHeartbeats 8000000 in
theorem specMove (i t x y : Int) (A : Option Addr) (n c : Nat) (G : Option Addr) (m kk : Nat) (fp fq fs fz b : Int) (ws : List Bx) (k ax ay fx fy u g : Int) (d o : Bool) (w : World) (I : Boxes w A n ws) (ok : bxs ws = true) (hn : n ≤ 281474976710656) (a1 : -1000000 ≤ ax) (a2 : ax ≤ 1000000) (a3 : -1000000 ≤ ay) (a4 : ay ≤ 1000000) (x1 : -2000 ≤ fx) (x2 : fx ≤ 2000) (y1 : -2000 ≤ fy) (y2 : fy ≤ 2000) :
    Calls Tryd.prog 109 #[lev i t x y A n c G m kk fp fq fs fz b, sta k ax ay fx fy u g d o] w fun e w' => (∃ X Y P Q, mvS ws ⟨k, ax, ay, fx, fy, u, g, d, o⟩ = ⟨k, X, Y, P, Q, u, g, d, o⟩ ∧ e = .returned (sta k X Y P Q u g d o)) ∧ Below w.heap.size w w' := by
  have C1 := fun (W : World) (Z : Boxes W A n ws) => specFree2 i t x y A n c G m kk fp fq fs fz b ws (ax + fx) ay W Z ok (by omega) (by omega) (by omega) (by omega) hn
  have I := Lib.hid I
  have h1 := half_small x1 x2
  have h2 := half_small y1 y2
  have hw1 : wrap64 (-fx.tdiv 2) = -fx.tdiv 2 := IntWalk.wrap64_in _ (by omega)
  have hw2 : wrap64 (-fy.tdiv 2) = -fy.tdiv 2 := IntWalk.wrap64_in _ (by omega)
  clear h1 h2
  have P : CellsAt (((w.alloc (.cells #[.int .i64 i, .int .i64 t, .int .i64 x, .int .i64 y, .slice A n c, .slice G m kk, .int .i64 fp, .int .i64 fq, .int .i64 fs, .int .i64 fz, .int .i64 b] 29)).alloc (.cells #[.int .i64 k, .int .i64 ax, .int .i64 ay, .int .i64 fx, .int .i64 fy, .int .i64 u, .int .i64 g, .bool d, .bool o] 31)).alloc (.cells #[.int .i64 0, .int .i64 0, .int .i64 0, .int .i64 0, .int .i64 0, .int .i64 0, .int .i64 0, .bool false, .bool false] 31)) w.heap.size (lvs i t x y A n c G m kk fp fq fs fz b) := ((CellsAt.new w _ _ _ rfl).alloc _).alloc _
  have S : CellsAt (((w.alloc (.cells #[.int .i64 i, .int .i64 t, .int .i64 x, .int .i64 y, .slice A n c, .slice G m kk, .int .i64 fp, .int .i64 fq, .int .i64 fs, .int .i64 fz, .int .i64 b] 29)).alloc (.cells #[.int .i64 k, .int .i64 ax, .int .i64 ay, .int .i64 fx, .int .i64 fy, .int .i64 u, .int .i64 g, .bool d, .bool o] 31)).alloc (.cells #[.int .i64 0, .int .i64 0, .int .i64 0, .int .i64 0, .int .i64 0, .int .i64 0, .int .i64 0, .bool false, .bool false] 31)) (w.heap.size + 1) (stv k ax ay fx fy u g d o) := (CellsAt.new _ _ _ _ (by simp)).alloc _
  have D : CellsAt (((w.alloc (.cells #[.int .i64 i, .int .i64 t, .int .i64 x, .int .i64 y, .slice A n c, .slice G m kk, .int .i64 fp, .int .i64 fq, .int .i64 fs, .int .i64 fz, .int .i64 b] 29)).alloc (.cells #[.int .i64 k, .int .i64 ax, .int .i64 ay, .int .i64 fx, .int .i64 fy, .int .i64 u, .int .i64 g, .bool d, .bool o] 31)).alloc (.cells #[.int .i64 0, .int .i64 0, .int .i64 0, .int .i64 0, .int .i64 0, .int .i64 0, .int .i64 0, .bool false, .bool false] 31)) (w.heap.size + 1 + 1) (stv 0 0 0 0 0 0 0 false false) := CellsAt.new _ _ _ _ (by simp)
  have H := Lib.hid (bl_alloc (bl_alloc (bl_alloc (bl_refl w) (.cells #[.int .i64 i, .int .i64 t, .int .i64 x, .int .i64 y, .slice A n c, .slice G m kk, .int .i64 fp, .int .i64 fq, .int .i64 fs, .int .i64 fz, .int .i64 b] 29)) (.cells #[.int .i64 k, .int .i64 ax, .int .i64 ay, .int .i64 fx, .int .i64 fy, .int .i64 u, .int .i64 g, .bool d, .bool o] 31)) (.cells #[.int .i64 0, .int .i64 0, .int .i64 0, .int .i64 0, .int .i64 0, .int .i64 0, .int .i64 0, .bool false, .bool false] 31))
  cases p1 : frB ws (ax + fx) ay
  · rw [p1] at C1
    replace C1 := Lib.hid C1
    have Pc0 := P.cell 0 _ rfl
    have Pc1 := P.cell 1 _ rfl
    have Pc2 := P.cell 2 _ rfl
    have Pc3 := P.cell 3 _ rfl
    have Pc4 := P.cell 4 _ rfl
    have Pc5 := P.cell 5 _ rfl
    have Pc6 := P.cell 6 _ rfl
    have Pc7 := P.cell 7 _ rfl
    have Pc8 := P.cell 8 _ rfl
    have Pc9 := P.cell 9 _ rfl
    have Pc10 := P.cell 10 _ rfl
    have Pl := P.lt
    have Sc0 := S.cell 0 _ rfl
    have Sc1 := S.cell 1 _ rfl
    have Sc2 := S.cell 2 _ rfl
    have Sc3 := S.cell 3 _ rfl
    have Sc4 := S.cell 4 _ rfl
    have Sc5 := S.cell 5 _ rfl
    have Sc6 := S.cell 6 _ rfl
    have Sc7 := S.cell 7 _ rfl
    have Sc8 := S.cell 8 _ rfl
    have Sl := S.lt
    go_enter Tryd.func109, Tryd.ntmps109
    go_wp2_with fail
    refine (C1.out _ (((I.out.step H.out).alloc _))).mono ?_
    rintro e w1 ⟨rfl, B⟩
    have V : CellsAt w1 (w.heap.size + 1 + 1 + 1) [.int .i64 (ax + fx), .int .i64 ay] := (CellsAt.new _ _ _ 24 (by simp)).step B
    replace P := (P.alloc _).step B
    replace S := (S.alloc _).step B
    replace D := (D.alloc _).step B
    replace H := Lib.hid (bl_trans (bl_alloc H.out _) B)
    clear B C1 Pc0 Pc1 Pc2 Pc3 Pc4 Pc5 Pc6 Pc7 Pc8 Pc9 Pc10 Pl Sc0 Sc1 Sc2 Sc3 Sc4 Sc5 Sc6 Sc7 Sc8 Sl
    have Pc0 := P.cell 0 _ rfl
    have Pc1 := P.cell 1 _ rfl
    have Pc2 := P.cell 2 _ rfl
    have Pc3 := P.cell 3 _ rfl
    have Pc4 := P.cell 4 _ rfl
    have Pc5 := P.cell 5 _ rfl
    have Pc6 := P.cell 6 _ rfl
    have Pc7 := P.cell 7 _ rfl
    have Pc8 := P.cell 8 _ rfl
    have Pc9 := P.cell 9 _ rfl
    have Pc10 := P.cell 10 _ rfl
    have Pl := P.lt
    have Sc0 := S.cell 0 _ rfl
    have Sc1 := S.cell 1 _ rfl
    have Sc2 := S.cell 2 _ rfl
    have Sc3 := S.cell 3 _ rfl
    have Sc4 := S.cell 4 _ rfl
    have Sc5 := S.cell 5 _ rfl
    have Sc6 := S.cell 6 _ rfl
    have Sc7 := S.cell 7 _ rfl
    have Sc8 := S.cell 8 _ rfl
    have Sl := S.lt
    have Vc0 := V.cell 0 _ rfl
    have Vc1 := V.cell 1 _ rfl
    have Vl := V.lt
    have Sf0 := S.fr 0
    have Sf1 := S.fr 1
    have Sf2 := S.fr 2
    have Sf3 := S.fr 3
    have Sf4 := S.fr 4
    have Sf5 := S.fr 5
    have Sf6 := S.fr 6
    have Sf7 := S.fr 7
    have Sf8 := S.fr 8
    go_upto_region 5 with fail
    refine wp_letter (fun W' => CellsAt W' w.heap.size (lvs i t x y A n c G m kk fp fq fs fz b) ∧ CellsAt W' (w.heap.size + 1) (stv k ax ay (-fx.tdiv 2) fy u g d o) ∧ CellsAt W' (w.heap.size + 1 + 1) (stv 0 0 0 0 0 0 0 false false) ∧ Below w.heap.size w W') ⟨P.far (by omega) _ _, S.set 3 (by simp) _, D.far (by omega) _ _, bl_set H.out _ _ _ (by omega)⟩ ?_
    clear P S D H Pc0 Pc1 Pc2 Pc3 Pc4 Pc5 Pc6 Pc7 Pc8 Pc9 Pc10 Pl Sc0 Sc1 Sc2 Sc3 Sc4 Sc5 Sc6 Sc7 Sc8 Sl Vc0 Vc1 Vl Sf0 Sf1 Sf2 Sf3 Sf4 Sf5 Sf6 Sf7 Sf8 V
    rintro w2 ⟨P, S, D, H⟩
    replace H := Lib.hid H
    have C2 := fun (W : World) (Z : Boxes W A n ws) => specFree2 i t x y A n c G m kk fp fq fs fz b ws ax (ay + fy) W Z ok (by omega) (by omega) (by omega) (by omega) hn
    cases p2 : frB ws ax (ay + fy)
    · rw [p2] at C2
      replace C2 := Lib.hid C2
      have E := Lib.hid (show mvS ws ⟨k, ax, ay, fx, fy, u, g, d, o⟩ = ⟨k, ax, ay, (-fx.tdiv 2), (-fy.tdiv 2), u, g, d, o⟩ by simp [mvS, mvA, mvF, p1, p2])
      clear p1 p2
      have Pc0 := P.cell 0 _ rfl
      have Pc1 := P.cell 1 _ rfl
      have Pc2 := P.cell 2 _ rfl
      have Pc3 := P.cell 3 _ rfl
      have Pc4 := P.cell 4 _ rfl
      have Pc5 := P.cell 5 _ rfl
      have Pc6 := P.cell 6 _ rfl
      have Pc7 := P.cell 7 _ rfl
      have Pc8 := P.cell 8 _ rfl
      have Pc9 := P.cell 9 _ rfl
      have Pc10 := P.cell 10 _ rfl
      have Pl := P.lt
      have Sc0 := S.cell 0 _ rfl
      have Sc1 := S.cell 1 _ rfl
      have Sc2 := S.cell 2 _ rfl
      have Sc3 := S.cell 3 _ rfl
      have Sc4 := S.cell 4 _ rfl
      have Sc5 := S.cell 5 _ rfl
      have Sc6 := S.cell 6 _ rfl
      have Sc7 := S.cell 7 _ rfl
      have Sc8 := S.cell 8 _ rfl
      have Sl := S.lt
      go_wp2_with fail
      refine (C2.out _ (((I.out.step H.out).alloc _))).mono ?_
      rintro e w3 ⟨rfl, B⟩
      have V : CellsAt w3 w2.heap.size [.int .i64 ax, .int .i64 (ay + fy)] := (CellsAt.new _ _ _ 24 rfl).step B
      replace P := (P.alloc _).step B
      replace S := (S.alloc _).step B
      replace D := (D.alloc _).step B
      replace H := Lib.hid (bl_trans (bl_alloc H.out _) B)
      clear B C2 Pc0 Pc1 Pc2 Pc3 Pc4 Pc5 Pc6 Pc7 Pc8 Pc9 Pc10 Pl Sc0 Sc1 Sc2 Sc3 Sc4 Sc5 Sc6 Sc7 Sc8 Sl
      have Sc0 := S.cell 0 _ rfl
      have Sc1 := S.cell 1 _ rfl
      have Sc2 := S.cell 2 _ rfl
      have Sc3 := S.cell 3 _ rfl
      have Sc4 := S.cell 4 _ rfl
      have Sc5 := S.cell 5 _ rfl
      have Sc6 := S.cell 6 _ rfl
      have Sc7 := S.cell 7 _ rfl
      have Sc8 := S.cell 8 _ rfl
      have Sl := S.lt
      have Vc0 := V.cell 0 _ rfl
      have Vc1 := V.cell 1 _ rfl
      have Vl := V.lt
      have Sf0 := S.fr 0
      have Sf1 := S.fr 1
      have Sf2 := S.fr 2
      have Sf3 := S.fr 3
      have Sf4 := S.fr 4
      have Sf5 := S.fr 5
      have Sf6 := S.fr 6
      have Sf7 := S.fr 7
      have Sf8 := S.fr 8
      go_upto_region 9 with fail
      refine wp_letter (fun W' => CellsAt W' w.heap.size (lvs i t x y A n c G m kk fp fq fs fz b) ∧ CellsAt W' (w.heap.size + 1) (stv k ax ay (-fx.tdiv 2) (-fy.tdiv 2) u g d o) ∧ CellsAt W' (w.heap.size + 1 + 1) (stv 0 0 0 0 0 0 0 false false) ∧ Below w.heap.size w W') ⟨P.far (by omega) _ _, S.set 4 (by simp) _, D.far (by omega) _ _, bl_set H.out _ _ _ (by omega)⟩ ?_
      clear P S D H Sc0 Sc1 Sc2 Sc3 Sc4 Sc5 Sc6 Sc7 Sc8 Sl Vc0 Vc1 Vl Sf0 Sf1 Sf2 Sf3 Sf4 Sf5 Sf6 Sf7 Sf8 V
      rintro w4 ⟨P, S, D, H⟩
      replace H := Lib.hid H
      refine wp_region_lit ?_
      refine load_cells rfl 31 (.tmp 3) rfl (w.heap.size + 1) rfl (stv k ax ay (-fx.tdiv 2) (-fy.tdiv 2) u g d o) S Tryd.underlying31 rfl state_size ?_
      refine store_new rfl 31 (.tmp 4) (.tmp 53) rfl (w.heap.size + 1 + 1) rfl (stv k ax ay (-fx.tdiv 2) (-fy.tdiv 2) u g d o) rfl _ D (by simp) state_size rfl ?_
      intro w5 K N
      clear P S D
      go_wp2
      exact bodyPost_ret (v := sta k ax ay (-fx.tdiv 2) (-fy.tdiv 2) u g d o) (res_cells rfl (w.heap.size + 1 + 1) rfl (stv k ax ay (-fx.tdiv 2) (-fy.tdiv 2) u g d o) N Tryd.underlying31 rfl state_size) rfl ⟨⟨_, _, _, _, E.out, rfl⟩, kp_below H.out K (by omega)⟩
    · rw [p2] at C2
      replace C2 := Lib.hid C2
      have E := Lib.hid (show mvS ws ⟨k, ax, ay, fx, fy, u, g, d, o⟩ = ⟨k, ax, (ay + fy), (-fx.tdiv 2), fy, u, g, d, o⟩ by simp [mvS, mvA, mvF, p1, p2])
      clear p1 p2
      have Pc0 := P.cell 0 _ rfl
      have Pc1 := P.cell 1 _ rfl
      have Pc2 := P.cell 2 _ rfl
      have Pc3 := P.cell 3 _ rfl
      have Pc4 := P.cell 4 _ rfl
      have Pc5 := P.cell 5 _ rfl
      have Pc6 := P.cell 6 _ rfl
      have Pc7 := P.cell 7 _ rfl
      have Pc8 := P.cell 8 _ rfl
      have Pc9 := P.cell 9 _ rfl
      have Pc10 := P.cell 10 _ rfl
      have Pl := P.lt
      have Sc0 := S.cell 0 _ rfl
      have Sc1 := S.cell 1 _ rfl
      have Sc2 := S.cell 2 _ rfl
      have Sc3 := S.cell 3 _ rfl
      have Sc4 := S.cell 4 _ rfl
      have Sc5 := S.cell 5 _ rfl
      have Sc6 := S.cell 6 _ rfl
      have Sc7 := S.cell 7 _ rfl
      have Sc8 := S.cell 8 _ rfl
      have Sl := S.lt
      go_wp2_with fail
      refine (C2.out _ (((I.out.step H.out).alloc _))).mono ?_
      rintro e w3 ⟨rfl, B⟩
      have V : CellsAt w3 w2.heap.size [.int .i64 ax, .int .i64 (ay + fy)] := (CellsAt.new _ _ _ 24 rfl).step B
      replace P := (P.alloc _).step B
      replace S := (S.alloc _).step B
      replace D := (D.alloc _).step B
      replace H := Lib.hid (bl_trans (bl_alloc H.out _) B)
      clear B C2 Pc0 Pc1 Pc2 Pc3 Pc4 Pc5 Pc6 Pc7 Pc8 Pc9 Pc10 Pl Sc0 Sc1 Sc2 Sc3 Sc4 Sc5 Sc6 Sc7 Sc8 Sl
      have Sc0 := S.cell 0 _ rfl
      have Sc1 := S.cell 1 _ rfl
      have Sc2 := S.cell 2 _ rfl
      have Sc3 := S.cell 3 _ rfl
      have Sc4 := S.cell 4 _ rfl
      have Sc5 := S.cell 5 _ rfl
      have Sc6 := S.cell 6 _ rfl
      have Sc7 := S.cell 7 _ rfl
      have Sc8 := S.cell 8 _ rfl
      have Sl := S.lt
      have Vc0 := V.cell 0 _ rfl
      have Vc1 := V.cell 1 _ rfl
      have Vl := V.lt
      have Sf0 := S.fr 0
      have Sf1 := S.fr 1
      have Sf2 := S.fr 2
      have Sf3 := S.fr 3
      have Sf4 := S.fr 4
      have Sf5 := S.fr 5
      have Sf6 := S.fr 6
      have Sf7 := S.fr 7
      have Sf8 := S.fr 8
      go_upto_region 9 with fail
      refine wp_letter (fun W' => CellsAt W' w.heap.size (lvs i t x y A n c G m kk fp fq fs fz b) ∧ CellsAt W' (w.heap.size + 1) (stv k ax (ay + fy) (-fx.tdiv 2) fy u g d o) ∧ CellsAt W' (w.heap.size + 1 + 1) (stv 0 0 0 0 0 0 0 false false) ∧ Below w.heap.size w W') ⟨(P.far (by omega) _ _).far (by omega) _ _, (S.set 1 (by simp) _).set 2 (by simp) _, (D.far (by omega) _ _).far (by omega) _ _, bl_set (bl_set H.out _ _ _ (by omega)) _ _ _ (by omega)⟩ ?_
      clear P S D H Sc0 Sc1 Sc2 Sc3 Sc4 Sc5 Sc6 Sc7 Sc8 Sl Vc0 Vc1 Vl Sf0 Sf1 Sf2 Sf3 Sf4 Sf5 Sf6 Sf7 Sf8 V
      rintro w4 ⟨P, S, D, H⟩
      replace H := Lib.hid H
      refine wp_region_lit ?_
      refine load_cells rfl 31 (.tmp 3) rfl (w.heap.size + 1) rfl (stv k ax (ay + fy) (-fx.tdiv 2) fy u g d o) S Tryd.underlying31 rfl state_size ?_
      refine store_new rfl 31 (.tmp 4) (.tmp 53) rfl (w.heap.size + 1 + 1) rfl (stv k ax (ay + fy) (-fx.tdiv 2) fy u g d o) rfl _ D (by simp) state_size rfl ?_
      intro w5 K N
      clear P S D
      go_wp2
      exact bodyPost_ret (v := sta k ax (ay + fy) (-fx.tdiv 2) fy u g d o) (res_cells rfl (w.heap.size + 1 + 1) rfl (stv k ax (ay + fy) (-fx.tdiv 2) fy u g d o) N Tryd.underlying31 rfl state_size) rfl ⟨⟨_, _, _, _, E.out, rfl⟩, kp_below H.out K (by omega)⟩
  rw [p1] at C1
  replace C1 := Lib.hid C1
  have Pc0 := P.cell 0 _ rfl
  have Pc1 := P.cell 1 _ rfl
  have Pc2 := P.cell 2 _ rfl
  have Pc3 := P.cell 3 _ rfl
  have Pc4 := P.cell 4 _ rfl
  have Pc5 := P.cell 5 _ rfl
  have Pc6 := P.cell 6 _ rfl
  have Pc7 := P.cell 7 _ rfl
  have Pc8 := P.cell 8 _ rfl
  have Pc9 := P.cell 9 _ rfl
  have Pc10 := P.cell 10 _ rfl
  have Pl := P.lt
  have Sc0 := S.cell 0 _ rfl
  have Sc1 := S.cell 1 _ rfl
  have Sc2 := S.cell 2 _ rfl
  have Sc3 := S.cell 3 _ rfl
  have Sc4 := S.cell 4 _ rfl
  have Sc5 := S.cell 5 _ rfl
  have Sc6 := S.cell 6 _ rfl
  have Sc7 := S.cell 7 _ rfl
  have Sc8 := S.cell 8 _ rfl
  have Sl := S.lt
  go_enter Tryd.func109, Tryd.ntmps109
  go_wp2_with fail
  refine (C1.out _ (((I.out.step H.out).alloc _))).mono ?_
  rintro e w1 ⟨rfl, B⟩
  have V : CellsAt w1 (w.heap.size + 1 + 1 + 1) [.int .i64 (ax + fx), .int .i64 ay] := (CellsAt.new _ _ _ 24 (by simp)).step B
  replace P := (P.alloc _).step B
  replace S := (S.alloc _).step B
  replace D := (D.alloc _).step B
  replace H := Lib.hid (bl_trans (bl_alloc H.out _) B)
  clear B C1 Pc0 Pc1 Pc2 Pc3 Pc4 Pc5 Pc6 Pc7 Pc8 Pc9 Pc10 Pl Sc0 Sc1 Sc2 Sc3 Sc4 Sc5 Sc6 Sc7 Sc8 Sl
  have Pc0 := P.cell 0 _ rfl
  have Pc1 := P.cell 1 _ rfl
  have Pc2 := P.cell 2 _ rfl
  have Pc3 := P.cell 3 _ rfl
  have Pc4 := P.cell 4 _ rfl
  have Pc5 := P.cell 5 _ rfl
  have Pc6 := P.cell 6 _ rfl
  have Pc7 := P.cell 7 _ rfl
  have Pc8 := P.cell 8 _ rfl
  have Pc9 := P.cell 9 _ rfl
  have Pc10 := P.cell 10 _ rfl
  have Pl := P.lt
  have Sc0 := S.cell 0 _ rfl
  have Sc1 := S.cell 1 _ rfl
  have Sc2 := S.cell 2 _ rfl
  have Sc3 := S.cell 3 _ rfl
  have Sc4 := S.cell 4 _ rfl
  have Sc5 := S.cell 5 _ rfl
  have Sc6 := S.cell 6 _ rfl
  have Sc7 := S.cell 7 _ rfl
  have Sc8 := S.cell 8 _ rfl
  have Sl := S.lt
  have Vc0 := V.cell 0 _ rfl
  have Vc1 := V.cell 1 _ rfl
  have Vl := V.lt
  have Sf0 := S.fr 0
  have Sf1 := S.fr 1
  have Sf2 := S.fr 2
  have Sf3 := S.fr 3
  have Sf4 := S.fr 4
  have Sf5 := S.fr 5
  have Sf6 := S.fr 6
  have Sf7 := S.fr 7
  have Sf8 := S.fr 8
  go_upto_region 5 with fail
  refine wp_letter (fun W' => CellsAt W' w.heap.size (lvs i t x y A n c G m kk fp fq fs fz b) ∧ CellsAt W' (w.heap.size + 1) (stv k (ax + fx) ay fx fy u g d o) ∧ CellsAt W' (w.heap.size + 1 + 1) (stv 0 0 0 0 0 0 0 false false) ∧ Below w.heap.size w W') ⟨(P.far (by omega) _ _).far (by omega) _ _, (S.set 1 (by simp) _).set 2 (by simp) _, (D.far (by omega) _ _).far (by omega) _ _, bl_set (bl_set H.out _ _ _ (by omega)) _ _ _ (by omega)⟩ ?_
  clear P S D H Pc0 Pc1 Pc2 Pc3 Pc4 Pc5 Pc6 Pc7 Pc8 Pc9 Pc10 Pl Sc0 Sc1 Sc2 Sc3 Sc4 Sc5 Sc6 Sc7 Sc8 Sl Vc0 Vc1 Vl Sf0 Sf1 Sf2 Sf3 Sf4 Sf5 Sf6 Sf7 Sf8 V
  rintro w2 ⟨P, S, D, H⟩
  replace H := Lib.hid H
  have C2 := fun (W : World) (Z : Boxes W A n ws) => specFree2 i t x y A n c G m kk fp fq fs fz b ws (ax + fx) (ay + fy) W Z ok (by omega) (by omega) (by omega) (by omega) hn
  cases p2 : frB ws (ax + fx) (ay + fy)
  · rw [p2] at C2
    replace C2 := Lib.hid C2
    have E := Lib.hid (show mvS ws ⟨k, ax, ay, fx, fy, u, g, d, o⟩ = ⟨k, (ax + fx), ay, fx, (-fy.tdiv 2), u, g, d, o⟩ by simp [mvS, mvA, mvF, p1, p2])
    clear p1 p2
    have Pc0 := P.cell 0 _ rfl
    have Pc1 := P.cell 1 _ rfl
    have Pc2 := P.cell 2 _ rfl
    have Pc3 := P.cell 3 _ rfl
    have Pc4 := P.cell 4 _ rfl
    have Pc5 := P.cell 5 _ rfl
    have Pc6 := P.cell 6 _ rfl
    have Pc7 := P.cell 7 _ rfl
    have Pc8 := P.cell 8 _ rfl
    have Pc9 := P.cell 9 _ rfl
    have Pc10 := P.cell 10 _ rfl
    have Pl := P.lt
    have Sc0 := S.cell 0 _ rfl
    have Sc1 := S.cell 1 _ rfl
    have Sc2 := S.cell 2 _ rfl
    have Sc3 := S.cell 3 _ rfl
    have Sc4 := S.cell 4 _ rfl
    have Sc5 := S.cell 5 _ rfl
    have Sc6 := S.cell 6 _ rfl
    have Sc7 := S.cell 7 _ rfl
    have Sc8 := S.cell 8 _ rfl
    have Sl := S.lt
    go_wp2_with fail
    refine (C2.out _ (((I.out.step H.out).alloc _))).mono ?_
    rintro e w3 ⟨rfl, B⟩
    have V : CellsAt w3 w2.heap.size [.int .i64 (ax + fx), .int .i64 (ay + fy)] := (CellsAt.new _ _ _ 24 rfl).step B
    replace P := (P.alloc _).step B
    replace S := (S.alloc _).step B
    replace D := (D.alloc _).step B
    replace H := Lib.hid (bl_trans (bl_alloc H.out _) B)
    clear B C2 Pc0 Pc1 Pc2 Pc3 Pc4 Pc5 Pc6 Pc7 Pc8 Pc9 Pc10 Pl Sc0 Sc1 Sc2 Sc3 Sc4 Sc5 Sc6 Sc7 Sc8 Sl
    have Sc0 := S.cell 0 _ rfl
    have Sc1 := S.cell 1 _ rfl
    have Sc2 := S.cell 2 _ rfl
    have Sc3 := S.cell 3 _ rfl
    have Sc4 := S.cell 4 _ rfl
    have Sc5 := S.cell 5 _ rfl
    have Sc6 := S.cell 6 _ rfl
    have Sc7 := S.cell 7 _ rfl
    have Sc8 := S.cell 8 _ rfl
    have Sl := S.lt
    have Vc0 := V.cell 0 _ rfl
    have Vc1 := V.cell 1 _ rfl
    have Vl := V.lt
    have Sf0 := S.fr 0
    have Sf1 := S.fr 1
    have Sf2 := S.fr 2
    have Sf3 := S.fr 3
    have Sf4 := S.fr 4
    have Sf5 := S.fr 5
    have Sf6 := S.fr 6
    have Sf7 := S.fr 7
    have Sf8 := S.fr 8
    go_upto_region 9 with fail
    refine wp_letter (fun W' => CellsAt W' w.heap.size (lvs i t x y A n c G m kk fp fq fs fz b) ∧ CellsAt W' (w.heap.size + 1) (stv k (ax + fx) ay fx (-fy.tdiv 2) u g d o) ∧ CellsAt W' (w.heap.size + 1 + 1) (stv 0 0 0 0 0 0 0 false false) ∧ Below w.heap.size w W') ⟨P.far (by omega) _ _, S.set 4 (by simp) _, D.far (by omega) _ _, bl_set H.out _ _ _ (by omega)⟩ ?_
    clear P S D H Sc0 Sc1 Sc2 Sc3 Sc4 Sc5 Sc6 Sc7 Sc8 Sl Vc0 Vc1 Vl Sf0 Sf1 Sf2 Sf3 Sf4 Sf5 Sf6 Sf7 Sf8 V
    rintro w4 ⟨P, S, D, H⟩
    replace H := Lib.hid H
    refine wp_region_lit ?_
    refine load_cells rfl 31 (.tmp 3) rfl (w.heap.size + 1) rfl (stv k (ax + fx) ay fx (-fy.tdiv 2) u g d o) S Tryd.underlying31 rfl state_size ?_
    refine store_new rfl 31 (.tmp 4) (.tmp 53) rfl (w.heap.size + 1 + 1) rfl (stv k (ax + fx) ay fx (-fy.tdiv 2) u g d o) rfl _ D (by simp) state_size rfl ?_
    intro w5 K N
    clear P S D
    go_wp2
    exact bodyPost_ret (v := sta k (ax + fx) ay fx (-fy.tdiv 2) u g d o) (res_cells rfl (w.heap.size + 1 + 1) rfl (stv k (ax + fx) ay fx (-fy.tdiv 2) u g d o) N Tryd.underlying31 rfl state_size) rfl ⟨⟨_, _, _, _, E.out, rfl⟩, kp_below H.out K (by omega)⟩
  · rw [p2] at C2
    replace C2 := Lib.hid C2
    have E := Lib.hid (show mvS ws ⟨k, ax, ay, fx, fy, u, g, d, o⟩ = ⟨k, (ax + fx), (ay + fy), fx, fy, u, g, d, o⟩ by simp [mvS, mvA, mvF, p1, p2])
    clear p1 p2
    have Pc0 := P.cell 0 _ rfl
    have Pc1 := P.cell 1 _ rfl
    have Pc2 := P.cell 2 _ rfl
    have Pc3 := P.cell 3 _ rfl
    have Pc4 := P.cell 4 _ rfl
    have Pc5 := P.cell 5 _ rfl
    have Pc6 := P.cell 6 _ rfl
    have Pc7 := P.cell 7 _ rfl
    have Pc8 := P.cell 8 _ rfl
    have Pc9 := P.cell 9 _ rfl
    have Pc10 := P.cell 10 _ rfl
    have Pl := P.lt
    have Sc0 := S.cell 0 _ rfl
    have Sc1 := S.cell 1 _ rfl
    have Sc2 := S.cell 2 _ rfl
    have Sc3 := S.cell 3 _ rfl
    have Sc4 := S.cell 4 _ rfl
    have Sc5 := S.cell 5 _ rfl
    have Sc6 := S.cell 6 _ rfl
    have Sc7 := S.cell 7 _ rfl
    have Sc8 := S.cell 8 _ rfl
    have Sl := S.lt
    go_wp2_with fail
    refine (C2.out _ (((I.out.step H.out).alloc _))).mono ?_
    rintro e w3 ⟨rfl, B⟩
    have V : CellsAt w3 w2.heap.size [.int .i64 (ax + fx), .int .i64 (ay + fy)] := (CellsAt.new _ _ _ 24 rfl).step B
    replace P := (P.alloc _).step B
    replace S := (S.alloc _).step B
    replace D := (D.alloc _).step B
    replace H := Lib.hid (bl_trans (bl_alloc H.out _) B)
    clear B C2 Pc0 Pc1 Pc2 Pc3 Pc4 Pc5 Pc6 Pc7 Pc8 Pc9 Pc10 Pl Sc0 Sc1 Sc2 Sc3 Sc4 Sc5 Sc6 Sc7 Sc8 Sl
    have Sc0 := S.cell 0 _ rfl
    have Sc1 := S.cell 1 _ rfl
    have Sc2 := S.cell 2 _ rfl
    have Sc3 := S.cell 3 _ rfl
    have Sc4 := S.cell 4 _ rfl
    have Sc5 := S.cell 5 _ rfl
    have Sc6 := S.cell 6 _ rfl
    have Sc7 := S.cell 7 _ rfl
    have Sc8 := S.cell 8 _ rfl
    have Sl := S.lt
    have Vc0 := V.cell 0 _ rfl
    have Vc1 := V.cell 1 _ rfl
    have Vl := V.lt
    have Sf0 := S.fr 0
    have Sf1 := S.fr 1
    have Sf2 := S.fr 2
    have Sf3 := S.fr 3
    have Sf4 := S.fr 4
    have Sf5 := S.fr 5
    have Sf6 := S.fr 6
    have Sf7 := S.fr 7
    have Sf8 := S.fr 8
    go_upto_region 9 with fail
    refine wp_letter (fun W' => CellsAt W' w.heap.size (lvs i t x y A n c G m kk fp fq fs fz b) ∧ CellsAt W' (w.heap.size + 1) (stv k (ax + fx) (ay + fy) fx fy u g d o) ∧ CellsAt W' (w.heap.size + 1 + 1) (stv 0 0 0 0 0 0 0 false false) ∧ Below w.heap.size w W') ⟨(P.far (by omega) _ _).far (by omega) _ _, (S.set 1 (by simp) _).set 2 (by simp) _, (D.far (by omega) _ _).far (by omega) _ _, bl_set (bl_set H.out _ _ _ (by omega)) _ _ _ (by omega)⟩ ?_
    clear P S D H Sc0 Sc1 Sc2 Sc3 Sc4 Sc5 Sc6 Sc7 Sc8 Sl Vc0 Vc1 Vl Sf0 Sf1 Sf2 Sf3 Sf4 Sf5 Sf6 Sf7 Sf8 V
    rintro w4 ⟨P, S, D, H⟩
    replace H := Lib.hid H
    refine wp_region_lit ?_
    refine load_cells rfl 31 (.tmp 3) rfl (w.heap.size + 1) rfl (stv k (ax + fx) (ay + fy) fx fy u g d o) S Tryd.underlying31 rfl state_size ?_
    refine store_new rfl 31 (.tmp 4) (.tmp 53) rfl (w.heap.size + 1 + 1) rfl (stv k (ax + fx) (ay + fy) fx fy u g d o) rfl _ D (by simp) state_size rfl ?_
    intro w5 K N
    clear P S D
    go_wp2
    exact bodyPost_ret (v := sta k (ax + fx) (ay + fy) fx fy u g d o) (res_cells rfl (w.heap.size + 1 + 1) rfl (stv k (ax + fx) (ay + fy) fx fy u g d o) N Tryd.underlying31 rfl state_size) rfl ⟨⟨_, _, _, _, E.out, rfl⟩, kp_below H.out K (by omega)⟩

end Go.Proofs.YtnoenjociioffaaDoor
