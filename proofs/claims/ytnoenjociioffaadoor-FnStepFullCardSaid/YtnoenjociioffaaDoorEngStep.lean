/-
  What the model's EngineStep returns, at every argument.
-/
import Derived.Test.YtnoenjociioffaaDoorEngVal
namespace Go.Proofs.YtnoenjociioffaaDoor
open Go.RowKit
open M

/-- A tick is possible. -/
def M.eoB (i t x y : Int) (ws gs : List Bx) (fp fq fs fz b : Int) (k ax ay fx fy u g : Int) (d o : Bool) (s p : Int) (z : Bool) : Bool := evB i t x y ws gs fp fq fs fz b k ax ay fx fy u g d o && (inV s p z && !(decide (t ≤ k) && (!d && !o)))
def M.esS (i t x y : Int) (ws gs : List Bx) (fp fq fs fz b : Int) (k ax ay fx fy u g : Int) (d o : Bool) (s p : Int) (z : Bool) : St := if eoB i t x y ws gs fp fq fs fz b k ax ay fx fy u g d o s p z then stS ws gs fp fq fs fz ⟨k, ax, ay, fx, fy, u, g, d, o⟩ ⟨s, p, z⟩ else ⟨0, 0, 0, 0, 0, 0, 0, false, false⟩
theorem ev_all {i t x y : Int} {ws gs : List Bx} {fp fq fs fz b : Int} {k ax ay fx fy u g : Int} {d o : Bool} (h : evB i t x y ws gs fp fq fs fz b k ax ay fx fy u g d o = true) : lvB i t x y ws gs fp fq fs fz b = true ∧ ownB k ax ay fx fy u g d o = true ∧ g ≤ gs.length ∧ frB ws ax ay = true := by
  simp only [evB, Bool.and_eq_true, decide_eq_true_eq] at h
  exact ⟨h.1, h.2.1, h.2.2.2.1, h.2.2.2.2.1⟩
theorem ev_st {i t x y : Int} {ws gs : List Bx} {fp fq fs fz b : Int} {k ax ay fx fy u g : Int} {d o : Bool} {m : Nat} (h : evB i t x y ws gs fp fq fs fz b k ax ay fx fy u g d o = true) (hm : gs.length = m) : StB m ⟨k, ax, ay, fx, fy, u, g, d, o⟩ := by
  obtain ⟨_, h2, h3, _⟩ := ev_all h
  have h2' := h2
  simp only [ownB, Bool.and_eq_true, decide_eq_true_eq] at h2
  obtain ⟨k1, a1, f1, l1, u1, g1, _⟩ := h2
  obtain ⟨q, e, _, m1, m2, _⟩ := vl_side f1
  rw [vl_yes f1] at e
  have k2 : 0 ≤ k ∧ k ≤ 60 := by simpa [inB] using k1
  have u2 : 0 ≤ u ∧ u ≤ 15 := by simpa [inB] using u1
  have g2 : 0 ≤ g ∧ g ≤ 3 := by simpa [inB] using g1
  exact ⟨(vok_iff ax ay).1 a1, ⟨⟨by show -2000 ≤ fx; omega, by show fx ≤ 2000; omega⟩, by show -2000 ≤ fy; omega, by show fy ≤ 2000; omega⟩, u2, ⟨g2.1, by show g ≤ (m : Int); omega⟩, by show 0 ≤ k; omega, by show k ≤ 1000000; omega⟩

set_option maxRecDepth 100000 in
set_option maxHeartbeats 4000000 in
theorem specEStep (i t x y : Int) (A : Option Addr) (n c : Nat) (G : Option Addr) (m kk : Nat) (fp fq fs fz b : Int) (ws gs : List Bx) (k ax ay fx fy u g : Int) (d o : Bool) (s p : Int) (z : Bool) (w : World) (I : Boxes w A n ws) (J : Boxes w G m gs) (hn : n ≤ 281474976710656) (hm : m ≤ 281474976710656) : Calls Tryd.prog 21 #[lev i t x y A n c G m kk fp fq fs fz b, sta k ax ay fx fy u g d o, inp s p z] w fun e w' => (∃ K X Y P Q U V D O, esS i t x y ws gs fp fq fs fz b k ax ay fx fy u g d o s p z = ⟨K, X, Y, P, Q, U, V, D, O⟩ ∧ e = .returned (.tuple #[sta K X Y P Q U V D O, .bool (eoB i t x y ws gs fp fq fs fz b k ax ay fx fy u g d o s p z)])) ∧ Below w.heap.size w w' := by
  have gl : gs.length = m := J.1
  have V := fun (W : World) (Z : Boxes W A n ws) (Y : Boxes W G m gs) => specEValid i t x y A n c G m kk fp fq fs fz b ws gs k ax ay fx fy u g d o W Z Y hn hm
  have U := fun W => specIValid s p z W
  have I := Lib.hid I
  have J := Lib.hid J
  cases h1 : evB i t x y ws gs fp fq fs fz b k ax ay fx fy u g d o
  · rw [h1] at V
    have V := Lib.hid V
    have E0 : eoB i t x y ws gs fp fq fs fz b k ax ay fx fy u g d o s p z = false := by simp [eoB, h1]
    have ES := Lib.hid (show esS i t x y ws gs fp fq fs fz b k ax ay fx fy u g d o s p z = ⟨0, 0, 0, 0, 0, 0, 0, false, false⟩ by simp [esS, E0])
    have E := Lib.hid E0
    clear E0
    clear U h1 gl
    have L : CellsAt ((((w.alloc (.cells #[.int .i64 i, .int .i64 t, .int .i64 x, .int .i64 y, .slice A n c, .slice G m kk, .int .i64 fp, .int .i64 fq, .int .i64 fs, .int .i64 fz, .int .i64 b] 29)).alloc (.cells #[.int .i64 k, .int .i64 ax, .int .i64 ay, .int .i64 fx, .int .i64 fy, .int .i64 u, .int .i64 g, .bool d, .bool o] 31)).alloc (.cells #[.int .i64 s, .int .i64 p, .bool z] 33)).alloc (.cells #[.int .i64 0, .int .i64 0, .int .i64 0, .int .i64 0, .int .i64 0, .int .i64 0, .int .i64 0, .bool false, .bool false] 31)) w.heap.size (lvs i t x y A n c G m kk fp fq fs fz b) := (((CellsAt.new w _ _ _ rfl).alloc _).alloc _).alloc _
    have S : CellsAt ((((w.alloc (.cells #[.int .i64 i, .int .i64 t, .int .i64 x, .int .i64 y, .slice A n c, .slice G m kk, .int .i64 fp, .int .i64 fq, .int .i64 fs, .int .i64 fz, .int .i64 b] 29)).alloc (.cells #[.int .i64 k, .int .i64 ax, .int .i64 ay, .int .i64 fx, .int .i64 fy, .int .i64 u, .int .i64 g, .bool d, .bool o] 31)).alloc (.cells #[.int .i64 s, .int .i64 p, .bool z] 33)).alloc (.cells #[.int .i64 0, .int .i64 0, .int .i64 0, .int .i64 0, .int .i64 0, .int .i64 0, .int .i64 0, .bool false, .bool false] 31)) (w.heap.size + 1) (stv k ax ay fx fy u g d o) := ((CellsAt.new _ _ _ _ (by simp)).alloc _).alloc _
    have X : CellsAt ((((w.alloc (.cells #[.int .i64 i, .int .i64 t, .int .i64 x, .int .i64 y, .slice A n c, .slice G m kk, .int .i64 fp, .int .i64 fq, .int .i64 fs, .int .i64 fz, .int .i64 b] 29)).alloc (.cells #[.int .i64 k, .int .i64 ax, .int .i64 ay, .int .i64 fx, .int .i64 fy, .int .i64 u, .int .i64 g, .bool d, .bool o] 31)).alloc (.cells #[.int .i64 s, .int .i64 p, .bool z] 33)).alloc (.cells #[.int .i64 0, .int .i64 0, .int .i64 0, .int .i64 0, .int .i64 0, .int .i64 0, .int .i64 0, .bool false, .bool false] 31)) (w.heap.size + 1 + 1) (ins s p z) := (CellsAt.new _ _ _ _ (by simp)).alloc _
    have D : CellsAt ((((w.alloc (.cells #[.int .i64 i, .int .i64 t, .int .i64 x, .int .i64 y, .slice A n c, .slice G m kk, .int .i64 fp, .int .i64 fq, .int .i64 fs, .int .i64 fz, .int .i64 b] 29)).alloc (.cells #[.int .i64 k, .int .i64 ax, .int .i64 ay, .int .i64 fx, .int .i64 fy, .int .i64 u, .int .i64 g, .bool d, .bool o] 31)).alloc (.cells #[.int .i64 s, .int .i64 p, .bool z] 33)).alloc (.cells #[.int .i64 0, .int .i64 0, .int .i64 0, .int .i64 0, .int .i64 0, .int .i64 0, .int .i64 0, .bool false, .bool false] 31)) (w.heap.size + 1 + 1 + 1) (stv 0 0 0 0 0 0 0 false false) := CellsAt.new _ _ _ _ (by simp)
    have H := Lib.hid (bl_alloc (bl_alloc (bl_alloc (bl_alloc (bl_refl w) (.cells #[.int .i64 i, .int .i64 t, .int .i64 x, .int .i64 y, .slice A n c, .slice G m kk, .int .i64 fp, .int .i64 fq, .int .i64 fs, .int .i64 fz, .int .i64 b] 29)) (.cells #[.int .i64 k, .int .i64 ax, .int .i64 ay, .int .i64 fx, .int .i64 fy, .int .i64 u, .int .i64 g, .bool d, .bool o] 31)) (.cells #[.int .i64 s, .int .i64 p, .bool z] 33)) (.cells #[.int .i64 0, .int .i64 0, .int .i64 0, .int .i64 0, .int .i64 0, .int .i64 0, .int .i64 0, .bool false, .bool false] 31))
    replace I := Lib.hid (I.out.step H.out)
    replace J := Lib.hid (J.out.step H.out)
    go_enter Tryd.func21, Tryd.ntmps21
    have Lc0 := L.cell 0 _ rfl
    have Lc1 := L.cell 1 _ rfl
    have Lc2 := L.cell 2 _ rfl
    have Lc3 := L.cell 3 _ rfl
    have Lc4 := L.cell 4 _ rfl
    have Lc5 := L.cell 5 _ rfl
    have Lc6 := L.cell 6 _ rfl
    have Lc7 := L.cell 7 _ rfl
    have Lc8 := L.cell 8 _ rfl
    have Lc9 := L.cell 9 _ rfl
    have Lc10 := L.cell 10 _ rfl
    have Ll := L.lt
    have Sc0 := S.cell 0 _ rfl
    have Sc1 := S.cell 1 _ rfl
    have Sc2 := S.cell 2 _ rfl
    have Sc3 := S.cell 3 _ rfl
    have Sc4 := S.cell 4 _ rfl
    have Sc5 := S.cell 5 _ rfl
    have Sc6 := S.cell 6 _ rfl
    have Sc7 := S.cell 7 _ rfl
    have Sc8 := S.cell 8 _ rfl
    have Sl := S.lt
    have Xc0 := X.cell 0 _ rfl
    have Xc1 := X.cell 1 _ rfl
    have Xc2 := X.cell 2 _ rfl
    have Xl := X.lt
    go_wp2_with fail
    refine (V.out _ I.out J.out).mono ?_
    rintro e w1 ⟨rfl, B⟩
    clear Lc0 Lc1 Lc2 Lc3 Lc4 Lc5 Lc6 Lc7 Lc8 Lc9 Lc10 Ll Sc0 Sc1 Sc2 Sc3 Sc4 Sc5 Sc6 Sc7 Sc8 Sl Xc0 Xc1 Xc2 Xl
    replace D := D.step B
    replace L := L.step B
    replace S := S.step B
    replace X := X.step B
    replace I := Lib.hid (I.out.step B)
    replace J := Lib.hid (J.out.step B)
    replace H := Lib.hid (bl_trans H.out B)
    clear B
    have Lc0 := L.cell 0 _ rfl
    have Lc1 := L.cell 1 _ rfl
    have Lc2 := L.cell 2 _ rfl
    have Lc3 := L.cell 3 _ rfl
    have Lc4 := L.cell 4 _ rfl
    have Lc5 := L.cell 5 _ rfl
    have Lc6 := L.cell 6 _ rfl
    have Lc7 := L.cell 7 _ rfl
    have Lc8 := L.cell 8 _ rfl
    have Lc9 := L.cell 9 _ rfl
    have Lc10 := L.cell 10 _ rfl
    have Ll := L.lt
    have Sc0 := S.cell 0 _ rfl
    have Sc1 := S.cell 1 _ rfl
    have Sc2 := S.cell 2 _ rfl
    have Sc3 := S.cell 3 _ rfl
    have Sc4 := S.cell 4 _ rfl
    have Sc5 := S.cell 5 _ rfl
    have Sc6 := S.cell 6 _ rfl
    have Sc7 := S.cell 7 _ rfl
    have Sc8 := S.cell 8 _ rfl
    have Sl := S.lt
    have Xc0 := X.cell 0 _ rfl
    have Xc1 := X.cell 1 _ rfl
    have Xc2 := X.cell 2 _ rfl
    have Xl := X.lt
    go_upto_region 2 with fail
    clear Lc0 Lc1 Lc2 Lc3 Lc4 Lc5 Lc6 Lc7 Lc8 Lc9 Lc10 Ll Sc0 Sc1 Sc2 Sc3 Sc4 Sc5 Sc6 Sc7 Sc8 Sl Xc0 Xc1 Xc2 Xl
    go_wp2_with (refine store_new rfl 31 (.tmp 6) (.tmp 34) rfl (w.heap.size + 1 + 1 + 1) rfl (stv 0 0 0 0 0 0 0 false false) rfl _ D (by simp) state_size rfl ?_)
    intro wz K N
    go_wp2
    exact bodyPost_ret (v := .tuple #[sta 0 0 0 0 0 0 0 false false, .bool false]) (res_cells_tmp rfl (w.heap.size + 1 + 1 + 1) rfl (stv 0 0 0 0 0 0 0 false false) N (.bool false) rfl Tryd.underlying31 rfl state_size) rfl ⟨⟨_, _, _, _, _, _, _, _, _, ES.out, by rw [E.out]⟩, kp_below H.out K (by omega)⟩
  cases h2 : inV s p z
  · rw [h1] at V
    rw [h2] at U
    have V := Lib.hid V
    have U := Lib.hid U
    have E0 : eoB i t x y ws gs fp fq fs fz b k ax ay fx fy u g d o s p z = false := by simp [eoB, h2]
    have ES := Lib.hid (show esS i t x y ws gs fp fq fs fz b k ax ay fx fy u g d o s p z = ⟨0, 0, 0, 0, 0, 0, 0, false, false⟩ by simp [esS, E0])
    have E := Lib.hid E0
    clear E0
    clear h1 h2 gl
    have L : CellsAt ((((w.alloc (.cells #[.int .i64 i, .int .i64 t, .int .i64 x, .int .i64 y, .slice A n c, .slice G m kk, .int .i64 fp, .int .i64 fq, .int .i64 fs, .int .i64 fz, .int .i64 b] 29)).alloc (.cells #[.int .i64 k, .int .i64 ax, .int .i64 ay, .int .i64 fx, .int .i64 fy, .int .i64 u, .int .i64 g, .bool d, .bool o] 31)).alloc (.cells #[.int .i64 s, .int .i64 p, .bool z] 33)).alloc (.cells #[.int .i64 0, .int .i64 0, .int .i64 0, .int .i64 0, .int .i64 0, .int .i64 0, .int .i64 0, .bool false, .bool false] 31)) w.heap.size (lvs i t x y A n c G m kk fp fq fs fz b) := (((CellsAt.new w _ _ _ rfl).alloc _).alloc _).alloc _
    have S : CellsAt ((((w.alloc (.cells #[.int .i64 i, .int .i64 t, .int .i64 x, .int .i64 y, .slice A n c, .slice G m kk, .int .i64 fp, .int .i64 fq, .int .i64 fs, .int .i64 fz, .int .i64 b] 29)).alloc (.cells #[.int .i64 k, .int .i64 ax, .int .i64 ay, .int .i64 fx, .int .i64 fy, .int .i64 u, .int .i64 g, .bool d, .bool o] 31)).alloc (.cells #[.int .i64 s, .int .i64 p, .bool z] 33)).alloc (.cells #[.int .i64 0, .int .i64 0, .int .i64 0, .int .i64 0, .int .i64 0, .int .i64 0, .int .i64 0, .bool false, .bool false] 31)) (w.heap.size + 1) (stv k ax ay fx fy u g d o) := ((CellsAt.new _ _ _ _ (by simp)).alloc _).alloc _
    have X : CellsAt ((((w.alloc (.cells #[.int .i64 i, .int .i64 t, .int .i64 x, .int .i64 y, .slice A n c, .slice G m kk, .int .i64 fp, .int .i64 fq, .int .i64 fs, .int .i64 fz, .int .i64 b] 29)).alloc (.cells #[.int .i64 k, .int .i64 ax, .int .i64 ay, .int .i64 fx, .int .i64 fy, .int .i64 u, .int .i64 g, .bool d, .bool o] 31)).alloc (.cells #[.int .i64 s, .int .i64 p, .bool z] 33)).alloc (.cells #[.int .i64 0, .int .i64 0, .int .i64 0, .int .i64 0, .int .i64 0, .int .i64 0, .int .i64 0, .bool false, .bool false] 31)) (w.heap.size + 1 + 1) (ins s p z) := (CellsAt.new _ _ _ _ (by simp)).alloc _
    have D : CellsAt ((((w.alloc (.cells #[.int .i64 i, .int .i64 t, .int .i64 x, .int .i64 y, .slice A n c, .slice G m kk, .int .i64 fp, .int .i64 fq, .int .i64 fs, .int .i64 fz, .int .i64 b] 29)).alloc (.cells #[.int .i64 k, .int .i64 ax, .int .i64 ay, .int .i64 fx, .int .i64 fy, .int .i64 u, .int .i64 g, .bool d, .bool o] 31)).alloc (.cells #[.int .i64 s, .int .i64 p, .bool z] 33)).alloc (.cells #[.int .i64 0, .int .i64 0, .int .i64 0, .int .i64 0, .int .i64 0, .int .i64 0, .int .i64 0, .bool false, .bool false] 31)) (w.heap.size + 1 + 1 + 1) (stv 0 0 0 0 0 0 0 false false) := CellsAt.new _ _ _ _ (by simp)
    have H := Lib.hid (bl_alloc (bl_alloc (bl_alloc (bl_alloc (bl_refl w) (.cells #[.int .i64 i, .int .i64 t, .int .i64 x, .int .i64 y, .slice A n c, .slice G m kk, .int .i64 fp, .int .i64 fq, .int .i64 fs, .int .i64 fz, .int .i64 b] 29)) (.cells #[.int .i64 k, .int .i64 ax, .int .i64 ay, .int .i64 fx, .int .i64 fy, .int .i64 u, .int .i64 g, .bool d, .bool o] 31)) (.cells #[.int .i64 s, .int .i64 p, .bool z] 33)) (.cells #[.int .i64 0, .int .i64 0, .int .i64 0, .int .i64 0, .int .i64 0, .int .i64 0, .int .i64 0, .bool false, .bool false] 31))
    replace I := Lib.hid (I.out.step H.out)
    replace J := Lib.hid (J.out.step H.out)
    go_enter Tryd.func21, Tryd.ntmps21
    have Lc0 := L.cell 0 _ rfl
    have Lc1 := L.cell 1 _ rfl
    have Lc2 := L.cell 2 _ rfl
    have Lc3 := L.cell 3 _ rfl
    have Lc4 := L.cell 4 _ rfl
    have Lc5 := L.cell 5 _ rfl
    have Lc6 := L.cell 6 _ rfl
    have Lc7 := L.cell 7 _ rfl
    have Lc8 := L.cell 8 _ rfl
    have Lc9 := L.cell 9 _ rfl
    have Lc10 := L.cell 10 _ rfl
    have Ll := L.lt
    have Sc0 := S.cell 0 _ rfl
    have Sc1 := S.cell 1 _ rfl
    have Sc2 := S.cell 2 _ rfl
    have Sc3 := S.cell 3 _ rfl
    have Sc4 := S.cell 4 _ rfl
    have Sc5 := S.cell 5 _ rfl
    have Sc6 := S.cell 6 _ rfl
    have Sc7 := S.cell 7 _ rfl
    have Sc8 := S.cell 8 _ rfl
    have Sl := S.lt
    have Xc0 := X.cell 0 _ rfl
    have Xc1 := X.cell 1 _ rfl
    have Xc2 := X.cell 2 _ rfl
    have Xl := X.lt
    go_wp2_with fail
    refine (V.out _ I.out J.out).mono ?_
    rintro e w1 ⟨rfl, B⟩
    clear Lc0 Lc1 Lc2 Lc3 Lc4 Lc5 Lc6 Lc7 Lc8 Lc9 Lc10 Ll Sc0 Sc1 Sc2 Sc3 Sc4 Sc5 Sc6 Sc7 Sc8 Sl Xc0 Xc1 Xc2 Xl
    replace D := D.step B
    replace L := L.step B
    replace S := S.step B
    replace X := X.step B
    replace I := Lib.hid (I.out.step B)
    replace J := Lib.hid (J.out.step B)
    replace H := Lib.hid (bl_trans H.out B)
    clear B
    have Lc0 := L.cell 0 _ rfl
    have Lc1 := L.cell 1 _ rfl
    have Lc2 := L.cell 2 _ rfl
    have Lc3 := L.cell 3 _ rfl
    have Lc4 := L.cell 4 _ rfl
    have Lc5 := L.cell 5 _ rfl
    have Lc6 := L.cell 6 _ rfl
    have Lc7 := L.cell 7 _ rfl
    have Lc8 := L.cell 8 _ rfl
    have Lc9 := L.cell 9 _ rfl
    have Lc10 := L.cell 10 _ rfl
    have Ll := L.lt
    have Sc0 := S.cell 0 _ rfl
    have Sc1 := S.cell 1 _ rfl
    have Sc2 := S.cell 2 _ rfl
    have Sc3 := S.cell 3 _ rfl
    have Sc4 := S.cell 4 _ rfl
    have Sc5 := S.cell 5 _ rfl
    have Sc6 := S.cell 6 _ rfl
    have Sc7 := S.cell 7 _ rfl
    have Sc8 := S.cell 8 _ rfl
    have Sl := S.lt
    have Xc0 := X.cell 0 _ rfl
    have Xc1 := X.cell 1 _ rfl
    have Xc2 := X.cell 2 _ rfl
    have Xl := X.lt
    go_wp2_with fail
    refine (U.out _).mono ?_
    rintro e w2 ⟨rfl, B⟩
    clear Lc0 Lc1 Lc2 Lc3 Lc4 Lc5 Lc6 Lc7 Lc8 Lc9 Lc10 Ll Sc0 Sc1 Sc2 Sc3 Sc4 Sc5 Sc6 Sc7 Sc8 Sl Xc0 Xc1 Xc2 Xl
    replace D := D.step B
    replace L := L.step B
    replace S := S.step B
    replace X := X.step B
    replace I := Lib.hid (I.out.step B)
    replace J := Lib.hid (J.out.step B)
    replace H := Lib.hid (bl_trans H.out B)
    clear B
    have Lc0 := L.cell 0 _ rfl
    have Lc1 := L.cell 1 _ rfl
    have Lc2 := L.cell 2 _ rfl
    have Lc3 := L.cell 3 _ rfl
    have Lc4 := L.cell 4 _ rfl
    have Lc5 := L.cell 5 _ rfl
    have Lc6 := L.cell 6 _ rfl
    have Lc7 := L.cell 7 _ rfl
    have Lc8 := L.cell 8 _ rfl
    have Lc9 := L.cell 9 _ rfl
    have Lc10 := L.cell 10 _ rfl
    have Ll := L.lt
    have Sc0 := S.cell 0 _ rfl
    have Sc1 := S.cell 1 _ rfl
    have Sc2 := S.cell 2 _ rfl
    have Sc3 := S.cell 3 _ rfl
    have Sc4 := S.cell 4 _ rfl
    have Sc5 := S.cell 5 _ rfl
    have Sc6 := S.cell 6 _ rfl
    have Sc7 := S.cell 7 _ rfl
    have Sc8 := S.cell 8 _ rfl
    have Sl := S.lt
    have Xc0 := X.cell 0 _ rfl
    have Xc1 := X.cell 1 _ rfl
    have Xc2 := X.cell 2 _ rfl
    have Xl := X.lt
    go_upto_region 2 with fail
    clear Lc0 Lc1 Lc2 Lc3 Lc4 Lc5 Lc6 Lc7 Lc8 Lc9 Lc10 Ll Sc0 Sc1 Sc2 Sc3 Sc4 Sc5 Sc6 Sc7 Sc8 Sl Xc0 Xc1 Xc2 Xl
    go_wp2_with (refine store_new rfl 31 (.tmp 6) (.tmp 34) rfl (w.heap.size + 1 + 1 + 1) rfl (stv 0 0 0 0 0 0 0 false false) rfl _ D (by simp) state_size rfl ?_)
    intro wz K N
    go_wp2
    exact bodyPost_ret (v := .tuple #[sta 0 0 0 0 0 0 0 false false, .bool false]) (res_cells_tmp rfl (w.heap.size + 1 + 1 + 1) rfl (stv 0 0 0 0 0 0 0 false false) N (.bool false) rfl Tryd.underlying31 rfl state_size) rfl ⟨⟨_, _, _, _, _, _, _, _, _, ES.out, by rw [E.out]⟩, kp_below H.out K (by omega)⟩
  have hS := ev_st h1 gl
  have hlv := (ev_all h1).1
  have sb := (iv_bd h2).1
  have hk9 : k < 1000000 := by
    have q := (ev_all h1).2.1
    simp only [ownB, Bool.and_eq_true] at q
    have k2 : 0 ≤ k ∧ k ≤ 60 := by simpa [inB] using q.1
    omega
  obtain ⟨gn, rfl⟩ := Int.eq_ofNat_of_zero_le hS.g.1
  have C := Lib.hid (fun (W : World) (Z : Boxes W A n ws) (Y : Boxes W G m gs) => specStep13 i t x y A n c G m kk fp fq fs fz b ws gs k ax ay fx fy u gn d o s p z W Z Y ((lv_iff i t x y ws gs fp fq fs fz b).1 hlv).2.2.2.2.1 hn hm hS hk9 sb.1 sb.2)
  rw [h1] at V
  rw [h2] at U
  have V := Lib.hid V
  have U := Lib.hid U
  by_cases h3 : t ≤ k
  rotate_left
  · have d3 : decide (t ≤ k) = false := decide_eq_false h3
    have E0 : eoB i t x y ws gs fp fq fs fz b k ax ay fx fy u gn d o s p z = true := by simp [eoB, h1, h2, d3]
    have ES := Lib.hid (show esS i t x y ws gs fp fq fs fz b k ax ay fx fy u gn d o s p z = stS ws gs fp fq fs fz ⟨k, ax, ay, fx, fy, u, gn, d, o⟩ ⟨s, p, z⟩ by simp [esS, E0])
    have E := Lib.hid E0
    clear E0 h1 h2 hS hlv sb gl
    have L : CellsAt ((((w.alloc (.cells #[.int .i64 i, .int .i64 t, .int .i64 x, .int .i64 y, .slice A n c, .slice G m kk, .int .i64 fp, .int .i64 fq, .int .i64 fs, .int .i64 fz, .int .i64 b] 29)).alloc (.cells #[.int .i64 k, .int .i64 ax, .int .i64 ay, .int .i64 fx, .int .i64 fy, .int .i64 u, .int .i64 gn, .bool d, .bool o] 31)).alloc (.cells #[.int .i64 s, .int .i64 p, .bool z] 33)).alloc (.cells #[.int .i64 0, .int .i64 0, .int .i64 0, .int .i64 0, .int .i64 0, .int .i64 0, .int .i64 0, .bool false, .bool false] 31)) w.heap.size (lvs i t x y A n c G m kk fp fq fs fz b) := (((CellsAt.new w _ _ _ rfl).alloc _).alloc _).alloc _
    have S : CellsAt ((((w.alloc (.cells #[.int .i64 i, .int .i64 t, .int .i64 x, .int .i64 y, .slice A n c, .slice G m kk, .int .i64 fp, .int .i64 fq, .int .i64 fs, .int .i64 fz, .int .i64 b] 29)).alloc (.cells #[.int .i64 k, .int .i64 ax, .int .i64 ay, .int .i64 fx, .int .i64 fy, .int .i64 u, .int .i64 gn, .bool d, .bool o] 31)).alloc (.cells #[.int .i64 s, .int .i64 p, .bool z] 33)).alloc (.cells #[.int .i64 0, .int .i64 0, .int .i64 0, .int .i64 0, .int .i64 0, .int .i64 0, .int .i64 0, .bool false, .bool false] 31)) (w.heap.size + 1) (stv k ax ay fx fy u gn d o) := ((CellsAt.new _ _ _ _ (by simp)).alloc _).alloc _
    have X : CellsAt ((((w.alloc (.cells #[.int .i64 i, .int .i64 t, .int .i64 x, .int .i64 y, .slice A n c, .slice G m kk, .int .i64 fp, .int .i64 fq, .int .i64 fs, .int .i64 fz, .int .i64 b] 29)).alloc (.cells #[.int .i64 k, .int .i64 ax, .int .i64 ay, .int .i64 fx, .int .i64 fy, .int .i64 u, .int .i64 gn, .bool d, .bool o] 31)).alloc (.cells #[.int .i64 s, .int .i64 p, .bool z] 33)).alloc (.cells #[.int .i64 0, .int .i64 0, .int .i64 0, .int .i64 0, .int .i64 0, .int .i64 0, .int .i64 0, .bool false, .bool false] 31)) (w.heap.size + 1 + 1) (ins s p z) := (CellsAt.new _ _ _ _ (by simp)).alloc _
    have D : CellsAt ((((w.alloc (.cells #[.int .i64 i, .int .i64 t, .int .i64 x, .int .i64 y, .slice A n c, .slice G m kk, .int .i64 fp, .int .i64 fq, .int .i64 fs, .int .i64 fz, .int .i64 b] 29)).alloc (.cells #[.int .i64 k, .int .i64 ax, .int .i64 ay, .int .i64 fx, .int .i64 fy, .int .i64 u, .int .i64 gn, .bool d, .bool o] 31)).alloc (.cells #[.int .i64 s, .int .i64 p, .bool z] 33)).alloc (.cells #[.int .i64 0, .int .i64 0, .int .i64 0, .int .i64 0, .int .i64 0, .int .i64 0, .int .i64 0, .bool false, .bool false] 31)) (w.heap.size + 1 + 1 + 1) (stv 0 0 0 0 0 0 0 false false) := CellsAt.new _ _ _ _ (by simp)
    have H := Lib.hid (bl_alloc (bl_alloc (bl_alloc (bl_alloc (bl_refl w) (.cells #[.int .i64 i, .int .i64 t, .int .i64 x, .int .i64 y, .slice A n c, .slice G m kk, .int .i64 fp, .int .i64 fq, .int .i64 fs, .int .i64 fz, .int .i64 b] 29)) (.cells #[.int .i64 k, .int .i64 ax, .int .i64 ay, .int .i64 fx, .int .i64 fy, .int .i64 u, .int .i64 gn, .bool d, .bool o] 31)) (.cells #[.int .i64 s, .int .i64 p, .bool z] 33)) (.cells #[.int .i64 0, .int .i64 0, .int .i64 0, .int .i64 0, .int .i64 0, .int .i64 0, .int .i64 0, .bool false, .bool false] 31))
    replace I := Lib.hid (I.out.step H.out)
    replace J := Lib.hid (J.out.step H.out)
    go_enter Tryd.func21, Tryd.ntmps21
    have Lc0 := L.cell 0 _ rfl
    have Lc1 := L.cell 1 _ rfl
    have Lc2 := L.cell 2 _ rfl
    have Lc3 := L.cell 3 _ rfl
    have Lc4 := L.cell 4 _ rfl
    have Lc5 := L.cell 5 _ rfl
    have Lc6 := L.cell 6 _ rfl
    have Lc7 := L.cell 7 _ rfl
    have Lc8 := L.cell 8 _ rfl
    have Lc9 := L.cell 9 _ rfl
    have Lc10 := L.cell 10 _ rfl
    have Ll := L.lt
    have Sc0 := S.cell 0 _ rfl
    have Sc1 := S.cell 1 _ rfl
    have Sc2 := S.cell 2 _ rfl
    have Sc3 := S.cell 3 _ rfl
    have Sc4 := S.cell 4 _ rfl
    have Sc5 := S.cell 5 _ rfl
    have Sc6 := S.cell 6 _ rfl
    have Sc7 := S.cell 7 _ rfl
    have Sc8 := S.cell 8 _ rfl
    have Sl := S.lt
    have Xc0 := X.cell 0 _ rfl
    have Xc1 := X.cell 1 _ rfl
    have Xc2 := X.cell 2 _ rfl
    have Xl := X.lt
    go_wp2_with fail
    refine (V.out _ I.out J.out).mono ?_
    rintro e w1 ⟨rfl, B⟩
    clear Lc0 Lc1 Lc2 Lc3 Lc4 Lc5 Lc6 Lc7 Lc8 Lc9 Lc10 Ll Sc0 Sc1 Sc2 Sc3 Sc4 Sc5 Sc6 Sc7 Sc8 Sl Xc0 Xc1 Xc2 Xl
    replace D := D.step B
    replace L := L.step B
    replace S := S.step B
    replace X := X.step B
    replace I := Lib.hid (I.out.step B)
    replace J := Lib.hid (J.out.step B)
    replace H := Lib.hid (bl_trans H.out B)
    clear B
    have Lc0 := L.cell 0 _ rfl
    have Lc1 := L.cell 1 _ rfl
    have Lc2 := L.cell 2 _ rfl
    have Lc3 := L.cell 3 _ rfl
    have Lc4 := L.cell 4 _ rfl
    have Lc5 := L.cell 5 _ rfl
    have Lc6 := L.cell 6 _ rfl
    have Lc7 := L.cell 7 _ rfl
    have Lc8 := L.cell 8 _ rfl
    have Lc9 := L.cell 9 _ rfl
    have Lc10 := L.cell 10 _ rfl
    have Ll := L.lt
    have Sc0 := S.cell 0 _ rfl
    have Sc1 := S.cell 1 _ rfl
    have Sc2 := S.cell 2 _ rfl
    have Sc3 := S.cell 3 _ rfl
    have Sc4 := S.cell 4 _ rfl
    have Sc5 := S.cell 5 _ rfl
    have Sc6 := S.cell 6 _ rfl
    have Sc7 := S.cell 7 _ rfl
    have Sc8 := S.cell 8 _ rfl
    have Sl := S.lt
    have Xc0 := X.cell 0 _ rfl
    have Xc1 := X.cell 1 _ rfl
    have Xc2 := X.cell 2 _ rfl
    have Xl := X.lt
    go_wp2_with fail
    refine (U.out _).mono ?_
    rintro e w2 ⟨rfl, B⟩
    clear Lc0 Lc1 Lc2 Lc3 Lc4 Lc5 Lc6 Lc7 Lc8 Lc9 Lc10 Ll Sc0 Sc1 Sc2 Sc3 Sc4 Sc5 Sc6 Sc7 Sc8 Sl Xc0 Xc1 Xc2 Xl
    replace D := D.step B
    replace L := L.step B
    replace S := S.step B
    replace X := X.step B
    replace I := Lib.hid (I.out.step B)
    replace J := Lib.hid (J.out.step B)
    replace H := Lib.hid (bl_trans H.out B)
    clear B
    have Lc0 := L.cell 0 _ rfl
    have Lc1 := L.cell 1 _ rfl
    have Lc2 := L.cell 2 _ rfl
    have Lc3 := L.cell 3 _ rfl
    have Lc4 := L.cell 4 _ rfl
    have Lc5 := L.cell 5 _ rfl
    have Lc6 := L.cell 6 _ rfl
    have Lc7 := L.cell 7 _ rfl
    have Lc8 := L.cell 8 _ rfl
    have Lc9 := L.cell 9 _ rfl
    have Lc10 := L.cell 10 _ rfl
    have Ll := L.lt
    have Sc0 := S.cell 0 _ rfl
    have Sc1 := S.cell 1 _ rfl
    have Sc2 := S.cell 2 _ rfl
    have Sc3 := S.cell 3 _ rfl
    have Sc4 := S.cell 4 _ rfl
    have Sc5 := S.cell 5 _ rfl
    have Sc6 := S.cell 6 _ rfl
    have Sc7 := S.cell 7 _ rfl
    have Sc8 := S.cell 8 _ rfl
    have Sl := S.lt
    have Xc0 := X.cell 0 _ rfl
    have Xc1 := X.cell 1 _ rfl
    have Xc2 := X.cell 2 _ rfl
    have Xl := X.lt
    go_wp2_with fail
    refine (C.out _ I.out J.out).mono ?_
    rintro e wy ⟨⟨K', X', Y', P', Q', U', V', D', O', eM, rfl⟩, B⟩
    clear Lc0 Lc1 Lc2 Lc3 Lc4 Lc5 Lc6 Lc7 Lc8 Lc9 Lc10 Ll Sc0 Sc1 Sc2 Sc3 Sc4 Sc5 Sc6 Sc7 Sc8 Sl Xc0 Xc1 Xc2 Xl
    replace D := D.step B
    replace H := Lib.hid (bl_trans H.out B)
    replace ES := Lib.hid (ES.out.trans eM)
    clear B eM
    go_wp2_with (refine store_new rfl 31 (.tmp 6) (.tmp 38) rfl (w.heap.size + 1 + 1 + 1) rfl (stv K' X' Y' P' Q' U' V' D' O') rfl _ D (by simp) state_size rfl ?_)
    intro wz K N
    go_wp2
    exact bodyPost_ret (v := .tuple #[sta K' X' Y' P' Q' U' V' D' O', .bool true]) (res_cells_tmp rfl (w.heap.size + 1 + 1 + 1) rfl (stv K' X' Y' P' Q' U' V' D' O') N (.bool true) rfl Tryd.underlying31 rfl state_size) rfl ⟨⟨_, _, _, _, _, _, _, _, _, ES.out, by rw [E.out]⟩, kp_below H.out K (by omega)⟩
  have d3 : decide (t ≤ k) = true := decide_eq_true h3
  cases d
  rotate_left
  · have E0 : eoB i t x y ws gs fp fq fs fz b k ax ay fx fy u gn true o s p z = true := by simp [eoB, h1, h2]
    have ES := Lib.hid (show esS i t x y ws gs fp fq fs fz b k ax ay fx fy u gn true o s p z = stS ws gs fp fq fs fz ⟨k, ax, ay, fx, fy, u, gn, true, o⟩ ⟨s, p, z⟩ by simp [esS, E0])
    have E := Lib.hid E0
    clear E0 h1 h2 hS hlv sb gl
    have L : CellsAt ((((w.alloc (.cells #[.int .i64 i, .int .i64 t, .int .i64 x, .int .i64 y, .slice A n c, .slice G m kk, .int .i64 fp, .int .i64 fq, .int .i64 fs, .int .i64 fz, .int .i64 b] 29)).alloc (.cells #[.int .i64 k, .int .i64 ax, .int .i64 ay, .int .i64 fx, .int .i64 fy, .int .i64 u, .int .i64 gn, .bool true, .bool o] 31)).alloc (.cells #[.int .i64 s, .int .i64 p, .bool z] 33)).alloc (.cells #[.int .i64 0, .int .i64 0, .int .i64 0, .int .i64 0, .int .i64 0, .int .i64 0, .int .i64 0, .bool false, .bool false] 31)) w.heap.size (lvs i t x y A n c G m kk fp fq fs fz b) := (((CellsAt.new w _ _ _ rfl).alloc _).alloc _).alloc _
    have S : CellsAt ((((w.alloc (.cells #[.int .i64 i, .int .i64 t, .int .i64 x, .int .i64 y, .slice A n c, .slice G m kk, .int .i64 fp, .int .i64 fq, .int .i64 fs, .int .i64 fz, .int .i64 b] 29)).alloc (.cells #[.int .i64 k, .int .i64 ax, .int .i64 ay, .int .i64 fx, .int .i64 fy, .int .i64 u, .int .i64 gn, .bool true, .bool o] 31)).alloc (.cells #[.int .i64 s, .int .i64 p, .bool z] 33)).alloc (.cells #[.int .i64 0, .int .i64 0, .int .i64 0, .int .i64 0, .int .i64 0, .int .i64 0, .int .i64 0, .bool false, .bool false] 31)) (w.heap.size + 1) (stv k ax ay fx fy u gn true o) := ((CellsAt.new _ _ _ _ (by simp)).alloc _).alloc _
    have X : CellsAt ((((w.alloc (.cells #[.int .i64 i, .int .i64 t, .int .i64 x, .int .i64 y, .slice A n c, .slice G m kk, .int .i64 fp, .int .i64 fq, .int .i64 fs, .int .i64 fz, .int .i64 b] 29)).alloc (.cells #[.int .i64 k, .int .i64 ax, .int .i64 ay, .int .i64 fx, .int .i64 fy, .int .i64 u, .int .i64 gn, .bool true, .bool o] 31)).alloc (.cells #[.int .i64 s, .int .i64 p, .bool z] 33)).alloc (.cells #[.int .i64 0, .int .i64 0, .int .i64 0, .int .i64 0, .int .i64 0, .int .i64 0, .int .i64 0, .bool false, .bool false] 31)) (w.heap.size + 1 + 1) (ins s p z) := (CellsAt.new _ _ _ _ (by simp)).alloc _
    have D : CellsAt ((((w.alloc (.cells #[.int .i64 i, .int .i64 t, .int .i64 x, .int .i64 y, .slice A n c, .slice G m kk, .int .i64 fp, .int .i64 fq, .int .i64 fs, .int .i64 fz, .int .i64 b] 29)).alloc (.cells #[.int .i64 k, .int .i64 ax, .int .i64 ay, .int .i64 fx, .int .i64 fy, .int .i64 u, .int .i64 gn, .bool true, .bool o] 31)).alloc (.cells #[.int .i64 s, .int .i64 p, .bool z] 33)).alloc (.cells #[.int .i64 0, .int .i64 0, .int .i64 0, .int .i64 0, .int .i64 0, .int .i64 0, .int .i64 0, .bool false, .bool false] 31)) (w.heap.size + 1 + 1 + 1) (stv 0 0 0 0 0 0 0 false false) := CellsAt.new _ _ _ _ (by simp)
    have H := Lib.hid (bl_alloc (bl_alloc (bl_alloc (bl_alloc (bl_refl w) (.cells #[.int .i64 i, .int .i64 t, .int .i64 x, .int .i64 y, .slice A n c, .slice G m kk, .int .i64 fp, .int .i64 fq, .int .i64 fs, .int .i64 fz, .int .i64 b] 29)) (.cells #[.int .i64 k, .int .i64 ax, .int .i64 ay, .int .i64 fx, .int .i64 fy, .int .i64 u, .int .i64 gn, .bool true, .bool o] 31)) (.cells #[.int .i64 s, .int .i64 p, .bool z] 33)) (.cells #[.int .i64 0, .int .i64 0, .int .i64 0, .int .i64 0, .int .i64 0, .int .i64 0, .int .i64 0, .bool false, .bool false] 31))
    replace I := Lib.hid (I.out.step H.out)
    replace J := Lib.hid (J.out.step H.out)
    go_enter Tryd.func21, Tryd.ntmps21
    have Lc0 := L.cell 0 _ rfl
    have Lc1 := L.cell 1 _ rfl
    have Lc2 := L.cell 2 _ rfl
    have Lc3 := L.cell 3 _ rfl
    have Lc4 := L.cell 4 _ rfl
    have Lc5 := L.cell 5 _ rfl
    have Lc6 := L.cell 6 _ rfl
    have Lc7 := L.cell 7 _ rfl
    have Lc8 := L.cell 8 _ rfl
    have Lc9 := L.cell 9 _ rfl
    have Lc10 := L.cell 10 _ rfl
    have Ll := L.lt
    have Sc0 := S.cell 0 _ rfl
    have Sc1 := S.cell 1 _ rfl
    have Sc2 := S.cell 2 _ rfl
    have Sc3 := S.cell 3 _ rfl
    have Sc4 := S.cell 4 _ rfl
    have Sc5 := S.cell 5 _ rfl
    have Sc6 := S.cell 6 _ rfl
    have Sc7 := S.cell 7 _ rfl
    have Sc8 := S.cell 8 _ rfl
    have Sl := S.lt
    have Xc0 := X.cell 0 _ rfl
    have Xc1 := X.cell 1 _ rfl
    have Xc2 := X.cell 2 _ rfl
    have Xl := X.lt
    go_wp2_with fail
    refine (V.out _ I.out J.out).mono ?_
    rintro e w1 ⟨rfl, B⟩
    clear Lc0 Lc1 Lc2 Lc3 Lc4 Lc5 Lc6 Lc7 Lc8 Lc9 Lc10 Ll Sc0 Sc1 Sc2 Sc3 Sc4 Sc5 Sc6 Sc7 Sc8 Sl Xc0 Xc1 Xc2 Xl
    replace D := D.step B
    replace L := L.step B
    replace S := S.step B
    replace X := X.step B
    replace I := Lib.hid (I.out.step B)
    replace J := Lib.hid (J.out.step B)
    replace H := Lib.hid (bl_trans H.out B)
    clear B
    have Lc0 := L.cell 0 _ rfl
    have Lc1 := L.cell 1 _ rfl
    have Lc2 := L.cell 2 _ rfl
    have Lc3 := L.cell 3 _ rfl
    have Lc4 := L.cell 4 _ rfl
    have Lc5 := L.cell 5 _ rfl
    have Lc6 := L.cell 6 _ rfl
    have Lc7 := L.cell 7 _ rfl
    have Lc8 := L.cell 8 _ rfl
    have Lc9 := L.cell 9 _ rfl
    have Lc10 := L.cell 10 _ rfl
    have Ll := L.lt
    have Sc0 := S.cell 0 _ rfl
    have Sc1 := S.cell 1 _ rfl
    have Sc2 := S.cell 2 _ rfl
    have Sc3 := S.cell 3 _ rfl
    have Sc4 := S.cell 4 _ rfl
    have Sc5 := S.cell 5 _ rfl
    have Sc6 := S.cell 6 _ rfl
    have Sc7 := S.cell 7 _ rfl
    have Sc8 := S.cell 8 _ rfl
    have Sl := S.lt
    have Xc0 := X.cell 0 _ rfl
    have Xc1 := X.cell 1 _ rfl
    have Xc2 := X.cell 2 _ rfl
    have Xl := X.lt
    go_wp2_with fail
    refine (U.out _).mono ?_
    rintro e w2 ⟨rfl, B⟩
    clear Lc0 Lc1 Lc2 Lc3 Lc4 Lc5 Lc6 Lc7 Lc8 Lc9 Lc10 Ll Sc0 Sc1 Sc2 Sc3 Sc4 Sc5 Sc6 Sc7 Sc8 Sl Xc0 Xc1 Xc2 Xl
    replace D := D.step B
    replace L := L.step B
    replace S := S.step B
    replace X := X.step B
    replace I := Lib.hid (I.out.step B)
    replace J := Lib.hid (J.out.step B)
    replace H := Lib.hid (bl_trans H.out B)
    clear B
    have Lc0 := L.cell 0 _ rfl
    have Lc1 := L.cell 1 _ rfl
    have Lc2 := L.cell 2 _ rfl
    have Lc3 := L.cell 3 _ rfl
    have Lc4 := L.cell 4 _ rfl
    have Lc5 := L.cell 5 _ rfl
    have Lc6 := L.cell 6 _ rfl
    have Lc7 := L.cell 7 _ rfl
    have Lc8 := L.cell 8 _ rfl
    have Lc9 := L.cell 9 _ rfl
    have Lc10 := L.cell 10 _ rfl
    have Ll := L.lt
    have Sc0 := S.cell 0 _ rfl
    have Sc1 := S.cell 1 _ rfl
    have Sc2 := S.cell 2 _ rfl
    have Sc3 := S.cell 3 _ rfl
    have Sc4 := S.cell 4 _ rfl
    have Sc5 := S.cell 5 _ rfl
    have Sc6 := S.cell 6 _ rfl
    have Sc7 := S.cell 7 _ rfl
    have Sc8 := S.cell 8 _ rfl
    have Sl := S.lt
    have Xc0 := X.cell 0 _ rfl
    have Xc1 := X.cell 1 _ rfl
    have Xc2 := X.cell 2 _ rfl
    have Xl := X.lt
    go_wp2_with fail
    refine (C.out _ I.out J.out).mono ?_
    rintro e wy ⟨⟨K', X', Y', P', Q', U', V', D', O', eM, rfl⟩, B⟩
    clear Lc0 Lc1 Lc2 Lc3 Lc4 Lc5 Lc6 Lc7 Lc8 Lc9 Lc10 Ll Sc0 Sc1 Sc2 Sc3 Sc4 Sc5 Sc6 Sc7 Sc8 Sl Xc0 Xc1 Xc2 Xl
    replace D := D.step B
    replace H := Lib.hid (bl_trans H.out B)
    replace ES := Lib.hid (ES.out.trans eM)
    clear B eM
    go_wp2_with (refine store_new rfl 31 (.tmp 6) (.tmp 38) rfl (w.heap.size + 1 + 1 + 1) rfl (stv K' X' Y' P' Q' U' V' D' O') rfl _ D (by simp) state_size rfl ?_)
    intro wz K N
    go_wp2
    exact bodyPost_ret (v := .tuple #[sta K' X' Y' P' Q' U' V' D' O', .bool true]) (res_cells_tmp rfl (w.heap.size + 1 + 1 + 1) rfl (stv K' X' Y' P' Q' U' V' D' O') N (.bool true) rfl Tryd.underlying31 rfl state_size) rfl ⟨⟨_, _, _, _, _, _, _, _, _, ES.out, by rw [E.out]⟩, kp_below H.out K (by omega)⟩
  cases o
  rotate_left
  · have E0 : eoB i t x y ws gs fp fq fs fz b k ax ay fx fy u gn false true s p z = true := by simp [eoB, h1, h2]
    have ES := Lib.hid (show esS i t x y ws gs fp fq fs fz b k ax ay fx fy u gn false true s p z = stS ws gs fp fq fs fz ⟨k, ax, ay, fx, fy, u, gn, false, true⟩ ⟨s, p, z⟩ by simp [esS, E0])
    have E := Lib.hid E0
    clear E0 h1 h2 hS hlv sb gl
    have L : CellsAt ((((w.alloc (.cells #[.int .i64 i, .int .i64 t, .int .i64 x, .int .i64 y, .slice A n c, .slice G m kk, .int .i64 fp, .int .i64 fq, .int .i64 fs, .int .i64 fz, .int .i64 b] 29)).alloc (.cells #[.int .i64 k, .int .i64 ax, .int .i64 ay, .int .i64 fx, .int .i64 fy, .int .i64 u, .int .i64 gn, .bool false, .bool true] 31)).alloc (.cells #[.int .i64 s, .int .i64 p, .bool z] 33)).alloc (.cells #[.int .i64 0, .int .i64 0, .int .i64 0, .int .i64 0, .int .i64 0, .int .i64 0, .int .i64 0, .bool false, .bool false] 31)) w.heap.size (lvs i t x y A n c G m kk fp fq fs fz b) := (((CellsAt.new w _ _ _ rfl).alloc _).alloc _).alloc _
    have S : CellsAt ((((w.alloc (.cells #[.int .i64 i, .int .i64 t, .int .i64 x, .int .i64 y, .slice A n c, .slice G m kk, .int .i64 fp, .int .i64 fq, .int .i64 fs, .int .i64 fz, .int .i64 b] 29)).alloc (.cells #[.int .i64 k, .int .i64 ax, .int .i64 ay, .int .i64 fx, .int .i64 fy, .int .i64 u, .int .i64 gn, .bool false, .bool true] 31)).alloc (.cells #[.int .i64 s, .int .i64 p, .bool z] 33)).alloc (.cells #[.int .i64 0, .int .i64 0, .int .i64 0, .int .i64 0, .int .i64 0, .int .i64 0, .int .i64 0, .bool false, .bool false] 31)) (w.heap.size + 1) (stv k ax ay fx fy u gn false true) := ((CellsAt.new _ _ _ _ (by simp)).alloc _).alloc _
    have X : CellsAt ((((w.alloc (.cells #[.int .i64 i, .int .i64 t, .int .i64 x, .int .i64 y, .slice A n c, .slice G m kk, .int .i64 fp, .int .i64 fq, .int .i64 fs, .int .i64 fz, .int .i64 b] 29)).alloc (.cells #[.int .i64 k, .int .i64 ax, .int .i64 ay, .int .i64 fx, .int .i64 fy, .int .i64 u, .int .i64 gn, .bool false, .bool true] 31)).alloc (.cells #[.int .i64 s, .int .i64 p, .bool z] 33)).alloc (.cells #[.int .i64 0, .int .i64 0, .int .i64 0, .int .i64 0, .int .i64 0, .int .i64 0, .int .i64 0, .bool false, .bool false] 31)) (w.heap.size + 1 + 1) (ins s p z) := (CellsAt.new _ _ _ _ (by simp)).alloc _
    have D : CellsAt ((((w.alloc (.cells #[.int .i64 i, .int .i64 t, .int .i64 x, .int .i64 y, .slice A n c, .slice G m kk, .int .i64 fp, .int .i64 fq, .int .i64 fs, .int .i64 fz, .int .i64 b] 29)).alloc (.cells #[.int .i64 k, .int .i64 ax, .int .i64 ay, .int .i64 fx, .int .i64 fy, .int .i64 u, .int .i64 gn, .bool false, .bool true] 31)).alloc (.cells #[.int .i64 s, .int .i64 p, .bool z] 33)).alloc (.cells #[.int .i64 0, .int .i64 0, .int .i64 0, .int .i64 0, .int .i64 0, .int .i64 0, .int .i64 0, .bool false, .bool false] 31)) (w.heap.size + 1 + 1 + 1) (stv 0 0 0 0 0 0 0 false false) := CellsAt.new _ _ _ _ (by simp)
    have H := Lib.hid (bl_alloc (bl_alloc (bl_alloc (bl_alloc (bl_refl w) (.cells #[.int .i64 i, .int .i64 t, .int .i64 x, .int .i64 y, .slice A n c, .slice G m kk, .int .i64 fp, .int .i64 fq, .int .i64 fs, .int .i64 fz, .int .i64 b] 29)) (.cells #[.int .i64 k, .int .i64 ax, .int .i64 ay, .int .i64 fx, .int .i64 fy, .int .i64 u, .int .i64 gn, .bool false, .bool true] 31)) (.cells #[.int .i64 s, .int .i64 p, .bool z] 33)) (.cells #[.int .i64 0, .int .i64 0, .int .i64 0, .int .i64 0, .int .i64 0, .int .i64 0, .int .i64 0, .bool false, .bool false] 31))
    replace I := Lib.hid (I.out.step H.out)
    replace J := Lib.hid (J.out.step H.out)
    go_enter Tryd.func21, Tryd.ntmps21
    have Lc0 := L.cell 0 _ rfl
    have Lc1 := L.cell 1 _ rfl
    have Lc2 := L.cell 2 _ rfl
    have Lc3 := L.cell 3 _ rfl
    have Lc4 := L.cell 4 _ rfl
    have Lc5 := L.cell 5 _ rfl
    have Lc6 := L.cell 6 _ rfl
    have Lc7 := L.cell 7 _ rfl
    have Lc8 := L.cell 8 _ rfl
    have Lc9 := L.cell 9 _ rfl
    have Lc10 := L.cell 10 _ rfl
    have Ll := L.lt
    have Sc0 := S.cell 0 _ rfl
    have Sc1 := S.cell 1 _ rfl
    have Sc2 := S.cell 2 _ rfl
    have Sc3 := S.cell 3 _ rfl
    have Sc4 := S.cell 4 _ rfl
    have Sc5 := S.cell 5 _ rfl
    have Sc6 := S.cell 6 _ rfl
    have Sc7 := S.cell 7 _ rfl
    have Sc8 := S.cell 8 _ rfl
    have Sl := S.lt
    have Xc0 := X.cell 0 _ rfl
    have Xc1 := X.cell 1 _ rfl
    have Xc2 := X.cell 2 _ rfl
    have Xl := X.lt
    go_wp2_with fail
    refine (V.out _ I.out J.out).mono ?_
    rintro e w1 ⟨rfl, B⟩
    clear Lc0 Lc1 Lc2 Lc3 Lc4 Lc5 Lc6 Lc7 Lc8 Lc9 Lc10 Ll Sc0 Sc1 Sc2 Sc3 Sc4 Sc5 Sc6 Sc7 Sc8 Sl Xc0 Xc1 Xc2 Xl
    replace D := D.step B
    replace L := L.step B
    replace S := S.step B
    replace X := X.step B
    replace I := Lib.hid (I.out.step B)
    replace J := Lib.hid (J.out.step B)
    replace H := Lib.hid (bl_trans H.out B)
    clear B
    have Lc0 := L.cell 0 _ rfl
    have Lc1 := L.cell 1 _ rfl
    have Lc2 := L.cell 2 _ rfl
    have Lc3 := L.cell 3 _ rfl
    have Lc4 := L.cell 4 _ rfl
    have Lc5 := L.cell 5 _ rfl
    have Lc6 := L.cell 6 _ rfl
    have Lc7 := L.cell 7 _ rfl
    have Lc8 := L.cell 8 _ rfl
    have Lc9 := L.cell 9 _ rfl
    have Lc10 := L.cell 10 _ rfl
    have Ll := L.lt
    have Sc0 := S.cell 0 _ rfl
    have Sc1 := S.cell 1 _ rfl
    have Sc2 := S.cell 2 _ rfl
    have Sc3 := S.cell 3 _ rfl
    have Sc4 := S.cell 4 _ rfl
    have Sc5 := S.cell 5 _ rfl
    have Sc6 := S.cell 6 _ rfl
    have Sc7 := S.cell 7 _ rfl
    have Sc8 := S.cell 8 _ rfl
    have Sl := S.lt
    have Xc0 := X.cell 0 _ rfl
    have Xc1 := X.cell 1 _ rfl
    have Xc2 := X.cell 2 _ rfl
    have Xl := X.lt
    go_wp2_with fail
    refine (U.out _).mono ?_
    rintro e w2 ⟨rfl, B⟩
    clear Lc0 Lc1 Lc2 Lc3 Lc4 Lc5 Lc6 Lc7 Lc8 Lc9 Lc10 Ll Sc0 Sc1 Sc2 Sc3 Sc4 Sc5 Sc6 Sc7 Sc8 Sl Xc0 Xc1 Xc2 Xl
    replace D := D.step B
    replace L := L.step B
    replace S := S.step B
    replace X := X.step B
    replace I := Lib.hid (I.out.step B)
    replace J := Lib.hid (J.out.step B)
    replace H := Lib.hid (bl_trans H.out B)
    clear B
    have Lc0 := L.cell 0 _ rfl
    have Lc1 := L.cell 1 _ rfl
    have Lc2 := L.cell 2 _ rfl
    have Lc3 := L.cell 3 _ rfl
    have Lc4 := L.cell 4 _ rfl
    have Lc5 := L.cell 5 _ rfl
    have Lc6 := L.cell 6 _ rfl
    have Lc7 := L.cell 7 _ rfl
    have Lc8 := L.cell 8 _ rfl
    have Lc9 := L.cell 9 _ rfl
    have Lc10 := L.cell 10 _ rfl
    have Ll := L.lt
    have Sc0 := S.cell 0 _ rfl
    have Sc1 := S.cell 1 _ rfl
    have Sc2 := S.cell 2 _ rfl
    have Sc3 := S.cell 3 _ rfl
    have Sc4 := S.cell 4 _ rfl
    have Sc5 := S.cell 5 _ rfl
    have Sc6 := S.cell 6 _ rfl
    have Sc7 := S.cell 7 _ rfl
    have Sc8 := S.cell 8 _ rfl
    have Sl := S.lt
    have Xc0 := X.cell 0 _ rfl
    have Xc1 := X.cell 1 _ rfl
    have Xc2 := X.cell 2 _ rfl
    have Xl := X.lt
    go_wp2_with fail
    refine (C.out _ I.out J.out).mono ?_
    rintro e wy ⟨⟨K', X', Y', P', Q', U', V', D', O', eM, rfl⟩, B⟩
    clear Lc0 Lc1 Lc2 Lc3 Lc4 Lc5 Lc6 Lc7 Lc8 Lc9 Lc10 Ll Sc0 Sc1 Sc2 Sc3 Sc4 Sc5 Sc6 Sc7 Sc8 Sl Xc0 Xc1 Xc2 Xl
    replace D := D.step B
    replace H := Lib.hid (bl_trans H.out B)
    replace ES := Lib.hid (ES.out.trans eM)
    clear B eM
    go_wp2_with (refine store_new rfl 31 (.tmp 6) (.tmp 38) rfl (w.heap.size + 1 + 1 + 1) rfl (stv K' X' Y' P' Q' U' V' D' O') rfl _ D (by simp) state_size rfl ?_)
    intro wz K N
    go_wp2
    exact bodyPost_ret (v := .tuple #[sta K' X' Y' P' Q' U' V' D' O', .bool true]) (res_cells_tmp rfl (w.heap.size + 1 + 1 + 1) rfl (stv K' X' Y' P' Q' U' V' D' O') N (.bool true) rfl Tryd.underlying31 rfl state_size) rfl ⟨⟨_, _, _, _, _, _, _, _, _, ES.out, by rw [E.out]⟩, kp_below H.out K (by omega)⟩
  have E0 : eoB i t x y ws gs fp fq fs fz b k ax ay fx fy u gn false false s p z = false := by simp only [eoB, h1, h2, d3]; rfl
  have ES := Lib.hid (show esS i t x y ws gs fp fq fs fz b k ax ay fx fy u gn false false s p z = ⟨0, 0, 0, 0, 0, 0, 0, false, false⟩ by simp [esS, E0])
  have E := Lib.hid E0
  clear E0
  clear h1 h2 hS hlv sb gl C
  have L : CellsAt ((((w.alloc (.cells #[.int .i64 i, .int .i64 t, .int .i64 x, .int .i64 y, .slice A n c, .slice G m kk, .int .i64 fp, .int .i64 fq, .int .i64 fs, .int .i64 fz, .int .i64 b] 29)).alloc (.cells #[.int .i64 k, .int .i64 ax, .int .i64 ay, .int .i64 fx, .int .i64 fy, .int .i64 u, .int .i64 gn, .bool false, .bool false] 31)).alloc (.cells #[.int .i64 s, .int .i64 p, .bool z] 33)).alloc (.cells #[.int .i64 0, .int .i64 0, .int .i64 0, .int .i64 0, .int .i64 0, .int .i64 0, .int .i64 0, .bool false, .bool false] 31)) w.heap.size (lvs i t x y A n c G m kk fp fq fs fz b) := (((CellsAt.new w _ _ _ rfl).alloc _).alloc _).alloc _
  have S : CellsAt ((((w.alloc (.cells #[.int .i64 i, .int .i64 t, .int .i64 x, .int .i64 y, .slice A n c, .slice G m kk, .int .i64 fp, .int .i64 fq, .int .i64 fs, .int .i64 fz, .int .i64 b] 29)).alloc (.cells #[.int .i64 k, .int .i64 ax, .int .i64 ay, .int .i64 fx, .int .i64 fy, .int .i64 u, .int .i64 gn, .bool false, .bool false] 31)).alloc (.cells #[.int .i64 s, .int .i64 p, .bool z] 33)).alloc (.cells #[.int .i64 0, .int .i64 0, .int .i64 0, .int .i64 0, .int .i64 0, .int .i64 0, .int .i64 0, .bool false, .bool false] 31)) (w.heap.size + 1) (stv k ax ay fx fy u gn false false) := ((CellsAt.new _ _ _ _ (by simp)).alloc _).alloc _
  have X : CellsAt ((((w.alloc (.cells #[.int .i64 i, .int .i64 t, .int .i64 x, .int .i64 y, .slice A n c, .slice G m kk, .int .i64 fp, .int .i64 fq, .int .i64 fs, .int .i64 fz, .int .i64 b] 29)).alloc (.cells #[.int .i64 k, .int .i64 ax, .int .i64 ay, .int .i64 fx, .int .i64 fy, .int .i64 u, .int .i64 gn, .bool false, .bool false] 31)).alloc (.cells #[.int .i64 s, .int .i64 p, .bool z] 33)).alloc (.cells #[.int .i64 0, .int .i64 0, .int .i64 0, .int .i64 0, .int .i64 0, .int .i64 0, .int .i64 0, .bool false, .bool false] 31)) (w.heap.size + 1 + 1) (ins s p z) := (CellsAt.new _ _ _ _ (by simp)).alloc _
  have D : CellsAt ((((w.alloc (.cells #[.int .i64 i, .int .i64 t, .int .i64 x, .int .i64 y, .slice A n c, .slice G m kk, .int .i64 fp, .int .i64 fq, .int .i64 fs, .int .i64 fz, .int .i64 b] 29)).alloc (.cells #[.int .i64 k, .int .i64 ax, .int .i64 ay, .int .i64 fx, .int .i64 fy, .int .i64 u, .int .i64 gn, .bool false, .bool false] 31)).alloc (.cells #[.int .i64 s, .int .i64 p, .bool z] 33)).alloc (.cells #[.int .i64 0, .int .i64 0, .int .i64 0, .int .i64 0, .int .i64 0, .int .i64 0, .int .i64 0, .bool false, .bool false] 31)) (w.heap.size + 1 + 1 + 1) (stv 0 0 0 0 0 0 0 false false) := CellsAt.new _ _ _ _ (by simp)
  have H := Lib.hid (bl_alloc (bl_alloc (bl_alloc (bl_alloc (bl_refl w) (.cells #[.int .i64 i, .int .i64 t, .int .i64 x, .int .i64 y, .slice A n c, .slice G m kk, .int .i64 fp, .int .i64 fq, .int .i64 fs, .int .i64 fz, .int .i64 b] 29)) (.cells #[.int .i64 k, .int .i64 ax, .int .i64 ay, .int .i64 fx, .int .i64 fy, .int .i64 u, .int .i64 gn, .bool false, .bool false] 31)) (.cells #[.int .i64 s, .int .i64 p, .bool z] 33)) (.cells #[.int .i64 0, .int .i64 0, .int .i64 0, .int .i64 0, .int .i64 0, .int .i64 0, .int .i64 0, .bool false, .bool false] 31))
  replace I := Lib.hid (I.out.step H.out)
  replace J := Lib.hid (J.out.step H.out)
  go_enter Tryd.func21, Tryd.ntmps21
  have Lc0 := L.cell 0 _ rfl
  have Lc1 := L.cell 1 _ rfl
  have Lc2 := L.cell 2 _ rfl
  have Lc3 := L.cell 3 _ rfl
  have Lc4 := L.cell 4 _ rfl
  have Lc5 := L.cell 5 _ rfl
  have Lc6 := L.cell 6 _ rfl
  have Lc7 := L.cell 7 _ rfl
  have Lc8 := L.cell 8 _ rfl
  have Lc9 := L.cell 9 _ rfl
  have Lc10 := L.cell 10 _ rfl
  have Ll := L.lt
  have Sc0 := S.cell 0 _ rfl
  have Sc1 := S.cell 1 _ rfl
  have Sc2 := S.cell 2 _ rfl
  have Sc3 := S.cell 3 _ rfl
  have Sc4 := S.cell 4 _ rfl
  have Sc5 := S.cell 5 _ rfl
  have Sc6 := S.cell 6 _ rfl
  have Sc7 := S.cell 7 _ rfl
  have Sc8 := S.cell 8 _ rfl
  have Sl := S.lt
  have Xc0 := X.cell 0 _ rfl
  have Xc1 := X.cell 1 _ rfl
  have Xc2 := X.cell 2 _ rfl
  have Xl := X.lt
  go_wp2_with fail
  refine (V.out _ I.out J.out).mono ?_
  rintro e w1 ⟨rfl, B⟩
  clear Lc0 Lc1 Lc2 Lc3 Lc4 Lc5 Lc6 Lc7 Lc8 Lc9 Lc10 Ll Sc0 Sc1 Sc2 Sc3 Sc4 Sc5 Sc6 Sc7 Sc8 Sl Xc0 Xc1 Xc2 Xl
  replace D := D.step B
  replace L := L.step B
  replace S := S.step B
  replace X := X.step B
  replace I := Lib.hid (I.out.step B)
  replace J := Lib.hid (J.out.step B)
  replace H := Lib.hid (bl_trans H.out B)
  clear B
  have Lc0 := L.cell 0 _ rfl
  have Lc1 := L.cell 1 _ rfl
  have Lc2 := L.cell 2 _ rfl
  have Lc3 := L.cell 3 _ rfl
  have Lc4 := L.cell 4 _ rfl
  have Lc5 := L.cell 5 _ rfl
  have Lc6 := L.cell 6 _ rfl
  have Lc7 := L.cell 7 _ rfl
  have Lc8 := L.cell 8 _ rfl
  have Lc9 := L.cell 9 _ rfl
  have Lc10 := L.cell 10 _ rfl
  have Ll := L.lt
  have Sc0 := S.cell 0 _ rfl
  have Sc1 := S.cell 1 _ rfl
  have Sc2 := S.cell 2 _ rfl
  have Sc3 := S.cell 3 _ rfl
  have Sc4 := S.cell 4 _ rfl
  have Sc5 := S.cell 5 _ rfl
  have Sc6 := S.cell 6 _ rfl
  have Sc7 := S.cell 7 _ rfl
  have Sc8 := S.cell 8 _ rfl
  have Sl := S.lt
  have Xc0 := X.cell 0 _ rfl
  have Xc1 := X.cell 1 _ rfl
  have Xc2 := X.cell 2 _ rfl
  have Xl := X.lt
  go_wp2_with fail
  refine (U.out _).mono ?_
  rintro e w2 ⟨rfl, B⟩
  clear Lc0 Lc1 Lc2 Lc3 Lc4 Lc5 Lc6 Lc7 Lc8 Lc9 Lc10 Ll Sc0 Sc1 Sc2 Sc3 Sc4 Sc5 Sc6 Sc7 Sc8 Sl Xc0 Xc1 Xc2 Xl
  replace D := D.step B
  replace L := L.step B
  replace S := S.step B
  replace X := X.step B
  replace I := Lib.hid (I.out.step B)
  replace J := Lib.hid (J.out.step B)
  replace H := Lib.hid (bl_trans H.out B)
  clear B
  have Lc0 := L.cell 0 _ rfl
  have Lc1 := L.cell 1 _ rfl
  have Lc2 := L.cell 2 _ rfl
  have Lc3 := L.cell 3 _ rfl
  have Lc4 := L.cell 4 _ rfl
  have Lc5 := L.cell 5 _ rfl
  have Lc6 := L.cell 6 _ rfl
  have Lc7 := L.cell 7 _ rfl
  have Lc8 := L.cell 8 _ rfl
  have Lc9 := L.cell 9 _ rfl
  have Lc10 := L.cell 10 _ rfl
  have Ll := L.lt
  have Sc0 := S.cell 0 _ rfl
  have Sc1 := S.cell 1 _ rfl
  have Sc2 := S.cell 2 _ rfl
  have Sc3 := S.cell 3 _ rfl
  have Sc4 := S.cell 4 _ rfl
  have Sc5 := S.cell 5 _ rfl
  have Sc6 := S.cell 6 _ rfl
  have Sc7 := S.cell 7 _ rfl
  have Sc8 := S.cell 8 _ rfl
  have Sl := S.lt
  have Xc0 := X.cell 0 _ rfl
  have Xc1 := X.cell 1 _ rfl
  have Xc2 := X.cell 2 _ rfl
  have Xl := X.lt
  go_upto_region 2 with fail
  clear Lc0 Lc1 Lc2 Lc3 Lc4 Lc5 Lc6 Lc7 Lc8 Lc9 Lc10 Ll Sc0 Sc1 Sc2 Sc3 Sc4 Sc5 Sc6 Sc7 Sc8 Sl Xc0 Xc1 Xc2 Xl
  go_wp2_with (refine store_new rfl 31 (.tmp 6) (.tmp 34) rfl (w.heap.size + 1 + 1 + 1) rfl (stv 0 0 0 0 0 0 0 false false) rfl _ D (by simp) state_size rfl ?_)
  intro wz K N
  go_wp2
  exact bodyPost_ret (v := .tuple #[sta 0 0 0 0 0 0 0 false false, .bool false]) (res_cells_tmp rfl (w.heap.size + 1 + 1 + 1) rfl (stv 0 0 0 0 0 0 0 false false) N (.bool false) rfl Tryd.underlying31 rfl state_size) rfl ⟨⟨_, _, _, _, _, _, _, _, _, ES.out, by rw [E.out]⟩, kp_below H.out K (by omega)⟩

end Go.Proofs.YtnoenjociioffaaDoor
