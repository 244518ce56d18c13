/-
  What the program's own EngineStep returns, at every argument.
-/
import Derived.Test.YtnoenjociioffaaDoorEngF
import Derived.Test.YtnoenjociioffaaDoorEngP
import Derived.Test.YtnoenjociioffaaDoorEngStep
import Derived.Test.YtnoenjociioffaaDoorInImpl
import Derived.Test.YtnoenjociioffaaDoorInRow
import Derived.Test.YtnoenjociioffaaDoorDrawIn
namespace Go.Proofs.YtnoenjociioffaaDoor
open Go.RowKit
open M

set_option maxRecDepth 100000 in
set_option maxHeartbeats 4000000 in
theorem implEStep (i t x y : Int) (A : Option Addr) (n c : Nat) (G : Option Addr) (m kk : Nat) (fp fq fs fz b : Int) (ws gs : List Bx) (k ax ay fx fy u g : Int) (d o : Bool) (s p : Int) (z : Bool) (w : World) (I : Boxes w A n ws) (J : Boxes w G m gs) (hn : n ≤ 281474976710656) (hm : m ≤ 281474976710656) (hQ : Quarter w) : Calls Tryd.prog 20 #[lev i t x y A n c G m kk fp fq fs fz b, sta k ax ay fx fy u g d o, inp s p z] w fun e w' => (∃ K X Y P Q U V D O, esS i t x y ws gs fp fq fs fz b k ax ay fx fy u g d o s p z = ⟨K, X, Y, P, Q, U, V, D, O⟩ ∧ e = .returned (.tuple #[sta K X Y P Q U V D O, .bool (eoB i t x y ws gs fp fq fs fz b k ax ay fx fy u g d o s p z)])) ∧ Below w.heap.size w w' := by
  have gl : gs.length = m := J.1
  have V := fun (W : World) (Z : Boxes W A n ws) (Y : Boxes W G m gs) => implEValid i t x y A n c G m kk fp fq fs fz b ws gs k ax ay fx fy u g d o W Z Y hn hm
  have U := fun W => implIValid s p z W
  have T := fun W => implEnded k ax ay fx fy u g d o W
  have I := Lib.hid I
  have J := Lib.hid J
  have hQ := Lib.hid hQ
  cases h1 : evB i t x y ws gs fp fq fs fz b k ax ay fx fy u g d o
  · rw [h1] at V
    have V := Lib.hid V
    have E0 : eoB i t x y ws gs fp fq fs fz b k ax ay fx fy u g d o s p z = false := by simp [eoB, h1]
    have ES := Lib.hid (show esS i t x y ws gs fp fq fs fz b k ax ay fx fy u g d o s p z = ⟨0, 0, 0, 0, 0, 0, 0, false, false⟩ by simp [esS, E0])
    have E := Lib.hid E0
    clear E0
    clear U T h1 gl
    have L : CellsAt ((((w.alloc (.cells #[.int .i64 i, .int .i64 t, .int .i64 x, .int .i64 y, .slice A n c, .slice G m kk, .int .i64 fp, .int .i64 fq, .int .i64 fs, .int .i64 fz, .int .i64 b] 29)).alloc (.cells #[.int .i64 k, .int .i64 ax, .int .i64 ay, .int .i64 fx, .int .i64 fy, .int .i64 u, .int .i64 g, .bool d, .bool o] 31)).alloc (.cells #[.int .i64 s, .int .i64 p, .bool z] 33)).alloc (.cells #[.int .i64 0, .int .i64 0, .int .i64 0, .int .i64 0, .int .i64 0, .int .i64 0, .int .i64 0, .bool false, .bool false] 31)) w.heap.size (lvs i t x y A n c G m kk fp fq fs fz b) := (((CellsAt.new w _ _ _ rfl).alloc _).alloc _).alloc _
    have S : CellsAt ((((w.alloc (.cells #[.int .i64 i, .int .i64 t, .int .i64 x, .int .i64 y, .slice A n c, .slice G m kk, .int .i64 fp, .int .i64 fq, .int .i64 fs, .int .i64 fz, .int .i64 b] 29)).alloc (.cells #[.int .i64 k, .int .i64 ax, .int .i64 ay, .int .i64 fx, .int .i64 fy, .int .i64 u, .int .i64 g, .bool d, .bool o] 31)).alloc (.cells #[.int .i64 s, .int .i64 p, .bool z] 33)).alloc (.cells #[.int .i64 0, .int .i64 0, .int .i64 0, .int .i64 0, .int .i64 0, .int .i64 0, .int .i64 0, .bool false, .bool false] 31)) (w.heap.size + 1) (stv k ax ay fx fy u g d o) := ((CellsAt.new _ _ _ _ (by simp)).alloc _).alloc _
    have X : CellsAt ((((w.alloc (.cells #[.int .i64 i, .int .i64 t, .int .i64 x, .int .i64 y, .slice A n c, .slice G m kk, .int .i64 fp, .int .i64 fq, .int .i64 fs, .int .i64 fz, .int .i64 b] 29)).alloc (.cells #[.int .i64 k, .int .i64 ax, .int .i64 ay, .int .i64 fx, .int .i64 fy, .int .i64 u, .int .i64 g, .bool d, .bool o] 31)).alloc (.cells #[.int .i64 s, .int .i64 p, .bool z] 33)).alloc (.cells #[.int .i64 0, .int .i64 0, .int .i64 0, .int .i64 0, .int .i64 0, .int .i64 0, .int .i64 0, .bool false, .bool false] 31)) (w.heap.size + 1 + 1) (ins s p z) := (CellsAt.new _ _ _ _ (by simp)).alloc _
    have D : CellsAt ((((w.alloc (.cells #[.int .i64 i, .int .i64 t, .int .i64 x, .int .i64 y, .slice A n c, .slice G m kk, .int .i64 fp, .int .i64 fq, .int .i64 fs, .int .i64 fz, .int .i64 b] 29)).alloc (.cells #[.int .i64 k, .int .i64 ax, .int .i64 ay, .int .i64 fx, .int .i64 fy, .int .i64 u, .int .i64 g, .bool d, .bool o] 31)).alloc (.cells #[.int .i64 s, .int .i64 p, .bool z] 33)).alloc (.cells #[.int .i64 0, .int .i64 0, .int .i64 0, .int .i64 0, .int .i64 0, .int .i64 0, .int .i64 0, .bool false, .bool false] 31)) (w.heap.size + 1 + 1 + 1) (stv 0 0 0 0 0 0 0 false false) := CellsAt.new _ _ _ _ (by simp)
    have H := Lib.hid (bl_alloc (bl_alloc (bl_alloc (bl_alloc (bl_refl w) (.cells #[.int .i64 i, .int .i64 t, .int .i64 x, .int .i64 y, .slice A n c, .slice G m kk, .int .i64 fp, .int .i64 fq, .int .i64 fs, .int .i64 fz, .int .i64 b] 29)) (.cells #[.int .i64 k, .int .i64 ax, .int .i64 ay, .int .i64 fx, .int .i64 fy, .int .i64 u, .int .i64 g, .bool d, .bool o] 31)) (.cells #[.int .i64 s, .int .i64 p, .bool z] 33)) (.cells #[.int .i64 0, .int .i64 0, .int .i64 0, .int .i64 0, .int .i64 0, .int .i64 0, .int .i64 0, .bool false, .bool false] 31))
    replace hQ := Lib.hid (hQ.out.step H.out)
    replace I := Lib.hid (I.out.step H.out)
    replace J := Lib.hid (J.out.step H.out)
    go_enter Tryd.func20, Tryd.ntmps20
    have Lc0 := L.cell 0 _ rfl
    have Lc1 := L.cell 1 _ rfl
    have Lc2 := L.cell 2 _ rfl
    have Lc3 := L.cell 3 _ rfl
    have Lc4 := L.cell 4 _ rfl
    have Lc5 := L.cell 5 _ rfl
    have Lc6 := L.cell 6 _ rfl
    have Lc7 := L.cell 7 _ rfl
    have Lc8 := L.cell 8 _ rfl
    have Lc9 := L.cell 9 _ rfl
    have Lc10 := L.cell 10 _ rfl
    have Ll := L.lt
    have Sc0 := S.cell 0 _ rfl
    have Sc1 := S.cell 1 _ rfl
    have Sc2 := S.cell 2 _ rfl
    have Sc3 := S.cell 3 _ rfl
    have Sc4 := S.cell 4 _ rfl
    have Sc5 := S.cell 5 _ rfl
    have Sc6 := S.cell 6 _ rfl
    have Sc7 := S.cell 7 _ rfl
    have Sc8 := S.cell 8 _ rfl
    have Sl := S.lt
    have Xc0 := X.cell 0 _ rfl
    have Xc1 := X.cell 1 _ rfl
    have Xc2 := X.cell 2 _ rfl
    have Xl := X.lt
    go_wp2_with fail
    refine (V.out _ I.out J.out).mono ?_
    rintro e w1 ⟨rfl, B⟩
    clear Lc0 Lc1 Lc2 Lc3 Lc4 Lc5 Lc6 Lc7 Lc8 Lc9 Lc10 Ll Sc0 Sc1 Sc2 Sc3 Sc4 Sc5 Sc6 Sc7 Sc8 Sl Xc0 Xc1 Xc2 Xl
    replace D := D.step B
    replace hQ := Lib.hid (hQ.out.step B)
    replace L := L.step B
    replace S := S.step B
    replace X := X.step B
    replace I := Lib.hid (I.out.step B)
    replace J := Lib.hid (J.out.step B)
    replace H := Lib.hid (bl_trans H.out B)
    clear B
    have Lc0 := L.cell 0 _ rfl
    have Lc1 := L.cell 1 _ rfl
    have Lc2 := L.cell 2 _ rfl
    have Lc3 := L.cell 3 _ rfl
    have Lc4 := L.cell 4 _ rfl
    have Lc5 := L.cell 5 _ rfl
    have Lc6 := L.cell 6 _ rfl
    have Lc7 := L.cell 7 _ rfl
    have Lc8 := L.cell 8 _ rfl
    have Lc9 := L.cell 9 _ rfl
    have Lc10 := L.cell 10 _ rfl
    have Ll := L.lt
    have Sc0 := S.cell 0 _ rfl
    have Sc1 := S.cell 1 _ rfl
    have Sc2 := S.cell 2 _ rfl
    have Sc3 := S.cell 3 _ rfl
    have Sc4 := S.cell 4 _ rfl
    have Sc5 := S.cell 5 _ rfl
    have Sc6 := S.cell 6 _ rfl
    have Sc7 := S.cell 7 _ rfl
    have Sc8 := S.cell 8 _ rfl
    have Sl := S.lt
    have Xc0 := X.cell 0 _ rfl
    have Xc1 := X.cell 1 _ rfl
    have Xc2 := X.cell 2 _ rfl
    have Xl := X.lt
    go_upto_region 2 with fail
    clear Lc0 Lc1 Lc2 Lc3 Lc4 Lc5 Lc6 Lc7 Lc8 Lc9 Lc10 Ll Sc0 Sc1 Sc2 Sc3 Sc4 Sc5 Sc6 Sc7 Sc8 Sl Xc0 Xc1 Xc2 Xl
    go_wp2_with (refine store_new rfl 31 (.tmp 6) (.tmp 18) rfl (w.heap.size + 1 + 1 + 1) rfl (stv 0 0 0 0 0 0 0 false false) rfl _ D (by simp) state_size rfl ?_)
    intro wz K N
    go_wp2
    exact bodyPost_ret (v := .tuple #[sta 0 0 0 0 0 0 0 false false, .bool false]) (res_cells_tmp rfl (w.heap.size + 1 + 1 + 1) rfl (stv 0 0 0 0 0 0 0 false false) N (.bool false) rfl Tryd.underlying31 rfl state_size) rfl ⟨⟨_, _, _, _, _, _, _, _, _, ES.out, by rw [E.out]⟩, kp_below H.out K (by omega)⟩
  cases h2 : inV s p z
  · rw [h1] at V
    rw [h2] at U
    have V := Lib.hid V
    have U := Lib.hid U
    have E0 : eoB i t x y ws gs fp fq fs fz b k ax ay fx fy u g d o s p z = false := by simp [eoB, h2]
    have ES := Lib.hid (show esS i t x y ws gs fp fq fs fz b k ax ay fx fy u g d o s p z = ⟨0, 0, 0, 0, 0, 0, 0, false, false⟩ by simp [esS, E0])
    have E := Lib.hid E0
    clear E0
    clear T h1 h2 gl
    have L : CellsAt ((((w.alloc (.cells #[.int .i64 i, .int .i64 t, .int .i64 x, .int .i64 y, .slice A n c, .slice G m kk, .int .i64 fp, .int .i64 fq, .int .i64 fs, .int .i64 fz, .int .i64 b] 29)).alloc (.cells #[.int .i64 k, .int .i64 ax, .int .i64 ay, .int .i64 fx, .int .i64 fy, .int .i64 u, .int .i64 g, .bool d, .bool o] 31)).alloc (.cells #[.int .i64 s, .int .i64 p, .bool z] 33)).alloc (.cells #[.int .i64 0, .int .i64 0, .int .i64 0, .int .i64 0, .int .i64 0, .int .i64 0, .int .i64 0, .bool false, .bool false] 31)) w.heap.size (lvs i t x y A n c G m kk fp fq fs fz b) := (((CellsAt.new w _ _ _ rfl).alloc _).alloc _).alloc _
    have S : CellsAt ((((w.alloc (.cells #[.int .i64 i, .int .i64 t, .int .i64 x, .int .i64 y, .slice A n c, .slice G m kk, .int .i64 fp, .int .i64 fq, .int .i64 fs, .int .i64 fz, .int .i64 b] 29)).alloc (.cells #[.int .i64 k, .int .i64 ax, .int .i64 ay, .int .i64 fx, .int .i64 fy, .int .i64 u, .int .i64 g, .bool d, .bool o] 31)).alloc (.cells #[.int .i64 s, .int .i64 p, .bool z] 33)).alloc (.cells #[.int .i64 0, .int .i64 0, .int .i64 0, .int .i64 0, .int .i64 0, .int .i64 0, .int .i64 0, .bool false, .bool false] 31)) (w.heap.size + 1) (stv k ax ay fx fy u g d o) := ((CellsAt.new _ _ _ _ (by simp)).alloc _).alloc _
    have X : CellsAt ((((w.alloc (.cells #[.int .i64 i, .int .i64 t, .int .i64 x, .int .i64 y, .slice A n c, .slice G m kk, .int .i64 fp, .int .i64 fq, .int .i64 fs, .int .i64 fz, .int .i64 b] 29)).alloc (.cells #[.int .i64 k, .int .i64 ax, .int .i64 ay, .int .i64 fx, .int .i64 fy, .int .i64 u, .int .i64 g, .bool d, .bool o] 31)).alloc (.cells #[.int .i64 s, .int .i64 p, .bool z] 33)).alloc (.cells #[.int .i64 0, .int .i64 0, .int .i64 0, .int .i64 0, .int .i64 0, .int .i64 0, .int .i64 0, .bool false, .bool false] 31)) (w.heap.size + 1 + 1) (ins s p z) := (CellsAt.new _ _ _ _ (by simp)).alloc _
    have D : CellsAt ((((w.alloc (.cells #[.int .i64 i, .int .i64 t, .int .i64 x, .int .i64 y, .slice A n c, .slice G m kk, .int .i64 fp, .int .i64 fq, .int .i64 fs, .int .i64 fz, .int .i64 b] 29)).alloc (.cells #[.int .i64 k, .int .i64 ax, .int .i64 ay, .int .i64 fx, .int .i64 fy, .int .i64 u, .int .i64 g, .bool d, .bool o] 31)).alloc (.cells #[.int .i64 s, .int .i64 p, .bool z] 33)).alloc (.cells #[.int .i64 0, .int .i64 0, .int .i64 0, .int .i64 0, .int .i64 0, .int .i64 0, .int .i64 0, .bool false, .bool false] 31)) (w.heap.size + 1 + 1 + 1) (stv 0 0 0 0 0 0 0 false false) := CellsAt.new _ _ _ _ (by simp)
    have H := Lib.hid (bl_alloc (bl_alloc (bl_alloc (bl_alloc (bl_refl w) (.cells #[.int .i64 i, .int .i64 t, .int .i64 x, .int .i64 y, .slice A n c, .slice G m kk, .int .i64 fp, .int .i64 fq, .int .i64 fs, .int .i64 fz, .int .i64 b] 29)) (.cells #[.int .i64 k, .int .i64 ax, .int .i64 ay, .int .i64 fx, .int .i64 fy, .int .i64 u, .int .i64 g, .bool d, .bool o] 31)) (.cells #[.int .i64 s, .int .i64 p, .bool z] 33)) (.cells #[.int .i64 0, .int .i64 0, .int .i64 0, .int .i64 0, .int .i64 0, .int .i64 0, .int .i64 0, .bool false, .bool false] 31))
    replace hQ := Lib.hid (hQ.out.step H.out)
    replace I := Lib.hid (I.out.step H.out)
    replace J := Lib.hid (J.out.step H.out)
    go_enter Tryd.func20, Tryd.ntmps20
    have Lc0 := L.cell 0 _ rfl
    have Lc1 := L.cell 1 _ rfl
    have Lc2 := L.cell 2 _ rfl
    have Lc3 := L.cell 3 _ rfl
    have Lc4 := L.cell 4 _ rfl
    have Lc5 := L.cell 5 _ rfl
    have Lc6 := L.cell 6 _ rfl
    have Lc7 := L.cell 7 _ rfl
    have Lc8 := L.cell 8 _ rfl
    have Lc9 := L.cell 9 _ rfl
    have Lc10 := L.cell 10 _ rfl
    have Ll := L.lt
    have Sc0 := S.cell 0 _ rfl
    have Sc1 := S.cell 1 _ rfl
    have Sc2 := S.cell 2 _ rfl
    have Sc3 := S.cell 3 _ rfl
    have Sc4 := S.cell 4 _ rfl
    have Sc5 := S.cell 5 _ rfl
    have Sc6 := S.cell 6 _ rfl
    have Sc7 := S.cell 7 _ rfl
    have Sc8 := S.cell 8 _ rfl
    have Sl := S.lt
    have Xc0 := X.cell 0 _ rfl
    have Xc1 := X.cell 1 _ rfl
    have Xc2 := X.cell 2 _ rfl
    have Xl := X.lt
    go_wp2_with fail
    refine (V.out _ I.out J.out).mono ?_
    rintro e w1 ⟨rfl, B⟩
    clear Lc0 Lc1 Lc2 Lc3 Lc4 Lc5 Lc6 Lc7 Lc8 Lc9 Lc10 Ll Sc0 Sc1 Sc2 Sc3 Sc4 Sc5 Sc6 Sc7 Sc8 Sl Xc0 Xc1 Xc2 Xl
    replace D := D.step B
    replace hQ := Lib.hid (hQ.out.step B)
    replace L := L.step B
    replace S := S.step B
    replace X := X.step B
    replace I := Lib.hid (I.out.step B)
    replace J := Lib.hid (J.out.step B)
    replace H := Lib.hid (bl_trans H.out B)
    clear B
    have Lc0 := L.cell 0 _ rfl
    have Lc1 := L.cell 1 _ rfl
    have Lc2 := L.cell 2 _ rfl
    have Lc3 := L.cell 3 _ rfl
    have Lc4 := L.cell 4 _ rfl
    have Lc5 := L.cell 5 _ rfl
    have Lc6 := L.cell 6 _ rfl
    have Lc7 := L.cell 7 _ rfl
    have Lc8 := L.cell 8 _ rfl
    have Lc9 := L.cell 9 _ rfl
    have Lc10 := L.cell 10 _ rfl
    have Ll := L.lt
    have Sc0 := S.cell 0 _ rfl
    have Sc1 := S.cell 1 _ rfl
    have Sc2 := S.cell 2 _ rfl
    have Sc3 := S.cell 3 _ rfl
    have Sc4 := S.cell 4 _ rfl
    have Sc5 := S.cell 5 _ rfl
    have Sc6 := S.cell 6 _ rfl
    have Sc7 := S.cell 7 _ rfl
    have Sc8 := S.cell 8 _ rfl
    have Sl := S.lt
    have Xc0 := X.cell 0 _ rfl
    have Xc1 := X.cell 1 _ rfl
    have Xc2 := X.cell 2 _ rfl
    have Xl := X.lt
    go_wp2_with fail
    refine (U.out _).mono ?_
    rintro e w2 ⟨rfl, B⟩
    clear Lc0 Lc1 Lc2 Lc3 Lc4 Lc5 Lc6 Lc7 Lc8 Lc9 Lc10 Ll Sc0 Sc1 Sc2 Sc3 Sc4 Sc5 Sc6 Sc7 Sc8 Sl Xc0 Xc1 Xc2 Xl
    replace D := D.step B
    replace hQ := Lib.hid (hQ.out.step B)
    replace L := L.step B
    replace S := S.step B
    replace X := X.step B
    replace I := Lib.hid (I.out.step B)
    replace J := Lib.hid (J.out.step B)
    replace H := Lib.hid (bl_trans H.out B)
    clear B
    have Lc0 := L.cell 0 _ rfl
    have Lc1 := L.cell 1 _ rfl
    have Lc2 := L.cell 2 _ rfl
    have Lc3 := L.cell 3 _ rfl
    have Lc4 := L.cell 4 _ rfl
    have Lc5 := L.cell 5 _ rfl
    have Lc6 := L.cell 6 _ rfl
    have Lc7 := L.cell 7 _ rfl
    have Lc8 := L.cell 8 _ rfl
    have Lc9 := L.cell 9 _ rfl
    have Lc10 := L.cell 10 _ rfl
    have Ll := L.lt
    have Sc0 := S.cell 0 _ rfl
    have Sc1 := S.cell 1 _ rfl
    have Sc2 := S.cell 2 _ rfl
    have Sc3 := S.cell 3 _ rfl
    have Sc4 := S.cell 4 _ rfl
    have Sc5 := S.cell 5 _ rfl
    have Sc6 := S.cell 6 _ rfl
    have Sc7 := S.cell 7 _ rfl
    have Sc8 := S.cell 8 _ rfl
    have Sl := S.lt
    have Xc0 := X.cell 0 _ rfl
    have Xc1 := X.cell 1 _ rfl
    have Xc2 := X.cell 2 _ rfl
    have Xl := X.lt
    go_upto_region 2 with fail
    clear Lc0 Lc1 Lc2 Lc3 Lc4 Lc5 Lc6 Lc7 Lc8 Lc9 Lc10 Ll Sc0 Sc1 Sc2 Sc3 Sc4 Sc5 Sc6 Sc7 Sc8 Sl Xc0 Xc1 Xc2 Xl
    go_wp2_with (refine store_new rfl 31 (.tmp 6) (.tmp 18) rfl (w.heap.size + 1 + 1 + 1) rfl (stv 0 0 0 0 0 0 0 false false) rfl _ D (by simp) state_size rfl ?_)
    intro wz K N
    go_wp2
    exact bodyPost_ret (v := .tuple #[sta 0 0 0 0 0 0 0 false false, .bool false]) (res_cells_tmp rfl (w.heap.size + 1 + 1 + 1) rfl (stv 0 0 0 0 0 0 0 false false) N (.bool false) rfl Tryd.underlying31 rfl state_size) rfl ⟨⟨_, _, _, _, _, _, _, _, _, ES.out, by rw [E.out]⟩, kp_below H.out K (by omega)⟩
  have hS := ev_st h1 gl
  obtain ⟨hlv, how, hgm, hfr⟩ := ev_all h1
  have hkt : k ≤ t := by
    simp only [evB, Bool.and_eq_true, decide_eq_true_eq] at h1
    exact h1.2.2.1
  have sb := iv_bd h2
  have hk9 : k < 1000000 := by
    have q := how
    simp only [ownB, Bool.and_eq_true] at q
    have k2 : 0 ≤ k ∧ k ≤ 60 := by simpa [inB] using q.1
    omega
  obtain ⟨gn, rfl⟩ := Int.eq_ofNat_of_zero_le hS.g.1
  have lv := (lv_iff i t x y ws gs fp fq fs fz b).1 hlv
  rw [h1] at V
  rw [h2] at U
  have V := Lib.hid V
  have U := Lib.hid U
  cases d
  rotate_left
  · have E0 : eoB i t x y ws gs fp fq fs fz b k ax ay fx fy u gn true o s p z = true := by simp [eoB, h1, h2]
    have ES := Lib.hid (show esS i t x y ws gs fp fq fs fz b k ax ay fx fy u gn true o s p z = ⟨k, ax, ay, fx, fy, u, gn, true, o⟩ by simp [esS, E0, stS])
    have E := Lib.hid E0
    have T := Lib.hid T
    clear E0 h1 h2 gl hlv how hgm hfr hkt sb hk9 lv hS
    have L : CellsAt ((((w.alloc (.cells #[.int .i64 i, .int .i64 t, .int .i64 x, .int .i64 y, .slice A n c, .slice G m kk, .int .i64 fp, .int .i64 fq, .int .i64 fs, .int .i64 fz, .int .i64 b] 29)).alloc (.cells #[.int .i64 k, .int .i64 ax, .int .i64 ay, .int .i64 fx, .int .i64 fy, .int .i64 u, .int .i64 gn, .bool true, .bool o] 31)).alloc (.cells #[.int .i64 s, .int .i64 p, .bool z] 33)).alloc (.cells #[.int .i64 0, .int .i64 0, .int .i64 0, .int .i64 0, .int .i64 0, .int .i64 0, .int .i64 0, .bool false, .bool false] 31)) w.heap.size (lvs i t x y A n c G m kk fp fq fs fz b) := (((CellsAt.new w _ _ _ rfl).alloc _).alloc _).alloc _
    have S : CellsAt ((((w.alloc (.cells #[.int .i64 i, .int .i64 t, .int .i64 x, .int .i64 y, .slice A n c, .slice G m kk, .int .i64 fp, .int .i64 fq, .int .i64 fs, .int .i64 fz, .int .i64 b] 29)).alloc (.cells #[.int .i64 k, .int .i64 ax, .int .i64 ay, .int .i64 fx, .int .i64 fy, .int .i64 u, .int .i64 gn, .bool true, .bool o] 31)).alloc (.cells #[.int .i64 s, .int .i64 p, .bool z] 33)).alloc (.cells #[.int .i64 0, .int .i64 0, .int .i64 0, .int .i64 0, .int .i64 0, .int .i64 0, .int .i64 0, .bool false, .bool false] 31)) (w.heap.size + 1) (stv k ax ay fx fy u gn true o) := ((CellsAt.new _ _ _ _ (by simp)).alloc _).alloc _
    have X : CellsAt ((((w.alloc (.cells #[.int .i64 i, .int .i64 t, .int .i64 x, .int .i64 y, .slice A n c, .slice G m kk, .int .i64 fp, .int .i64 fq, .int .i64 fs, .int .i64 fz, .int .i64 b] 29)).alloc (.cells #[.int .i64 k, .int .i64 ax, .int .i64 ay, .int .i64 fx, .int .i64 fy, .int .i64 u, .int .i64 gn, .bool true, .bool o] 31)).alloc (.cells #[.int .i64 s, .int .i64 p, .bool z] 33)).alloc (.cells #[.int .i64 0, .int .i64 0, .int .i64 0, .int .i64 0, .int .i64 0, .int .i64 0, .int .i64 0, .bool false, .bool false] 31)) (w.heap.size + 1 + 1) (ins s p z) := (CellsAt.new _ _ _ _ (by simp)).alloc _
    have D : CellsAt ((((w.alloc (.cells #[.int .i64 i, .int .i64 t, .int .i64 x, .int .i64 y, .slice A n c, .slice G m kk, .int .i64 fp, .int .i64 fq, .int .i64 fs, .int .i64 fz, .int .i64 b] 29)).alloc (.cells #[.int .i64 k, .int .i64 ax, .int .i64 ay, .int .i64 fx, .int .i64 fy, .int .i64 u, .int .i64 gn, .bool true, .bool o] 31)).alloc (.cells #[.int .i64 s, .int .i64 p, .bool z] 33)).alloc (.cells #[.int .i64 0, .int .i64 0, .int .i64 0, .int .i64 0, .int .i64 0, .int .i64 0, .int .i64 0, .bool false, .bool false] 31)) (w.heap.size + 1 + 1 + 1) (stv 0 0 0 0 0 0 0 false false) := CellsAt.new _ _ _ _ (by simp)
    have H := Lib.hid (bl_alloc (bl_alloc (bl_alloc (bl_alloc (bl_refl w) (.cells #[.int .i64 i, .int .i64 t, .int .i64 x, .int .i64 y, .slice A n c, .slice G m kk, .int .i64 fp, .int .i64 fq, .int .i64 fs, .int .i64 fz, .int .i64 b] 29)) (.cells #[.int .i64 k, .int .i64 ax, .int .i64 ay, .int .i64 fx, .int .i64 fy, .int .i64 u, .int .i64 gn, .bool true, .bool o] 31)) (.cells #[.int .i64 s, .int .i64 p, .bool z] 33)) (.cells #[.int .i64 0, .int .i64 0, .int .i64 0, .int .i64 0, .int .i64 0, .int .i64 0, .int .i64 0, .bool false, .bool false] 31))
    replace hQ := Lib.hid (hQ.out.step H.out)
    replace I := Lib.hid (I.out.step H.out)
    replace J := Lib.hid (J.out.step H.out)
    go_enter Tryd.func20, Tryd.ntmps20
    have Lc0 := L.cell 0 _ rfl
    have Lc1 := L.cell 1 _ rfl
    have Lc2 := L.cell 2 _ rfl
    have Lc3 := L.cell 3 _ rfl
    have Lc4 := L.cell 4 _ rfl
    have Lc5 := L.cell 5 _ rfl
    have Lc6 := L.cell 6 _ rfl
    have Lc7 := L.cell 7 _ rfl
    have Lc8 := L.cell 8 _ rfl
    have Lc9 := L.cell 9 _ rfl
    have Lc10 := L.cell 10 _ rfl
    have Ll := L.lt
    have Sc0 := S.cell 0 _ rfl
    have Sc1 := S.cell 1 _ rfl
    have Sc2 := S.cell 2 _ rfl
    have Sc3 := S.cell 3 _ rfl
    have Sc4 := S.cell 4 _ rfl
    have Sc5 := S.cell 5 _ rfl
    have Sc6 := S.cell 6 _ rfl
    have Sc7 := S.cell 7 _ rfl
    have Sc8 := S.cell 8 _ rfl
    have Sl := S.lt
    have Xc0 := X.cell 0 _ rfl
    have Xc1 := X.cell 1 _ rfl
    have Xc2 := X.cell 2 _ rfl
    have Xl := X.lt
    go_wp2_with fail
    refine (V.out _ I.out J.out).mono ?_
    rintro e w1 ⟨rfl, B⟩
    clear Lc0 Lc1 Lc2 Lc3 Lc4 Lc5 Lc6 Lc7 Lc8 Lc9 Lc10 Ll Sc0 Sc1 Sc2 Sc3 Sc4 Sc5 Sc6 Sc7 Sc8 Sl Xc0 Xc1 Xc2 Xl
    replace D := D.step B
    replace hQ := Lib.hid (hQ.out.step B)
    replace L := L.step B
    replace S := S.step B
    replace X := X.step B
    replace I := Lib.hid (I.out.step B)
    replace J := Lib.hid (J.out.step B)
    replace H := Lib.hid (bl_trans H.out B)
    clear B
    have Lc0 := L.cell 0 _ rfl
    have Lc1 := L.cell 1 _ rfl
    have Lc2 := L.cell 2 _ rfl
    have Lc3 := L.cell 3 _ rfl
    have Lc4 := L.cell 4 _ rfl
    have Lc5 := L.cell 5 _ rfl
    have Lc6 := L.cell 6 _ rfl
    have Lc7 := L.cell 7 _ rfl
    have Lc8 := L.cell 8 _ rfl
    have Lc9 := L.cell 9 _ rfl
    have Lc10 := L.cell 10 _ rfl
    have Ll := L.lt
    have Sc0 := S.cell 0 _ rfl
    have Sc1 := S.cell 1 _ rfl
    have Sc2 := S.cell 2 _ rfl
    have Sc3 := S.cell 3 _ rfl
    have Sc4 := S.cell 4 _ rfl
    have Sc5 := S.cell 5 _ rfl
    have Sc6 := S.cell 6 _ rfl
    have Sc7 := S.cell 7 _ rfl
    have Sc8 := S.cell 8 _ rfl
    have Sl := S.lt
    have Xc0 := X.cell 0 _ rfl
    have Xc1 := X.cell 1 _ rfl
    have Xc2 := X.cell 2 _ rfl
    have Xl := X.lt
    go_wp2_with fail
    refine (U.out _).mono ?_
    rintro e w2 ⟨rfl, B⟩
    clear Lc0 Lc1 Lc2 Lc3 Lc4 Lc5 Lc6 Lc7 Lc8 Lc9 Lc10 Ll Sc0 Sc1 Sc2 Sc3 Sc4 Sc5 Sc6 Sc7 Sc8 Sl Xc0 Xc1 Xc2 Xl
    replace D := D.step B
    replace hQ := Lib.hid (hQ.out.step B)
    replace L := L.step B
    replace S := S.step B
    replace X := X.step B
    replace I := Lib.hid (I.out.step B)
    replace J := Lib.hid (J.out.step B)
    replace H := Lib.hid (bl_trans H.out B)
    clear B
    have Lc0 := L.cell 0 _ rfl
    have Lc1 := L.cell 1 _ rfl
    have Lc2 := L.cell 2 _ rfl
    have Lc3 := L.cell 3 _ rfl
    have Lc4 := L.cell 4 _ rfl
    have Lc5 := L.cell 5 _ rfl
    have Lc6 := L.cell 6 _ rfl
    have Lc7 := L.cell 7 _ rfl
    have Lc8 := L.cell 8 _ rfl
    have Lc9 := L.cell 9 _ rfl
    have Lc10 := L.cell 10 _ rfl
    have Ll := L.lt
    have Sc0 := S.cell 0 _ rfl
    have Sc1 := S.cell 1 _ rfl
    have Sc2 := S.cell 2 _ rfl
    have Sc3 := S.cell 3 _ rfl
    have Sc4 := S.cell 4 _ rfl
    have Sc5 := S.cell 5 _ rfl
    have Sc6 := S.cell 6 _ rfl
    have Sc7 := S.cell 7 _ rfl
    have Sc8 := S.cell 8 _ rfl
    have Sl := S.lt
    have Xc0 := X.cell 0 _ rfl
    have Xc1 := X.cell 1 _ rfl
    have Xc2 := X.cell 2 _ rfl
    have Xl := X.lt
    go_wp2_with fail
    refine (T.out _).mono ?_
    rintro e w3 ⟨rfl, B⟩
    clear Lc0 Lc1 Lc2 Lc3 Lc4 Lc5 Lc6 Lc7 Lc8 Lc9 Lc10 Ll Sc0 Sc1 Sc2 Sc3 Sc4 Sc5 Sc6 Sc7 Sc8 Sl Xc0 Xc1 Xc2 Xl
    replace D := D.step B
    replace hQ := Lib.hid (hQ.out.step B)
    replace L := L.step B
    replace S := S.step B
    replace X := X.step B
    replace I := Lib.hid (I.out.step B)
    replace J := Lib.hid (J.out.step B)
    replace H := Lib.hid (bl_trans H.out B)
    clear B
    have Lc0 := L.cell 0 _ rfl
    have Lc1 := L.cell 1 _ rfl
    have Lc2 := L.cell 2 _ rfl
    have Lc3 := L.cell 3 _ rfl
    have Lc4 := L.cell 4 _ rfl
    have Lc5 := L.cell 5 _ rfl
    have Lc6 := L.cell 6 _ rfl
    have Lc7 := L.cell 7 _ rfl
    have Lc8 := L.cell 8 _ rfl
    have Lc9 := L.cell 9 _ rfl
    have Lc10 := L.cell 10 _ rfl
    have Ll := L.lt
    have Sc0 := S.cell 0 _ rfl
    have Sc1 := S.cell 1 _ rfl
    have Sc2 := S.cell 2 _ rfl
    have Sc3 := S.cell 3 _ rfl
    have Sc4 := S.cell 4 _ rfl
    have Sc5 := S.cell 5 _ rfl
    have Sc6 := S.cell 6 _ rfl
    have Sc7 := S.cell 7 _ rfl
    have Sc8 := S.cell 8 _ rfl
    have Sl := S.lt
    have Xc0 := X.cell 0 _ rfl
    have Xc1 := X.cell 1 _ rfl
    have Xc2 := X.cell 2 _ rfl
    have Xl := X.lt
    go_upto_region 4 with fail
    clear Lc0 Lc1 Lc2 Lc3 Lc4 Lc5 Lc6 Lc7 Lc8 Lc9 Lc10 Ll Sc0 Sc1 Sc2 Sc3 Sc4 Sc5 Sc6 Sc7 Sc8 Sl Xc0 Xc1 Xc2 Xl
    refine wp_region_lit ?_
    refine load_cells rfl 31 (.tmp 4) rfl (w.heap.size + 1) rfl (stv k ax ay fx fy u gn true o) S Tryd.underlying31 rfl state_size ?_
    refine store_new rfl 31 (.tmp 6) (.tmp 22) rfl (w.heap.size + 1 + 1 + 1) rfl (stv k ax ay fx fy u gn true o) rfl _ D (by simp) state_size rfl ?_
    intro wz K N
    clear L S X
    go_wp2
    exact bodyPost_ret (v := .tuple #[sta k ax ay fx fy u gn true o, .bool true]) (res_cells_tmp rfl (w.heap.size + 1 + 1 + 1) rfl (stv k ax ay fx fy u gn true o) N (.bool true) rfl Tryd.underlying31 rfl state_size) rfl ⟨⟨_, _, _, _, _, _, _, _, _, ES.out, by rw [E.out]⟩, kp_below H.out K (by omega)⟩
  cases o
  rotate_left
  · have E0 : eoB i t x y ws gs fp fq fs fz b k ax ay fx fy u gn false true s p z = true := by simp [eoB, h1, h2]
    have ES := Lib.hid (show esS i t x y ws gs fp fq fs fz b k ax ay fx fy u gn false true s p z = ⟨k, ax, ay, fx, fy, u, gn, false, true⟩ by simp [esS, E0, stS])
    have E := Lib.hid E0
    have T := Lib.hid T
    clear E0 h1 h2 gl hlv how hgm hfr hkt sb hk9 lv hS
    have L : CellsAt ((((w.alloc (.cells #[.int .i64 i, .int .i64 t, .int .i64 x, .int .i64 y, .slice A n c, .slice G m kk, .int .i64 fp, .int .i64 fq, .int .i64 fs, .int .i64 fz, .int .i64 b] 29)).alloc (.cells #[.int .i64 k, .int .i64 ax, .int .i64 ay, .int .i64 fx, .int .i64 fy, .int .i64 u, .int .i64 gn, .bool false, .bool true] 31)).alloc (.cells #[.int .i64 s, .int .i64 p, .bool z] 33)).alloc (.cells #[.int .i64 0, .int .i64 0, .int .i64 0, .int .i64 0, .int .i64 0, .int .i64 0, .int .i64 0, .bool false, .bool false] 31)) w.heap.size (lvs i t x y A n c G m kk fp fq fs fz b) := (((CellsAt.new w _ _ _ rfl).alloc _).alloc _).alloc _
    have S : CellsAt ((((w.alloc (.cells #[.int .i64 i, .int .i64 t, .int .i64 x, .int .i64 y, .slice A n c, .slice G m kk, .int .i64 fp, .int .i64 fq, .int .i64 fs, .int .i64 fz, .int .i64 b] 29)).alloc (.cells #[.int .i64 k, .int .i64 ax, .int .i64 ay, .int .i64 fx, .int .i64 fy, .int .i64 u, .int .i64 gn, .bool false, .bool true] 31)).alloc (.cells #[.int .i64 s, .int .i64 p, .bool z] 33)).alloc (.cells #[.int .i64 0, .int .i64 0, .int .i64 0, .int .i64 0, .int .i64 0, .int .i64 0, .int .i64 0, .bool false, .bool false] 31)) (w.heap.size + 1) (stv k ax ay fx fy u gn false true) := ((CellsAt.new _ _ _ _ (by simp)).alloc _).alloc _
    have X : CellsAt ((((w.alloc (.cells #[.int .i64 i, .int .i64 t, .int .i64 x, .int .i64 y, .slice A n c, .slice G m kk, .int .i64 fp, .int .i64 fq, .int .i64 fs, .int .i64 fz, .int .i64 b] 29)).alloc (.cells #[.int .i64 k, .int .i64 ax, .int .i64 ay, .int .i64 fx, .int .i64 fy, .int .i64 u, .int .i64 gn, .bool false, .bool true] 31)).alloc (.cells #[.int .i64 s, .int .i64 p, .bool z] 33)).alloc (.cells #[.int .i64 0, .int .i64 0, .int .i64 0, .int .i64 0, .int .i64 0, .int .i64 0, .int .i64 0, .bool false, .bool false] 31)) (w.heap.size + 1 + 1) (ins s p z) := (CellsAt.new _ _ _ _ (by simp)).alloc _
    have D : CellsAt ((((w.alloc (.cells #[.int .i64 i, .int .i64 t, .int .i64 x, .int .i64 y, .slice A n c, .slice G m kk, .int .i64 fp, .int .i64 fq, .int .i64 fs, .int .i64 fz, .int .i64 b] 29)).alloc (.cells #[.int .i64 k, .int .i64 ax, .int .i64 ay, .int .i64 fx, .int .i64 fy, .int .i64 u, .int .i64 gn, .bool false, .bool true] 31)).alloc (.cells #[.int .i64 s, .int .i64 p, .bool z] 33)).alloc (.cells #[.int .i64 0, .int .i64 0, .int .i64 0, .int .i64 0, .int .i64 0, .int .i64 0, .int .i64 0, .bool false, .bool false] 31)) (w.heap.size + 1 + 1 + 1) (stv 0 0 0 0 0 0 0 false false) := CellsAt.new _ _ _ _ (by simp)
    have H := Lib.hid (bl_alloc (bl_alloc (bl_alloc (bl_alloc (bl_refl w) (.cells #[.int .i64 i, .int .i64 t, .int .i64 x, .int .i64 y, .slice A n c, .slice G m kk, .int .i64 fp, .int .i64 fq, .int .i64 fs, .int .i64 fz, .int .i64 b] 29)) (.cells #[.int .i64 k, .int .i64 ax, .int .i64 ay, .int .i64 fx, .int .i64 fy, .int .i64 u, .int .i64 gn, .bool false, .bool true] 31)) (.cells #[.int .i64 s, .int .i64 p, .bool z] 33)) (.cells #[.int .i64 0, .int .i64 0, .int .i64 0, .int .i64 0, .int .i64 0, .int .i64 0, .int .i64 0, .bool false, .bool false] 31))
    replace hQ := Lib.hid (hQ.out.step H.out)
    replace I := Lib.hid (I.out.step H.out)
    replace J := Lib.hid (J.out.step H.out)
    go_enter Tryd.func20, Tryd.ntmps20
    have Lc0 := L.cell 0 _ rfl
    have Lc1 := L.cell 1 _ rfl
    have Lc2 := L.cell 2 _ rfl
    have Lc3 := L.cell 3 _ rfl
    have Lc4 := L.cell 4 _ rfl
    have Lc5 := L.cell 5 _ rfl
    have Lc6 := L.cell 6 _ rfl
    have Lc7 := L.cell 7 _ rfl
    have Lc8 := L.cell 8 _ rfl
    have Lc9 := L.cell 9 _ rfl
    have Lc10 := L.cell 10 _ rfl
    have Ll := L.lt
    have Sc0 := S.cell 0 _ rfl
    have Sc1 := S.cell 1 _ rfl
    have Sc2 := S.cell 2 _ rfl
    have Sc3 := S.cell 3 _ rfl
    have Sc4 := S.cell 4 _ rfl
    have Sc5 := S.cell 5 _ rfl
    have Sc6 := S.cell 6 _ rfl
    have Sc7 := S.cell 7 _ rfl
    have Sc8 := S.cell 8 _ rfl
    have Sl := S.lt
    have Xc0 := X.cell 0 _ rfl
    have Xc1 := X.cell 1 _ rfl
    have Xc2 := X.cell 2 _ rfl
    have Xl := X.lt
    go_wp2_with fail
    refine (V.out _ I.out J.out).mono ?_
    rintro e w1 ⟨rfl, B⟩
    clear Lc0 Lc1 Lc2 Lc3 Lc4 Lc5 Lc6 Lc7 Lc8 Lc9 Lc10 Ll Sc0 Sc1 Sc2 Sc3 Sc4 Sc5 Sc6 Sc7 Sc8 Sl Xc0 Xc1 Xc2 Xl
    replace D := D.step B
    replace hQ := Lib.hid (hQ.out.step B)
    replace L := L.step B
    replace S := S.step B
    replace X := X.step B
    replace I := Lib.hid (I.out.step B)
    replace J := Lib.hid (J.out.step B)
    replace H := Lib.hid (bl_trans H.out B)
    clear B
    have Lc0 := L.cell 0 _ rfl
    have Lc1 := L.cell 1 _ rfl
    have Lc2 := L.cell 2 _ rfl
    have Lc3 := L.cell 3 _ rfl
    have Lc4 := L.cell 4 _ rfl
    have Lc5 := L.cell 5 _ rfl
    have Lc6 := L.cell 6 _ rfl
    have Lc7 := L.cell 7 _ rfl
    have Lc8 := L.cell 8 _ rfl
    have Lc9 := L.cell 9 _ rfl
    have Lc10 := L.cell 10 _ rfl
    have Ll := L.lt
    have Sc0 := S.cell 0 _ rfl
    have Sc1 := S.cell 1 _ rfl
    have Sc2 := S.cell 2 _ rfl
    have Sc3 := S.cell 3 _ rfl
    have Sc4 := S.cell 4 _ rfl
    have Sc5 := S.cell 5 _ rfl
    have Sc6 := S.cell 6 _ rfl
    have Sc7 := S.cell 7 _ rfl
    have Sc8 := S.cell 8 _ rfl
    have Sl := S.lt
    have Xc0 := X.cell 0 _ rfl
    have Xc1 := X.cell 1 _ rfl
    have Xc2 := X.cell 2 _ rfl
    have Xl := X.lt
    go_wp2_with fail
    refine (U.out _).mono ?_
    rintro e w2 ⟨rfl, B⟩
    clear Lc0 Lc1 Lc2 Lc3 Lc4 Lc5 Lc6 Lc7 Lc8 Lc9 Lc10 Ll Sc0 Sc1 Sc2 Sc3 Sc4 Sc5 Sc6 Sc7 Sc8 Sl Xc0 Xc1 Xc2 Xl
    replace D := D.step B
    replace hQ := Lib.hid (hQ.out.step B)
    replace L := L.step B
    replace S := S.step B
    replace X := X.step B
    replace I := Lib.hid (I.out.step B)
    replace J := Lib.hid (J.out.step B)
    replace H := Lib.hid (bl_trans H.out B)
    clear B
    have Lc0 := L.cell 0 _ rfl
    have Lc1 := L.cell 1 _ rfl
    have Lc2 := L.cell 2 _ rfl
    have Lc3 := L.cell 3 _ rfl
    have Lc4 := L.cell 4 _ rfl
    have Lc5 := L.cell 5 _ rfl
    have Lc6 := L.cell 6 _ rfl
    have Lc7 := L.cell 7 _ rfl
    have Lc8 := L.cell 8 _ rfl
    have Lc9 := L.cell 9 _ rfl
    have Lc10 := L.cell 10 _ rfl
    have Ll := L.lt
    have Sc0 := S.cell 0 _ rfl
    have Sc1 := S.cell 1 _ rfl
    have Sc2 := S.cell 2 _ rfl
    have Sc3 := S.cell 3 _ rfl
    have Sc4 := S.cell 4 _ rfl
    have Sc5 := S.cell 5 _ rfl
    have Sc6 := S.cell 6 _ rfl
    have Sc7 := S.cell 7 _ rfl
    have Sc8 := S.cell 8 _ rfl
    have Sl := S.lt
    have Xc0 := X.cell 0 _ rfl
    have Xc1 := X.cell 1 _ rfl
    have Xc2 := X.cell 2 _ rfl
    have Xl := X.lt
    go_wp2_with fail
    refine (T.out _).mono ?_
    rintro e w3 ⟨rfl, B⟩
    clear Lc0 Lc1 Lc2 Lc3 Lc4 Lc5 Lc6 Lc7 Lc8 Lc9 Lc10 Ll Sc0 Sc1 Sc2 Sc3 Sc4 Sc5 Sc6 Sc7 Sc8 Sl Xc0 Xc1 Xc2 Xl
    replace D := D.step B
    replace hQ := Lib.hid (hQ.out.step B)
    replace L := L.step B
    replace S := S.step B
    replace X := X.step B
    replace I := Lib.hid (I.out.step B)
    replace J := Lib.hid (J.out.step B)
    replace H := Lib.hid (bl_trans H.out B)
    clear B
    have Lc0 := L.cell 0 _ rfl
    have Lc1 := L.cell 1 _ rfl
    have Lc2 := L.cell 2 _ rfl
    have Lc3 := L.cell 3 _ rfl
    have Lc4 := L.cell 4 _ rfl
    have Lc5 := L.cell 5 _ rfl
    have Lc6 := L.cell 6 _ rfl
    have Lc7 := L.cell 7 _ rfl
    have Lc8 := L.cell 8 _ rfl
    have Lc9 := L.cell 9 _ rfl
    have Lc10 := L.cell 10 _ rfl
    have Ll := L.lt
    have Sc0 := S.cell 0 _ rfl
    have Sc1 := S.cell 1 _ rfl
    have Sc2 := S.cell 2 _ rfl
    have Sc3 := S.cell 3 _ rfl
    have Sc4 := S.cell 4 _ rfl
    have Sc5 := S.cell 5 _ rfl
    have Sc6 := S.cell 6 _ rfl
    have Sc7 := S.cell 7 _ rfl
    have Sc8 := S.cell 8 _ rfl
    have Sl := S.lt
    have Xc0 := X.cell 0 _ rfl
    have Xc1 := X.cell 1 _ rfl
    have Xc2 := X.cell 2 _ rfl
    have Xl := X.lt
    go_upto_region 4 with fail
    clear Lc0 Lc1 Lc2 Lc3 Lc4 Lc5 Lc6 Lc7 Lc8 Lc9 Lc10 Ll Sc0 Sc1 Sc2 Sc3 Sc4 Sc5 Sc6 Sc7 Sc8 Sl Xc0 Xc1 Xc2 Xl
    refine wp_region_lit ?_
    refine load_cells rfl 31 (.tmp 4) rfl (w.heap.size + 1) rfl (stv k ax ay fx fy u gn false true) S Tryd.underlying31 rfl state_size ?_
    refine store_new rfl 31 (.tmp 6) (.tmp 22) rfl (w.heap.size + 1 + 1 + 1) rfl (stv k ax ay fx fy u gn false true) rfl _ D (by simp) state_size rfl ?_
    intro wz K N
    clear L S X
    go_wp2
    exact bodyPost_ret (v := .tuple #[sta k ax ay fx fy u gn false true, .bool true]) (res_cells_tmp rfl (w.heap.size + 1 + 1 + 1) rfl (stv k ax ay fx fy u gn false true) N (.bool true) rfl Tryd.underlying31 rfl state_size) rfl ⟨⟨_, _, _, _, _, _, _, _, _, ES.out, by rw [E.out]⟩, kp_below H.out K (by omega)⟩
  by_cases h3 : k = t
  · have d3 : (k == t) = true := beq_iff_eq.2 h3
    have E0 : eoB i t x y ws gs fp fq fs fz b k ax ay fx fy u gn false false s p z = false := by subst h3; simp [eoB]
    have ES := Lib.hid (show esS i t x y ws gs fp fq fs fz b k ax ay fx fy u gn false false s p z = ⟨0, 0, 0, 0, 0, 0, 0, false, false⟩ by simp [esS, E0])
    have E := Lib.hid E0
    clear E0
    have T := Lib.hid T
    clear h1 h2 hS hlv how hgm hfr hkt sb hk9 lv gl h3
    have L : CellsAt ((((w.alloc (.cells #[.int .i64 i, .int .i64 t, .int .i64 x, .int .i64 y, .slice A n c, .slice G m kk, .int .i64 fp, .int .i64 fq, .int .i64 fs, .int .i64 fz, .int .i64 b] 29)).alloc (.cells #[.int .i64 k, .int .i64 ax, .int .i64 ay, .int .i64 fx, .int .i64 fy, .int .i64 u, .int .i64 gn, .bool false, .bool false] 31)).alloc (.cells #[.int .i64 s, .int .i64 p, .bool z] 33)).alloc (.cells #[.int .i64 0, .int .i64 0, .int .i64 0, .int .i64 0, .int .i64 0, .int .i64 0, .int .i64 0, .bool false, .bool false] 31)) w.heap.size (lvs i t x y A n c G m kk fp fq fs fz b) := (((CellsAt.new w _ _ _ rfl).alloc _).alloc _).alloc _
    have S : CellsAt ((((w.alloc (.cells #[.int .i64 i, .int .i64 t, .int .i64 x, .int .i64 y, .slice A n c, .slice G m kk, .int .i64 fp, .int .i64 fq, .int .i64 fs, .int .i64 fz, .int .i64 b] 29)).alloc (.cells #[.int .i64 k, .int .i64 ax, .int .i64 ay, .int .i64 fx, .int .i64 fy, .int .i64 u, .int .i64 gn, .bool false, .bool false] 31)).alloc (.cells #[.int .i64 s, .int .i64 p, .bool z] 33)).alloc (.cells #[.int .i64 0, .int .i64 0, .int .i64 0, .int .i64 0, .int .i64 0, .int .i64 0, .int .i64 0, .bool false, .bool false] 31)) (w.heap.size + 1) (stv k ax ay fx fy u gn false false) := ((CellsAt.new _ _ _ _ (by simp)).alloc _).alloc _
    have X : CellsAt ((((w.alloc (.cells #[.int .i64 i, .int .i64 t, .int .i64 x, .int .i64 y, .slice A n c, .slice G m kk, .int .i64 fp, .int .i64 fq, .int .i64 fs, .int .i64 fz, .int .i64 b] 29)).alloc (.cells #[.int .i64 k, .int .i64 ax, .int .i64 ay, .int .i64 fx, .int .i64 fy, .int .i64 u, .int .i64 gn, .bool false, .bool false] 31)).alloc (.cells #[.int .i64 s, .int .i64 p, .bool z] 33)).alloc (.cells #[.int .i64 0, .int .i64 0, .int .i64 0, .int .i64 0, .int .i64 0, .int .i64 0, .int .i64 0, .bool false, .bool false] 31)) (w.heap.size + 1 + 1) (ins s p z) := (CellsAt.new _ _ _ _ (by simp)).alloc _
    have D : CellsAt ((((w.alloc (.cells #[.int .i64 i, .int .i64 t, .int .i64 x, .int .i64 y, .slice A n c, .slice G m kk, .int .i64 fp, .int .i64 fq, .int .i64 fs, .int .i64 fz, .int .i64 b] 29)).alloc (.cells #[.int .i64 k, .int .i64 ax, .int .i64 ay, .int .i64 fx, .int .i64 fy, .int .i64 u, .int .i64 gn, .bool false, .bool false] 31)).alloc (.cells #[.int .i64 s, .int .i64 p, .bool z] 33)).alloc (.cells #[.int .i64 0, .int .i64 0, .int .i64 0, .int .i64 0, .int .i64 0, .int .i64 0, .int .i64 0, .bool false, .bool false] 31)) (w.heap.size + 1 + 1 + 1) (stv 0 0 0 0 0 0 0 false false) := CellsAt.new _ _ _ _ (by simp)
    have H := Lib.hid (bl_alloc (bl_alloc (bl_alloc (bl_alloc (bl_refl w) (.cells #[.int .i64 i, .int .i64 t, .int .i64 x, .int .i64 y, .slice A n c, .slice G m kk, .int .i64 fp, .int .i64 fq, .int .i64 fs, .int .i64 fz, .int .i64 b] 29)) (.cells #[.int .i64 k, .int .i64 ax, .int .i64 ay, .int .i64 fx, .int .i64 fy, .int .i64 u, .int .i64 gn, .bool false, .bool false] 31)) (.cells #[.int .i64 s, .int .i64 p, .bool z] 33)) (.cells #[.int .i64 0, .int .i64 0, .int .i64 0, .int .i64 0, .int .i64 0, .int .i64 0, .int .i64 0, .bool false, .bool false] 31))
    replace hQ := Lib.hid (hQ.out.step H.out)
    replace I := Lib.hid (I.out.step H.out)
    replace J := Lib.hid (J.out.step H.out)
    go_enter Tryd.func20, Tryd.ntmps20
    have Lc0 := L.cell 0 _ rfl
    have Lc1 := L.cell 1 _ rfl
    have Lc2 := L.cell 2 _ rfl
    have Lc3 := L.cell 3 _ rfl
    have Lc4 := L.cell 4 _ rfl
    have Lc5 := L.cell 5 _ rfl
    have Lc6 := L.cell 6 _ rfl
    have Lc7 := L.cell 7 _ rfl
    have Lc8 := L.cell 8 _ rfl
    have Lc9 := L.cell 9 _ rfl
    have Lc10 := L.cell 10 _ rfl
    have Ll := L.lt
    have Sc0 := S.cell 0 _ rfl
    have Sc1 := S.cell 1 _ rfl
    have Sc2 := S.cell 2 _ rfl
    have Sc3 := S.cell 3 _ rfl
    have Sc4 := S.cell 4 _ rfl
    have Sc5 := S.cell 5 _ rfl
    have Sc6 := S.cell 6 _ rfl
    have Sc7 := S.cell 7 _ rfl
    have Sc8 := S.cell 8 _ rfl
    have Sl := S.lt
    have Xc0 := X.cell 0 _ rfl
    have Xc1 := X.cell 1 _ rfl
    have Xc2 := X.cell 2 _ rfl
    have Xl := X.lt
    go_wp2_with fail
    refine (V.out _ I.out J.out).mono ?_
    rintro e w1 ⟨rfl, B⟩
    clear Lc0 Lc1 Lc2 Lc3 Lc4 Lc5 Lc6 Lc7 Lc8 Lc9 Lc10 Ll Sc0 Sc1 Sc2 Sc3 Sc4 Sc5 Sc6 Sc7 Sc8 Sl Xc0 Xc1 Xc2 Xl
    replace D := D.step B
    replace hQ := Lib.hid (hQ.out.step B)
    replace L := L.step B
    replace S := S.step B
    replace X := X.step B
    replace I := Lib.hid (I.out.step B)
    replace J := Lib.hid (J.out.step B)
    replace H := Lib.hid (bl_trans H.out B)
    clear B
    have Lc0 := L.cell 0 _ rfl
    have Lc1 := L.cell 1 _ rfl
    have Lc2 := L.cell 2 _ rfl
    have Lc3 := L.cell 3 _ rfl
    have Lc4 := L.cell 4 _ rfl
    have Lc5 := L.cell 5 _ rfl
    have Lc6 := L.cell 6 _ rfl
    have Lc7 := L.cell 7 _ rfl
    have Lc8 := L.cell 8 _ rfl
    have Lc9 := L.cell 9 _ rfl
    have Lc10 := L.cell 10 _ rfl
    have Ll := L.lt
    have Sc0 := S.cell 0 _ rfl
    have Sc1 := S.cell 1 _ rfl
    have Sc2 := S.cell 2 _ rfl
    have Sc3 := S.cell 3 _ rfl
    have Sc4 := S.cell 4 _ rfl
    have Sc5 := S.cell 5 _ rfl
    have Sc6 := S.cell 6 _ rfl
    have Sc7 := S.cell 7 _ rfl
    have Sc8 := S.cell 8 _ rfl
    have Sl := S.lt
    have Xc0 := X.cell 0 _ rfl
    have Xc1 := X.cell 1 _ rfl
    have Xc2 := X.cell 2 _ rfl
    have Xl := X.lt
    go_wp2_with fail
    refine (U.out _).mono ?_
    rintro e w2 ⟨rfl, B⟩
    clear Lc0 Lc1 Lc2 Lc3 Lc4 Lc5 Lc6 Lc7 Lc8 Lc9 Lc10 Ll Sc0 Sc1 Sc2 Sc3 Sc4 Sc5 Sc6 Sc7 Sc8 Sl Xc0 Xc1 Xc2 Xl
    replace D := D.step B
    replace hQ := Lib.hid (hQ.out.step B)
    replace L := L.step B
    replace S := S.step B
    replace X := X.step B
    replace I := Lib.hid (I.out.step B)
    replace J := Lib.hid (J.out.step B)
    replace H := Lib.hid (bl_trans H.out B)
    clear B
    have Lc0 := L.cell 0 _ rfl
    have Lc1 := L.cell 1 _ rfl
    have Lc2 := L.cell 2 _ rfl
    have Lc3 := L.cell 3 _ rfl
    have Lc4 := L.cell 4 _ rfl
    have Lc5 := L.cell 5 _ rfl
    have Lc6 := L.cell 6 _ rfl
    have Lc7 := L.cell 7 _ rfl
    have Lc8 := L.cell 8 _ rfl
    have Lc9 := L.cell 9 _ rfl
    have Lc10 := L.cell 10 _ rfl
    have Ll := L.lt
    have Sc0 := S.cell 0 _ rfl
    have Sc1 := S.cell 1 _ rfl
    have Sc2 := S.cell 2 _ rfl
    have Sc3 := S.cell 3 _ rfl
    have Sc4 := S.cell 4 _ rfl
    have Sc5 := S.cell 5 _ rfl
    have Sc6 := S.cell 6 _ rfl
    have Sc7 := S.cell 7 _ rfl
    have Sc8 := S.cell 8 _ rfl
    have Sl := S.lt
    have Xc0 := X.cell 0 _ rfl
    have Xc1 := X.cell 1 _ rfl
    have Xc2 := X.cell 2 _ rfl
    have Xl := X.lt
    go_wp2_with fail
    refine (T.out _).mono ?_
    rintro e w3 ⟨rfl, B⟩
    clear Lc0 Lc1 Lc2 Lc3 Lc4 Lc5 Lc6 Lc7 Lc8 Lc9 Lc10 Ll Sc0 Sc1 Sc2 Sc3 Sc4 Sc5 Sc6 Sc7 Sc8 Sl Xc0 Xc1 Xc2 Xl
    replace D := D.step B
    replace hQ := Lib.hid (hQ.out.step B)
    replace L := L.step B
    replace S := S.step B
    replace X := X.step B
    replace I := Lib.hid (I.out.step B)
    replace J := Lib.hid (J.out.step B)
    replace H := Lib.hid (bl_trans H.out B)
    clear B
    have Lc0 := L.cell 0 _ rfl
    have Lc1 := L.cell 1 _ rfl
    have Lc2 := L.cell 2 _ rfl
    have Lc3 := L.cell 3 _ rfl
    have Lc4 := L.cell 4 _ rfl
    have Lc5 := L.cell 5 _ rfl
    have Lc6 := L.cell 6 _ rfl
    have Lc7 := L.cell 7 _ rfl
    have Lc8 := L.cell 8 _ rfl
    have Lc9 := L.cell 9 _ rfl
    have Lc10 := L.cell 10 _ rfl
    have Ll := L.lt
    have Sc0 := S.cell 0 _ rfl
    have Sc1 := S.cell 1 _ rfl
    have Sc2 := S.cell 2 _ rfl
    have Sc3 := S.cell 3 _ rfl
    have Sc4 := S.cell 4 _ rfl
    have Sc5 := S.cell 5 _ rfl
    have Sc6 := S.cell 6 _ rfl
    have Sc7 := S.cell 7 _ rfl
    have Sc8 := S.cell 8 _ rfl
    have Sl := S.lt
    have Xc0 := X.cell 0 _ rfl
    have Xc1 := X.cell 1 _ rfl
    have Xc2 := X.cell 2 _ rfl
    have Xl := X.lt
    go_upto_region 6 with fail
    clear Lc0 Lc1 Lc2 Lc3 Lc4 Lc5 Lc6 Lc7 Lc8 Lc9 Lc10 Ll Sc0 Sc1 Sc2 Sc3 Sc4 Sc5 Sc6 Sc7 Sc8 Sl Xc0 Xc1 Xc2 Xl
    go_wp2_with (refine store_new rfl 31 (.tmp 6) (.tmp 29) rfl (w.heap.size + 1 + 1 + 1) rfl (stv 0 0 0 0 0 0 0 false false) rfl _ D (by simp) state_size rfl ?_)
    intro wz K N
    go_wp2
    exact bodyPost_ret (v := .tuple #[sta 0 0 0 0 0 0 0 false false, .bool false]) (res_cells_tmp rfl (w.heap.size + 1 + 1 + 1) rfl (stv 0 0 0 0 0 0 0 false false) N (.bool false) rfl Tryd.underlying31 rfl state_size) rfl ⟨⟨_, _, _, _, _, _, _, _, _, ES.out, by rw [E.out]⟩, kp_below H.out K (by omega)⟩
  have d3 : (k == t) = false := beq_eq_false_iff_ne.2 h3
  have C := Lib.hid (fun (W : World) (Z : Boxes W A n ws) (Y : Boxes W G m gs) (R : Quarter W) => implAfter i t x y A n c G m kk fp fq fs fz b ws gs k ax ay fx fy u gn s p z W Z Y R lv.2.2.2.2.1 lv.2.2.2.2.2.2.1 lv.2.2.2.2.2.2.2.1 hn hm hS hk9 sb.1.1 sb.1.2 (fun e => (sb.2.2 e).1))
  have E0 : eoB i t x y ws gs fp fq fs fz b k ax ay fx fy u gn false false s p z = true := by have d4 : decide (t ≤ k) = false := decide_eq_false (by omega); simp [eoB, h1, h2, d4]
  have ES := Lib.hid (show esS i t x y ws gs fp fq fs fz b k ax ay fx fy u gn false false s p z = stS ws gs fp fq fs fz ⟨k, ax, ay, fx, fy, u, gn, false, false⟩ ⟨s, p, z⟩ by simp [esS, E0])
  have E := Lib.hid E0
  clear E0 h1 h2 gl
  have T := Lib.hid T
  clear hS hlv how hgm hfr hkt sb hk9 lv h3
  have L : CellsAt ((((w.alloc (.cells #[.int .i64 i, .int .i64 t, .int .i64 x, .int .i64 y, .slice A n c, .slice G m kk, .int .i64 fp, .int .i64 fq, .int .i64 fs, .int .i64 fz, .int .i64 b] 29)).alloc (.cells #[.int .i64 k, .int .i64 ax, .int .i64 ay, .int .i64 fx, .int .i64 fy, .int .i64 u, .int .i64 gn, .bool false, .bool false] 31)).alloc (.cells #[.int .i64 s, .int .i64 p, .bool z] 33)).alloc (.cells #[.int .i64 0, .int .i64 0, .int .i64 0, .int .i64 0, .int .i64 0, .int .i64 0, .int .i64 0, .bool false, .bool false] 31)) w.heap.size (lvs i t x y A n c G m kk fp fq fs fz b) := (((CellsAt.new w _ _ _ rfl).alloc _).alloc _).alloc _
  have S : CellsAt ((((w.alloc (.cells #[.int .i64 i, .int .i64 t, .int .i64 x, .int .i64 y, .slice A n c, .slice G m kk, .int .i64 fp, .int .i64 fq, .int .i64 fs, .int .i64 fz, .int .i64 b] 29)).alloc (.cells #[.int .i64 k, .int .i64 ax, .int .i64 ay, .int .i64 fx, .int .i64 fy, .int .i64 u, .int .i64 gn, .bool false, .bool false] 31)).alloc (.cells #[.int .i64 s, .int .i64 p, .bool z] 33)).alloc (.cells #[.int .i64 0, .int .i64 0, .int .i64 0, .int .i64 0, .int .i64 0, .int .i64 0, .int .i64 0, .bool false, .bool false] 31)) (w.heap.size + 1) (stv k ax ay fx fy u gn false false) := ((CellsAt.new _ _ _ _ (by simp)).alloc _).alloc _
  have X : CellsAt ((((w.alloc (.cells #[.int .i64 i, .int .i64 t, .int .i64 x, .int .i64 y, .slice A n c, .slice G m kk, .int .i64 fp, .int .i64 fq, .int .i64 fs, .int .i64 fz, .int .i64 b] 29)).alloc (.cells #[.int .i64 k, .int .i64 ax, .int .i64 ay, .int .i64 fx, .int .i64 fy, .int .i64 u, .int .i64 gn, .bool false, .bool false] 31)).alloc (.cells #[.int .i64 s, .int .i64 p, .bool z] 33)).alloc (.cells #[.int .i64 0, .int .i64 0, .int .i64 0, .int .i64 0, .int .i64 0, .int .i64 0, .int .i64 0, .bool false, .bool false] 31)) (w.heap.size + 1 + 1) (ins s p z) := (CellsAt.new _ _ _ _ (by simp)).alloc _
  have D : CellsAt ((((w.alloc (.cells #[.int .i64 i, .int .i64 t, .int .i64 x, .int .i64 y, .slice A n c, .slice G m kk, .int .i64 fp, .int .i64 fq, .int .i64 fs, .int .i64 fz, .int .i64 b] 29)).alloc (.cells #[.int .i64 k, .int .i64 ax, .int .i64 ay, .int .i64 fx, .int .i64 fy, .int .i64 u, .int .i64 gn, .bool false, .bool false] 31)).alloc (.cells #[.int .i64 s, .int .i64 p, .bool z] 33)).alloc (.cells #[.int .i64 0, .int .i64 0, .int .i64 0, .int .i64 0, .int .i64 0, .int .i64 0, .int .i64 0, .bool false, .bool false] 31)) (w.heap.size + 1 + 1 + 1) (stv 0 0 0 0 0 0 0 false false) := CellsAt.new _ _ _ _ (by simp)
  have H := Lib.hid (bl_alloc (bl_alloc (bl_alloc (bl_alloc (bl_refl w) (.cells #[.int .i64 i, .int .i64 t, .int .i64 x, .int .i64 y, .slice A n c, .slice G m kk, .int .i64 fp, .int .i64 fq, .int .i64 fs, .int .i64 fz, .int .i64 b] 29)) (.cells #[.int .i64 k, .int .i64 ax, .int .i64 ay, .int .i64 fx, .int .i64 fy, .int .i64 u, .int .i64 gn, .bool false, .bool false] 31)) (.cells #[.int .i64 s, .int .i64 p, .bool z] 33)) (.cells #[.int .i64 0, .int .i64 0, .int .i64 0, .int .i64 0, .int .i64 0, .int .i64 0, .int .i64 0, .bool false, .bool false] 31))
  replace hQ := Lib.hid (hQ.out.step H.out)
  replace I := Lib.hid (I.out.step H.out)
  replace J := Lib.hid (J.out.step H.out)
  go_enter Tryd.func20, Tryd.ntmps20
  have Lc0 := L.cell 0 _ rfl
  have Lc1 := L.cell 1 _ rfl
  have Lc2 := L.cell 2 _ rfl
  have Lc3 := L.cell 3 _ rfl
  have Lc4 := L.cell 4 _ rfl
  have Lc5 := L.cell 5 _ rfl
  have Lc6 := L.cell 6 _ rfl
  have Lc7 := L.cell 7 _ rfl
  have Lc8 := L.cell 8 _ rfl
  have Lc9 := L.cell 9 _ rfl
  have Lc10 := L.cell 10 _ rfl
  have Ll := L.lt
  have Sc0 := S.cell 0 _ rfl
  have Sc1 := S.cell 1 _ rfl
  have Sc2 := S.cell 2 _ rfl
  have Sc3 := S.cell 3 _ rfl
  have Sc4 := S.cell 4 _ rfl
  have Sc5 := S.cell 5 _ rfl
  have Sc6 := S.cell 6 _ rfl
  have Sc7 := S.cell 7 _ rfl
  have Sc8 := S.cell 8 _ rfl
  have Sl := S.lt
  have Xc0 := X.cell 0 _ rfl
  have Xc1 := X.cell 1 _ rfl
  have Xc2 := X.cell 2 _ rfl
  have Xl := X.lt
  go_wp2_with fail
  refine (V.out _ I.out J.out).mono ?_
  rintro e w1 ⟨rfl, B⟩
  clear Lc0 Lc1 Lc2 Lc3 Lc4 Lc5 Lc6 Lc7 Lc8 Lc9 Lc10 Ll Sc0 Sc1 Sc2 Sc3 Sc4 Sc5 Sc6 Sc7 Sc8 Sl Xc0 Xc1 Xc2 Xl
  replace D := D.step B
  replace hQ := Lib.hid (hQ.out.step B)
  replace L := L.step B
  replace S := S.step B
  replace X := X.step B
  replace I := Lib.hid (I.out.step B)
  replace J := Lib.hid (J.out.step B)
  replace H := Lib.hid (bl_trans H.out B)
  clear B
  have Lc0 := L.cell 0 _ rfl
  have Lc1 := L.cell 1 _ rfl
  have Lc2 := L.cell 2 _ rfl
  have Lc3 := L.cell 3 _ rfl
  have Lc4 := L.cell 4 _ rfl
  have Lc5 := L.cell 5 _ rfl
  have Lc6 := L.cell 6 _ rfl
  have Lc7 := L.cell 7 _ rfl
  have Lc8 := L.cell 8 _ rfl
  have Lc9 := L.cell 9 _ rfl
  have Lc10 := L.cell 10 _ rfl
  have Ll := L.lt
  have Sc0 := S.cell 0 _ rfl
  have Sc1 := S.cell 1 _ rfl
  have Sc2 := S.cell 2 _ rfl
  have Sc3 := S.cell 3 _ rfl
  have Sc4 := S.cell 4 _ rfl
  have Sc5 := S.cell 5 _ rfl
  have Sc6 := S.cell 6 _ rfl
  have Sc7 := S.cell 7 _ rfl
  have Sc8 := S.cell 8 _ rfl
  have Sl := S.lt
  have Xc0 := X.cell 0 _ rfl
  have Xc1 := X.cell 1 _ rfl
  have Xc2 := X.cell 2 _ rfl
  have Xl := X.lt
  go_wp2_with fail
  refine (U.out _).mono ?_
  rintro e w2 ⟨rfl, B⟩
  clear Lc0 Lc1 Lc2 Lc3 Lc4 Lc5 Lc6 Lc7 Lc8 Lc9 Lc10 Ll Sc0 Sc1 Sc2 Sc3 Sc4 Sc5 Sc6 Sc7 Sc8 Sl Xc0 Xc1 Xc2 Xl
  replace D := D.step B
  replace hQ := Lib.hid (hQ.out.step B)
  replace L := L.step B
  replace S := S.step B
  replace X := X.step B
  replace I := Lib.hid (I.out.step B)
  replace J := Lib.hid (J.out.step B)
  replace H := Lib.hid (bl_trans H.out B)
  clear B
  have Lc0 := L.cell 0 _ rfl
  have Lc1 := L.cell 1 _ rfl
  have Lc2 := L.cell 2 _ rfl
  have Lc3 := L.cell 3 _ rfl
  have Lc4 := L.cell 4 _ rfl
  have Lc5 := L.cell 5 _ rfl
  have Lc6 := L.cell 6 _ rfl
  have Lc7 := L.cell 7 _ rfl
  have Lc8 := L.cell 8 _ rfl
  have Lc9 := L.cell 9 _ rfl
  have Lc10 := L.cell 10 _ rfl
  have Ll := L.lt
  have Sc0 := S.cell 0 _ rfl
  have Sc1 := S.cell 1 _ rfl
  have Sc2 := S.cell 2 _ rfl
  have Sc3 := S.cell 3 _ rfl
  have Sc4 := S.cell 4 _ rfl
  have Sc5 := S.cell 5 _ rfl
  have Sc6 := S.cell 6 _ rfl
  have Sc7 := S.cell 7 _ rfl
  have Sc8 := S.cell 8 _ rfl
  have Sl := S.lt
  have Xc0 := X.cell 0 _ rfl
  have Xc1 := X.cell 1 _ rfl
  have Xc2 := X.cell 2 _ rfl
  have Xl := X.lt
  go_wp2_with fail
  refine (T.out _).mono ?_
  rintro e w3 ⟨rfl, B⟩
  clear Lc0 Lc1 Lc2 Lc3 Lc4 Lc5 Lc6 Lc7 Lc8 Lc9 Lc10 Ll Sc0 Sc1 Sc2 Sc3 Sc4 Sc5 Sc6 Sc7 Sc8 Sl Xc0 Xc1 Xc2 Xl
  replace D := D.step B
  replace hQ := Lib.hid (hQ.out.step B)
  replace L := L.step B
  replace S := S.step B
  replace X := X.step B
  replace I := Lib.hid (I.out.step B)
  replace J := Lib.hid (J.out.step B)
  replace H := Lib.hid (bl_trans H.out B)
  clear B
  have Lc0 := L.cell 0 _ rfl
  have Lc1 := L.cell 1 _ rfl
  have Lc2 := L.cell 2 _ rfl
  have Lc3 := L.cell 3 _ rfl
  have Lc4 := L.cell 4 _ rfl
  have Lc5 := L.cell 5 _ rfl
  have Lc6 := L.cell 6 _ rfl
  have Lc7 := L.cell 7 _ rfl
  have Lc8 := L.cell 8 _ rfl
  have Lc9 := L.cell 9 _ rfl
  have Lc10 := L.cell 10 _ rfl
  have Ll := L.lt
  have Sc0 := S.cell 0 _ rfl
  have Sc1 := S.cell 1 _ rfl
  have Sc2 := S.cell 2 _ rfl
  have Sc3 := S.cell 3 _ rfl
  have Sc4 := S.cell 4 _ rfl
  have Sc5 := S.cell 5 _ rfl
  have Sc6 := S.cell 6 _ rfl
  have Sc7 := S.cell 7 _ rfl
  have Sc8 := S.cell 8 _ rfl
  have Sl := S.lt
  have Xc0 := X.cell 0 _ rfl
  have Xc1 := X.cell 1 _ rfl
  have Xc2 := X.cell 2 _ rfl
  have Xl := X.lt
  go_upto_region 7 with fail
  clear Lc0 Lc1 Lc2 Lc3 Lc4 Lc5 Lc6 Lc7 Lc8 Lc9 Lc10 Ll Sc0 Sc1 Sc2 Sc3 Sc4 Sc5 Sc6 Sc7 Sc8 Sl Xc0 Xc1 Xc2 Xl
  refine wp_region_held_drew (S := fun w' => CellsAt w' w.heap.size (lvs i t x y A n c G m kk fp fq fs fz b) ∧ CellsAt w' (w.heap.size + 1) (stv k ax ay fx fy u gn false false) ∧ CellsAt w' (w.heap.size + 1 + 1) (ins s p z)) (by kernel_rfl) ⟨L.drew, S.drew, X.drew⟩ (fun hHeld => ?_)
  replace L := L.drew
  replace S := S.drew
  replace X := X.drew
  replace D := D.drew
  replace I := Lib.hid I.out.drew
  replace J := Lib.hid J.out.drew
  replace H := Lib.hid (bl_drew1 H.out)
  replace hQ := Lib.hid (hQ.out.step (bl_refl _).drew)
  refine wpAnyH_take (i := 0) (oi := _) (v := .agg (stv k ax ay fx fy u gn false false).toArray) rfl (by kernel_rfl) (by kernel_rfl) (by kernel_rfl) (fun _ _ _ h => h) (yieldsIf_load_mid (by rfl) 31 (.tmp 4) rfl (w.heap.size + 1) 0 rfl (stv k ax ay fx fy u gn false false) _ (fun W hS => hS.2.1.range) Tryd.underlying31 rfl state_size) hHeld ?_
  try simp only [Act.put, List.getElem_toArray, List.getElem_cons_zero, List.setIfInBounds_toArray, List.set_cons_zero, List.set_cons_succ]
  refine wpAnyH_take (i := 1) (oi := _) (v := .agg (lvs i t x y A n c G m kk fp fq fs fz b).toArray) rfl (by kernel_rfl) (by kernel_rfl) (by kernel_rfl) (fun _ _ _ h => h) (yieldsIf_load_mid (by rfl) 29 (.tmp 3) rfl w.heap.size 0 rfl (lvs i t x y A n c G m kk fp fq fs fz b) _ (fun W hS => hS.1.range) Tryd.underlying29 rfl level_size) hHeld ?_
  try simp only [Act.put, List.getElem_toArray, List.getElem_cons_succ, List.getElem_cons_zero, List.setIfInBounds_toArray, List.set_cons_zero, List.set_cons_succ]
  refine wpAnyH_take (i := 2) (oi := _) (v := .agg (ins s p z).toArray) rfl (by kernel_rfl) (by kernel_rfl) (by kernel_rfl) (fun _ _ _ h => h) (yieldsIf_load_mid (by rfl) 33 (.tmp 5) rfl (w.heap.size + 1 + 1) 0 rfl (ins s p z) _ (fun W hS => hS.2.2.range) Tryd.underlying33 rfl input_size) hHeld ?_
  try simp only [Act.put, List.getElem_toArray, List.getElem_cons_succ, List.getElem_cons_zero, List.setIfInBounds_toArray, List.set_cons_zero, List.set_cons_succ]
  refine wpAnyH_ready (rs := [3]) (by kernel_rfl) (by simp) ?_
  apply AllReadyH.cons rfl ?_ AllReadyH.nil
  intro K hK
  rw [if_pos (by rfl)]
  refine wp_call_fn ⟨_, Tryd.func48, by kernel_rfl, by rfl⟩ _ _ rfl #[inp s p z] (by simp only [List.map_toArray, List.map_cons, List.map_nil]; rfl) (implControl s p z _) (bel_back fun wa B => ?_)
  replace L := L.step B
  replace S := S.step B
  replace X := X.step B
  replace D := D.step B
  replace I := Lib.hid (I.out.step B)
  replace J := Lib.hid (J.out.step B)
  replace H := Lib.hid (bl_trans H.out B)
  replace hQ := Lib.hid (hQ.out.step B)
  clear B hHeld
  refine hK.out _ _ ⟨L, S, X⟩ (fun hHeld => ?_)
  clear hK K
  try simp only [Act.put, List.getElem_toArray, List.getElem_cons_succ, List.getElem_cons_zero, List.setIfInBounds_toArray, List.set_cons_zero, List.set_cons_succ]
  refine wpAnyH_ready (rs := [4]) (by kernel_rfl) (by simp) ?_
  apply AllReadyH.cons rfl ?_ AllReadyH.nil
  intro K hK
  rw [if_pos (by rfl)]
  refine wp_call_fn ⟨_, Tryd.func47, by kernel_rfl, by rfl⟩ _ _ rfl #[sta k ax ay fx fy u gn false false, lev i t x y A n c G m kk fp fq fs fz b, ctl s p z] (by simp only [List.map_toArray, List.map_cons, List.map_nil]; rfl) (C.out _ I.out J.out hQ.out) ?_
  rintro e wb ⟨⟨K', X', Y', P', Q', U', V', D', O', eM, rfl⟩, B⟩
  refine ⟨_, rfl, ?_⟩
  replace L := L.step B
  replace S := S.step B
  replace X := X.step B
  replace D := D.step B
  replace I := Lib.hid (I.out.step B)
  replace J := Lib.hid (J.out.step B)
  replace H := Lib.hid (bl_trans H.out B)
  replace hQ := Lib.hid (hQ.out.step B)
  clear B hHeld
  replace ES := Lib.hid (ES.out.trans eM)
  clear eM
  refine hK.out _ _ ⟨L, S, X⟩ (fun hHeld => ?_)
  clear hK K
  try simp only [Act.put, List.getElem_toArray, List.getElem_cons_succ, List.getElem_cons_zero, List.setIfInBounds_toArray, List.set_cons_zero, List.set_cons_succ]
  refine wpAnyH_ready (rs := [5]) (by kernel_rfl) (by simp) ?_
  apply AllReadyH.cons rfl ?_ AllReadyH.nil
  intro K hK
  rw [if_pos (by rfl)]
  refine wp_store_new 31 (.tmp 6) (.tmp 34) rfl (w.heap.size + 1 + 1 + 1) rfl (stv K' X' Y' P' Q' U' V' D' O') rfl _ D (by simp) state_size rfl ?_
  intro wc K N
  replace L := L.kept K (by omega)
  replace S := S.kept K (by omega)
  replace X := X.kept K (by omega)
  replace H := Lib.hid (kp_below H.out K (by omega))
  clear K hHeld D
  refine hK.out _ _ ⟨L, S, X⟩ (fun hHeld => ?_)
  clear hK K
  try simp only [Act.put, List.getElem_toArray, List.getElem_cons_succ, List.getElem_cons_zero]
  refine wpAnyH_take (i := 6) (oi := _) (v := ?_) rfl (by kernel_rfl) (by kernel_rfl) (by kernel_rfl) (fun _ _ _ h => h) (Or.inl ⟨by rfl, ?_⟩) hHeld ?_
  rotate_left
  · intro w hSw
    try dsimp only at hSw
    go_simp
    all_goals with_reducible rfl
  try simp only [Act.put, List.getElem_toArray, List.getElem_cons_succ, List.getElem_cons_zero, List.setIfInBounds_toArray, List.set_cons_zero, List.set_cons_succ]
  refine wpAnyH_done (by kernel_rfl) ?_ _
  go_wp2
  exact bodyPost_ret (v := .tuple #[sta K' X' Y' P' Q' U' V' D' O', .bool true]) (res_cells_tmp rfl (w.heap.size + 1 + 1 + 1) rfl (stv K' X' Y' P' Q' U' V' D' O') N (.bool true) rfl Tryd.underlying31 rfl state_size) rfl ⟨⟨_, _, _, _, _, _, _, _, _, ES.out, by rw [E.out]⟩, H.out⟩

end Go.Proofs.YtnoenjociioffaaDoor
