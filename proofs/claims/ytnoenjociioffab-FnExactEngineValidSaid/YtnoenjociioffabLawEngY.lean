/-
  The walks of the exact laws of chapter 13 on levels.
-/
import Derived.Test.YtnoenjociioffabLawLevX
import Derived.Test.YtnoenjociioffabToSt
import Derived.Test.YtnoenjociioffabEngH
import Derived.Test.YtnoenjociioffabEngP
import Derived.Test.YtnoenjociioffabEngVal
import Derived.Test.YtnoenjociioffabEngOwn
namespace Go.Proofs.Ytnoenjociioffab
open Go.RowKit
open M

set_option maxRecDepth 100000 in
set_option maxHeartbeats 4000000 in
theorem walk_FnExactEngineStart (i t x y : Int) (A : Option Addr) (n c : Nat) (G : Option Addr) (m kk : Nat) (p q s z b : Int) (ws gs : List Bx) (w : World) (I : Boxes w A n ws) (J : Boxes w G m gs) (hN0 : n ≤ 9223372036854775807) (hM0 : m ≤ 9223372036854775807) :
    Calls Try.prog 7 #[lev i t x y A n c G m kk p q s z b] w fun e w' => e = .returned (.bool true) ∧ Below w.heap.size w w' := by
  have I := Lib.hid I
  have J := Lib.hid J
  by_cases big : 1048576 < n + m
  · have C := Lib.hid (fun W => szLev_no i t x y A n c G m kk p q s z b W big hN0 hM0)
    go_enter Try.func7, Try.ntmps7
    go_wp2_with fail
    refine (C.out _).mono ?_
    rintro e w1 ⟨rfl, B⟩
    have H := Lib.hid (bl_trans (bl_alloc (bl_refl w) _) B)
    clear B
    go_wp2
    go_ret
    exact ⟨rfl, H.out⟩
  have C := Lib.hid (fun W => szLev_ok i t x y A n c G m kk p q s z b W (by omega))
  have h1 : n ≤ 1048576 := by omega
  have h2 : m ≤ 1048576 := by omega
  have g0 : (0 : Int) ≤ 1048576 - n - m := by omega
  have hN : n ≤ 281474976710656 := by omega
  have hM : m ≤ 281474976710656 := by omega
  clear big hN0 hM0
  obtain ⟨sk, sa, sb, sc, sd, su, sg, sx, sy, hst⟩ : ∃ k a b' c' d e f h i', (if lvB i t x y ws gs p q s z b then sta 0 x y 0 0 0 0 false false else sta 0 0 0 0 0 0 0 false false) = sta k a b' c' d e f h i' := by
    split
    · exact ⟨_, _, _, _, _, _, _, _, _, rfl⟩
    · exact ⟨_, _, _, _, _, _, _, _, _, rfl⟩
  obtain ⟨rr, hrr⟩ : ∃ rr, lvB i t x y ws gs p q s z b = rr := ⟨_, rfl⟩
  have hrn : (rr != rr) = false := by cases rr <;> rfl
  have hst := Lib.hid hst
  have hrr := Lib.hid hrr
  go_enter Try.func7, Try.ntmps7
  go_wp2_with fail
  refine (C.out _).mono ?_
  rintro e w1 ⟨rfl, B⟩
  have P : CellsAt w1 w.heap.size (lvs i t x y A n c G m kk p q s z b) := (CellsAt.new w _ _ _ rfl).step B
  replace I := Lib.hid ((I.out.alloc _).step B)
  replace J := Lib.hid ((J.out.alloc _).step B)
  have H := Lib.hid (bl_trans (bl_alloc (bl_refl w) _) B)
  clear B C
  have Pc0 := P.cell 0 _ rfl
  have Pc1 := P.cell 1 _ rfl
  have Pc2 := P.cell 2 _ rfl
  have Pc3 := P.cell 3 _ rfl
  have Pc4 := P.cell 4 _ rfl
  have Pc5 := P.cell 5 _ rfl
  have Pc6 := P.cell 6 _ rfl
  have Pc7 := P.cell 7 _ rfl
  have Pc8 := P.cell 8 _ rfl
  have Pc9 := P.cell 9 _ rfl
  have Pc10 := P.cell 10 _ rfl
  have Pl := P.lt
  go_wp2_with fail
  refine (toLevel_any i t x y A n c G m kk p q s z b ws gs _ I.out J.out h1 h2).mono ?_
  rintro e w2 ⟨u1, v1, rfl, I1, J1, B⟩
  clear Pc0 Pc1 Pc2 Pc3 Pc4 Pc5 Pc6 Pc7 Pc8 Pc9 Pc10 Pl
  replace P := P.step B
  replace I := Lib.hid (I.out.step B)
  replace J := Lib.hid (J.out.step B)
  replace H := Lib.hid (bl_trans H.out B)
  clear B
  replace I1 := Lib.hid I1
  replace J1 := Lib.hid J1
  have S := Lib.hid (fun (W : World) (Z : Boxes W (some ⟨u1, 0, none⟩) n ws) (Y : Boxes W (some ⟨v1, 0, none⟩) m gs) => (show Calls Try.prog 13 #[lev i t x y (some ⟨u1, 0, none⟩) n n (some ⟨v1, 0, none⟩) m m p q s z b] W (fun e w' => e = .returned (.tuple #[sta sk sa sb sc sd su sg sx sy, .bool rr]) ∧ Below W.heap.size W w') from by have t := specEStart i t x y (some ⟨u1, 0, none⟩) n n (some ⟨v1, 0, none⟩) m m p q s z b ws gs W Z Y hN hM; rw [hst.out, hrr.out] at t; exact t))
  have Pc0 := P.cell 0 _ rfl
  have Pc1 := P.cell 1 _ rfl
  have Pc2 := P.cell 2 _ rfl
  have Pc3 := P.cell 3 _ rfl
  have Pc4 := P.cell 4 _ rfl
  have Pc5 := P.cell 5 _ rfl
  have Pc6 := P.cell 6 _ rfl
  have Pc7 := P.cell 7 _ rfl
  have Pc8 := P.cell 8 _ rfl
  have Pc9 := P.cell 9 _ rfl
  have Pc10 := P.cell 10 _ rfl
  have Pl := P.lt
  go_wp2_with fail
  refine (S.out _ I1.out J1.out).mono ?_
  rintro e w3 ⟨rfl, B⟩
  clear Pc0 Pc1 Pc2 Pc3 Pc4 Pc5 Pc6 Pc7 Pc8 Pc9 Pc10 Pl
  replace P := P.step B
  replace I := Lib.hid (I.out.step B)
  replace J := Lib.hid (J.out.step B)
  replace I1 := Lib.hid (I1.out.step B)
  replace J1 := Lib.hid (J1.out.step B)
  replace H := Lib.hid (bl_trans H.out B)
  clear B
  clear S I1 J1
  have T4 : CellsAt (w3.alloc (.cells #[.int .i64 sk, .int .i64 sa, .int .i64 sb, .int .i64 sc, .int .i64 sd, .int .i64 su, .int .i64 sg, .bool sx, .bool sy] 32)) w3.heap.size (stv sk sa sb sc sd su sg sx sy) := CellsAt.new _ _ _ _ rfl
  replace P := P.alloc (.cells #[.int .i64 sk, .int .i64 sa, .int .i64 sb, .int .i64 sc, .int .i64 sd, .int .i64 su, .int .i64 sg, .bool sx, .bool sy] 32)
  replace I := Lib.hid (I.out.alloc (.cells #[.int .i64 sk, .int .i64 sa, .int .i64 sb, .int .i64 sc, .int .i64 sd, .int .i64 su, .int .i64 sg, .bool sx, .bool sy] 32))
  replace J := Lib.hid (J.out.alloc (.cells #[.int .i64 sk, .int .i64 sa, .int .i64 sb, .int .i64 sc, .int .i64 sd, .int .i64 su, .int .i64 sg, .bool sx, .bool sy] 32))
  replace H := Lib.hid (bl_alloc H.out (.cells #[.int .i64 sk, .int .i64 sa, .int .i64 sb, .int .i64 sc, .int .i64 sd, .int .i64 su, .int .i64 sg, .bool sx, .bool sy] 32))
  have Pc0 := P.cell 0 _ rfl
  have Pc1 := P.cell 1 _ rfl
  have Pc2 := P.cell 2 _ rfl
  have Pc3 := P.cell 3 _ rfl
  have Pc4 := P.cell 4 _ rfl
  have Pc5 := P.cell 5 _ rfl
  have Pc6 := P.cell 6 _ rfl
  have Pc7 := P.cell 7 _ rfl
  have Pc8 := P.cell 8 _ rfl
  have Pc9 := P.cell 9 _ rfl
  have Pc10 := P.cell 10 _ rfl
  have Pl := P.lt
  have T4c0 := T4.cell 0 _ rfl
  have T4c1 := T4.cell 1 _ rfl
  have T4c2 := T4.cell 2 _ rfl
  have T4c3 := T4.cell 3 _ rfl
  have T4c4 := T4.cell 4 _ rfl
  have T4c5 := T4.cell 5 _ rfl
  have T4c6 := T4.cell 6 _ rfl
  have T4c7 := T4.cell 7 _ rfl
  have T4c8 := T4.cell 8 _ rfl
  have T4l := T4.lt
  go_wp2_with fail
  refine (toLevel_any i t x y A n c G m kk p q s z b ws gs _ I.out J.out h1 h2).mono ?_
  rintro e w4 ⟨u2, v2, rfl, I2, J2, B⟩
  clear Pc0 Pc1 Pc2 Pc3 Pc4 Pc5 Pc6 Pc7 Pc8 Pc9 Pc10 Pl T4c0 T4c1 T4c2 T4c3 T4c4 T4c5 T4c6 T4c7 T4c8 T4l
  replace P := P.step B
  replace T4 := T4.step B
  replace I := Lib.hid (I.out.step B)
  replace J := Lib.hid (J.out.step B)
  replace H := Lib.hid (bl_trans H.out B)
  clear B
  replace I2 := Lib.hid I2
  replace J2 := Lib.hid J2
  have X : CellsAt (w4.alloc (.cells #[.int .i64 i, .int .i64 t, .int .i64 x, .int .i64 y, .slice (some ⟨u2, 0, none⟩) n n, .slice (some ⟨v2, 0, none⟩) m m, .int .i64 p, .int .i64 q, .int .i64 s, .int .i64 z, .int .i64 b] 29)) w4.heap.size (lvs i t x y (some ⟨u2, 0, none⟩) n n (some ⟨v2, 0, none⟩) m m p q s z b) := CellsAt.new _ _ _ _ rfl
  replace P := P.alloc (.cells #[.int .i64 i, .int .i64 t, .int .i64 x, .int .i64 y, .slice (some ⟨u2, 0, none⟩) n n, .slice (some ⟨v2, 0, none⟩) m m, .int .i64 p, .int .i64 q, .int .i64 s, .int .i64 z, .int .i64 b] 29)
  replace T4 := T4.alloc (.cells #[.int .i64 i, .int .i64 t, .int .i64 x, .int .i64 y, .slice (some ⟨u2, 0, none⟩) n n, .slice (some ⟨v2, 0, none⟩) m m, .int .i64 p, .int .i64 q, .int .i64 s, .int .i64 z, .int .i64 b] 29)
  replace I := Lib.hid (I.out.alloc (.cells #[.int .i64 i, .int .i64 t, .int .i64 x, .int .i64 y, .slice (some ⟨u2, 0, none⟩) n n, .slice (some ⟨v2, 0, none⟩) m m, .int .i64 p, .int .i64 q, .int .i64 s, .int .i64 z, .int .i64 b] 29))
  replace J := Lib.hid (J.out.alloc (.cells #[.int .i64 i, .int .i64 t, .int .i64 x, .int .i64 y, .slice (some ⟨u2, 0, none⟩) n n, .slice (some ⟨v2, 0, none⟩) m m, .int .i64 p, .int .i64 q, .int .i64 s, .int .i64 z, .int .i64 b] 29))
  replace I2 := Lib.hid (I2.out.alloc (.cells #[.int .i64 i, .int .i64 t, .int .i64 x, .int .i64 y, .slice (some ⟨u2, 0, none⟩) n n, .slice (some ⟨v2, 0, none⟩) m m, .int .i64 p, .int .i64 q, .int .i64 s, .int .i64 z, .int .i64 b] 29))
  replace J2 := Lib.hid (J2.out.alloc (.cells #[.int .i64 i, .int .i64 t, .int .i64 x, .int .i64 y, .slice (some ⟨u2, 0, none⟩) n n, .slice (some ⟨v2, 0, none⟩) m m, .int .i64 p, .int .i64 q, .int .i64 s, .int .i64 z, .int .i64 b] 29))
  replace H := Lib.hid (bl_alloc H.out (.cells #[.int .i64 i, .int .i64 t, .int .i64 x, .int .i64 y, .slice (some ⟨u2, 0, none⟩) n n, .slice (some ⟨v2, 0, none⟩) m m, .int .i64 p, .int .i64 q, .int .i64 s, .int .i64 z, .int .i64 b] 29))
  have V := Lib.hid (fun (W : World) (Z : Boxes W (some ⟨u2, 0, none⟩) n ws) (Y : Boxes W (some ⟨v2, 0, none⟩) m gs) => (show Calls Try.prog 12 #[lev i t x y (some ⟨u2, 0, none⟩) n n (some ⟨v2, 0, none⟩) m m p q s z b] W (fun e w' => e = .returned (.tuple #[sta sk sa sb sc sd su sg sx sy, .bool rr]) ∧ Below W.heap.size W w') from by have t := implEStart i t x y (some ⟨u2, 0, none⟩) n n (some ⟨v2, 0, none⟩) m m p q s z b ws gs W Z Y hN hM; rw [hst.out, hrr.out] at t; exact t))
  have Pc0 := P.cell 0 _ rfl
  have Pc1 := P.cell 1 _ rfl
  have Pc2 := P.cell 2 _ rfl
  have Pc3 := P.cell 3 _ rfl
  have Pc4 := P.cell 4 _ rfl
  have Pc5 := P.cell 5 _ rfl
  have Pc6 := P.cell 6 _ rfl
  have Pc7 := P.cell 7 _ rfl
  have Pc8 := P.cell 8 _ rfl
  have Pc9 := P.cell 9 _ rfl
  have Pc10 := P.cell 10 _ rfl
  have Pl := P.lt
  have T4c0 := T4.cell 0 _ rfl
  have T4c1 := T4.cell 1 _ rfl
  have T4c2 := T4.cell 2 _ rfl
  have T4c3 := T4.cell 3 _ rfl
  have T4c4 := T4.cell 4 _ rfl
  have T4c5 := T4.cell 5 _ rfl
  have T4c6 := T4.cell 6 _ rfl
  have T4c7 := T4.cell 7 _ rfl
  have T4c8 := T4.cell 8 _ rfl
  have T4l := T4.lt
  have Xc0 := X.cell 0 _ rfl
  have Xc1 := X.cell 1 _ rfl
  have Xc2 := X.cell 2 _ rfl
  have Xc3 := X.cell 3 _ rfl
  have Xc4 := X.cell 4 _ rfl
  have Xc5 := X.cell 5 _ rfl
  have Xc6 := X.cell 6 _ rfl
  have Xc7 := X.cell 7 _ rfl
  have Xc8 := X.cell 8 _ rfl
  have Xc9 := X.cell 9 _ rfl
  have Xc10 := X.cell 10 _ rfl
  have Xl := X.lt
  go_wp2_with fail
  refine (V.out _ I2.out J2.out).mono ?_
  rintro e w5 ⟨rfl, B⟩
  clear Pc0 Pc1 Pc2 Pc3 Pc4 Pc5 Pc6 Pc7 Pc8 Pc9 Pc10 Pl T4c0 T4c1 T4c2 T4c3 T4c4 T4c5 T4c6 T4c7 T4c8 T4l Xc0 Xc1 Xc2 Xc3 Xc4 Xc5 Xc6 Xc7 Xc8 Xc9 Xc10 Xl
  replace P := P.step B
  replace T4 := T4.step B
  replace X := X.step B
  replace I := Lib.hid (I.out.step B)
  replace J := Lib.hid (J.out.step B)
  replace I2 := Lib.hid (I2.out.step B)
  replace J2 := Lib.hid (J2.out.step B)
  replace H := Lib.hid (bl_trans H.out B)
  clear B
  clear V
  have T7 : CellsAt (w5.alloc (.cells #[.int .i64 sk, .int .i64 sa, .int .i64 sb, .int .i64 sc, .int .i64 sd, .int .i64 su, .int .i64 sg, .bool sx, .bool sy] 32)) w5.heap.size (stv sk sa sb sc sd su sg sx sy) := CellsAt.new _ _ _ _ rfl
  replace P := P.alloc (.cells #[.int .i64 sk, .int .i64 sa, .int .i64 sb, .int .i64 sc, .int .i64 sd, .int .i64 su, .int .i64 sg, .bool sx, .bool sy] 32)
  replace T4 := T4.alloc (.cells #[.int .i64 sk, .int .i64 sa, .int .i64 sb, .int .i64 sc, .int .i64 sd, .int .i64 su, .int .i64 sg, .bool sx, .bool sy] 32)
  replace X := X.alloc (.cells #[.int .i64 sk, .int .i64 sa, .int .i64 sb, .int .i64 sc, .int .i64 sd, .int .i64 su, .int .i64 sg, .bool sx, .bool sy] 32)
  replace I := Lib.hid (I.out.alloc (.cells #[.int .i64 sk, .int .i64 sa, .int .i64 sb, .int .i64 sc, .int .i64 sd, .int .i64 su, .int .i64 sg, .bool sx, .bool sy] 32))
  replace J := Lib.hid (J.out.alloc (.cells #[.int .i64 sk, .int .i64 sa, .int .i64 sb, .int .i64 sc, .int .i64 sd, .int .i64 su, .int .i64 sg, .bool sx, .bool sy] 32))
  replace I2 := Lib.hid (I2.out.alloc (.cells #[.int .i64 sk, .int .i64 sa, .int .i64 sb, .int .i64 sc, .int .i64 sd, .int .i64 su, .int .i64 sg, .bool sx, .bool sy] 32))
  replace J2 := Lib.hid (J2.out.alloc (.cells #[.int .i64 sk, .int .i64 sa, .int .i64 sb, .int .i64 sc, .int .i64 sd, .int .i64 su, .int .i64 sg, .bool sx, .bool sy] 32))
  replace H := Lib.hid (bl_alloc H.out (.cells #[.int .i64 sk, .int .i64 sa, .int .i64 sb, .int .i64 sc, .int .i64 sd, .int .i64 su, .int .i64 sg, .bool sx, .bool sy] 32))
  have Pc0 := P.cell 0 _ rfl
  have Pc1 := P.cell 1 _ rfl
  have Pc2 := P.cell 2 _ rfl
  have Pc3 := P.cell 3 _ rfl
  have Pc4 := P.cell 4 _ rfl
  have Pc5 := P.cell 5 _ rfl
  have Pc6 := P.cell 6 _ rfl
  have Pc7 := P.cell 7 _ rfl
  have Pc8 := P.cell 8 _ rfl
  have Pc9 := P.cell 9 _ rfl
  have Pc10 := P.cell 10 _ rfl
  have Pl := P.lt
  have T4c0 := T4.cell 0 _ rfl
  have T4c1 := T4.cell 1 _ rfl
  have T4c2 := T4.cell 2 _ rfl
  have T4c3 := T4.cell 3 _ rfl
  have T4c4 := T4.cell 4 _ rfl
  have T4c5 := T4.cell 5 _ rfl
  have T4c6 := T4.cell 6 _ rfl
  have T4c7 := T4.cell 7 _ rfl
  have T4c8 := T4.cell 8 _ rfl
  have T4l := T4.lt
  have Xc0 := X.cell 0 _ rfl
  have Xc1 := X.cell 1 _ rfl
  have Xc2 := X.cell 2 _ rfl
  have Xc3 := X.cell 3 _ rfl
  have Xc4 := X.cell 4 _ rfl
  have Xc5 := X.cell 5 _ rfl
  have Xc6 := X.cell 6 _ rfl
  have Xc7 := X.cell 7 _ rfl
  have Xc8 := X.cell 8 _ rfl
  have Xc9 := X.cell 9 _ rfl
  have Xc10 := X.cell 10 _ rfl
  have Xl := X.lt
  have T7c0 := T7.cell 0 _ rfl
  have T7c1 := T7.cell 1 _ rfl
  have T7c2 := T7.cell 2 _ rfl
  have T7c3 := T7.cell 3 _ rfl
  have T7c4 := T7.cell 4 _ rfl
  have T7c5 := T7.cell 5 _ rfl
  have T7c6 := T7.cell 6 _ rfl
  have T7c7 := T7.cell 7 _ rfl
  have T7c8 := T7.cell 8 _ rfl
  have T7l := T7.lt
  go_wp2_with fail
  refine (eqState_same sk sa sb sc sd su sg sx sy _).mono ?_
  rintro e w6 ⟨rfl, B⟩
  clear Pc0 Pc1 Pc2 Pc3 Pc4 Pc5 Pc6 Pc7 Pc8 Pc9 Pc10 Pl T4c0 T4c1 T4c2 T4c3 T4c4 T4c5 T4c6 T4c7 T4c8 T4l Xc0 Xc1 Xc2 Xc3 Xc4 Xc5 Xc6 Xc7 Xc8 Xc9 Xc10 Xl T7c0 T7c1 T7c2 T7c3 T7c4 T7c5 T7c6 T7c7 T7c8 T7l
  replace P := P.step B
  replace T4 := T4.step B
  replace X := X.step B
  replace T7 := T7.step B
  replace I := Lib.hid (I.out.step B)
  replace J := Lib.hid (J.out.step B)
  replace I2 := Lib.hid (I2.out.step B)
  replace J2 := Lib.hid (J2.out.step B)
  replace H := Lib.hid (bl_trans H.out B)
  clear B
  have Pc0 := P.cell 0 _ rfl
  have Pc1 := P.cell 1 _ rfl
  have Pc2 := P.cell 2 _ rfl
  have Pc3 := P.cell 3 _ rfl
  have Pc4 := P.cell 4 _ rfl
  have Pc5 := P.cell 5 _ rfl
  have Pc6 := P.cell 6 _ rfl
  have Pc7 := P.cell 7 _ rfl
  have Pc8 := P.cell 8 _ rfl
  have Pc9 := P.cell 9 _ rfl
  have Pc10 := P.cell 10 _ rfl
  have Pl := P.lt
  have T4c0 := T4.cell 0 _ rfl
  have T4c1 := T4.cell 1 _ rfl
  have T4c2 := T4.cell 2 _ rfl
  have T4c3 := T4.cell 3 _ rfl
  have T4c4 := T4.cell 4 _ rfl
  have T4c5 := T4.cell 5 _ rfl
  have T4c6 := T4.cell 6 _ rfl
  have T4c7 := T4.cell 7 _ rfl
  have T4c8 := T4.cell 8 _ rfl
  have T4l := T4.lt
  have Xc0 := X.cell 0 _ rfl
  have Xc1 := X.cell 1 _ rfl
  have Xc2 := X.cell 2 _ rfl
  have Xc3 := X.cell 3 _ rfl
  have Xc4 := X.cell 4 _ rfl
  have Xc5 := X.cell 5 _ rfl
  have Xc6 := X.cell 6 _ rfl
  have Xc7 := X.cell 7 _ rfl
  have Xc8 := X.cell 8 _ rfl
  have Xc9 := X.cell 9 _ rfl
  have Xc10 := X.cell 10 _ rfl
  have Xl := X.lt
  have T7c0 := T7.cell 0 _ rfl
  have T7c1 := T7.cell 1 _ rfl
  have T7c2 := T7.cell 2 _ rfl
  have T7c3 := T7.cell 3 _ rfl
  have T7c4 := T7.cell 4 _ rfl
  have T7c5 := T7.cell 5 _ rfl
  have T7c6 := T7.cell 6 _ rfl
  have T7c7 := T7.cell 7 _ rfl
  have T7c8 := T7.cell 8 _ rfl
  have T7l := T7.lt
  go_wp2_with fail
  clear Pc0 Pc1 Pc2 Pc3 Pc4 Pc5 Pc6 Pc7 Pc8 Pc9 Pc10 Pl T4c0 T4c1 T4c2 T4c3 T4c4 T4c5 T4c6 T4c7 T4c8 T4l Xc0 Xc1 Xc2 Xc3 Xc4 Xc5 Xc6 Xc7 Xc8 Xc9 Xc10 Xl T7c0 T7c1 T7c2 T7c3 T7c4 T7c5 T7c6 T7c7 T7c8 T7l
  refine wp_region_held_drew (S := fun w' => CellsAt w' w.heap.size (lvs i t x y A n c G m kk p q s z b) ∧ CellsAt w' w4.heap.size (lvs i t x y (some ⟨u2, 0, none⟩) n n (some ⟨v2, 0, none⟩) m m p q s z b)) (by kernel_rfl) ⟨(by repeat (first | with_reducible exact Pn | with_reducible exact P | with_reducible refine CellsAt.alloc ?_ _ | with_reducible refine CellsAt.drew ?_)), (by repeat (first | with_reducible exact Xn | with_reducible exact X | with_reducible refine CellsAt.alloc ?_ _ | with_reducible refine CellsAt.drew ?_))⟩ (fun hHeld => ?_)
  refine wpAnyH_take (i := 0) (oi := _) (v := .agg (lvs i t x y (some ⟨u2, 0, none⟩) n n (some ⟨v2, 0, none⟩) m m p q s z b).toArray) rfl (by kernel_rfl) (by kernel_rfl) (by kernel_rfl) (fun _ _ _ h => h) (yieldsIf_load_mid (by rfl) 29 (.tmp 6) rfl w4.heap.size 0 rfl (lvs i t x y (some ⟨u2, 0, none⟩) n n (some ⟨v2, 0, none⟩) m m p q s z b) _ (fun W hS => hS.2.range) Try.underlying29 rfl level_size) hHeld ?_
  try simp only [Act.put, List.getElem_toArray, List.getElem_cons_zero, List.setIfInBounds_toArray, List.set_cons_zero, List.set_cons_succ]
  refine wpAnyH_take (i := 1) (oi := _) (v := .agg (lvs i t x y A n c G m kk p q s z b).toArray) rfl (by kernel_rfl) (by kernel_rfl) (by kernel_rfl) (fun _ _ _ h => h) (yieldsIf_load_mid (by rfl) 48 (.tmp 1) rfl w.heap.size 0 rfl (lvs i t x y A n c G m kk p q s z b) _ (fun W hS => hS.1.range) Try.underlying48 rfl lawlevel_size) hHeld ?_
  try simp only [Act.put, List.getElem_toArray, List.getElem_cons_succ, List.getElem_cons_zero, List.setIfInBounds_toArray, List.set_cons_zero, List.set_cons_succ]
  refine wpAnyH_ready (rs := [2]) (by kernel_rfl) (by simp) ?_
  apply AllReadyH.cons rfl ?_ AllReadyH.nil
  intro K hK
  go_simp
  go_at_call 23
  refine (toLevel_any i t x y A n c G m kk p q s z b ws gs _ I.out.drew J.out.drew h1 h2).mono ?_
  rintro e wn ⟨u3, v3, rfl, I3, J3, B⟩
  have Pn := CellsAt.step (by first | with_reducible exact P.drew | with_reducible exact P) B
  have Xn := CellsAt.step (by first | with_reducible exact X.drew | with_reducible exact X) B
  have I2n := Lib.hid (Boxes.step (by first | with_reducible exact I2.out.drew | with_reducible exact I2.out) B)
  have J2n := Lib.hid (Boxes.step (by first | with_reducible exact J2.out.drew | with_reducible exact J2.out) B)
  have Hn := Lib.hid (bl_trans (by first | with_reducible exact bl_drew1 H.out | with_reducible exact H.out) B)
  replace I3 := Lib.hid I3
  replace J3 := Lib.hid J3
  clear B
  clear hHeld
  go_wp2_with fail
  refine hK.out _ _ ⟨(by repeat (first | with_reducible exact Pn | with_reducible exact P | with_reducible refine CellsAt.alloc ?_ _ | with_reducible refine CellsAt.drew ?_)), (by repeat (first | with_reducible exact Xn | with_reducible exact X | with_reducible refine CellsAt.alloc ?_ _ | with_reducible refine CellsAt.drew ?_))⟩ (fun hHeld => ?_)
  clear hK K
  try simp only [Act.put, List.getElem_toArray, List.getElem_cons_succ, List.getElem_cons_zero, List.setIfInBounds_toArray, List.set_cons_zero, List.set_cons_succ]
  refine wpAnyH_ready (rs := [3]) (by kernel_rfl) (by simp) ?_
  apply AllReadyH.cons rfl ?_ AllReadyH.nil
  intro K hK
  go_simp
  go_at_call 25
  refine (eqLevel_same i t x y n m p q s z b ws gs u2 v2 u3 v3 _ I2n.out J2n.out I3.out J3.out h1 h2).mono ?_
  rintro e wm ⟨rfl, B⟩
  have Pn := CellsAt.step (by first | with_reducible exact Pn.drew | with_reducible exact Pn) B
  have Xn := CellsAt.step (by first | with_reducible exact Xn.drew | with_reducible exact Xn) B
  have Hn := Lib.hid (bl_trans (by first | with_reducible exact bl_drew1 Hn.out | with_reducible exact Hn.out) B)
  clear B
  clear hHeld
  go_wp2_with fail
  refine hK.out _ _ ⟨(by repeat (first | with_reducible exact Pn | with_reducible exact P | with_reducible refine CellsAt.alloc ?_ _ | with_reducible refine CellsAt.drew ?_)), (by repeat (first | with_reducible exact Xn | with_reducible exact X | with_reducible refine CellsAt.alloc ?_ _ | with_reducible refine CellsAt.drew ?_))⟩ (fun hHeld => ?_)
  clear hK K
  try simp only [Act.put, List.getElem_toArray, List.getElem_cons_succ, List.getElem_cons_zero, List.setIfInBounds_toArray, List.set_cons_zero, List.set_cons_succ]
  refine wpAnyH_take (i := 4) (oi := _) (v := ?_) rfl (by kernel_rfl) (by kernel_rfl) (by kernel_rfl) (fun _ _ _ h => h) (Or.inl ⟨by rfl, ?_⟩) hHeld ?_
  rotate_left
  · intro w hSw
    try dsimp only at hSw
    go_simp
    all_goals with_reducible rfl
  try simp only [Act.put, List.getElem_toArray, List.getElem_cons_succ, List.getElem_cons_zero, List.setIfInBounds_toArray, List.set_cons_zero, List.set_cons_succ]
  refine wpAnyH_done (by kernel_rfl) ?_ _
  go_wp2
  go_ret
  exact ⟨rfl, Hn.out⟩

set_option maxRecDepth 100000 in
set_option maxHeartbeats 4000000 in
theorem walk_FnExactEngineValid (i t x y : Int) (A : Option Addr) (n c : Nat) (G : Option Addr) (m kk : Nat) (p q s z b : Int) (ws gs : List Bx) (sk sa sb sc sd su sg : Int) (sx sy : Bool) (w : World) (I : Boxes w A n ws) (J : Boxes w G m gs) (hN0 : n ≤ 9223372036854775807) (hM0 : m ≤ 9223372036854775807) :
    Calls Try.prog 8 #[lev i t x y A n c G m kk p q s z b, sta sk sa sb sc sd su sg sx sy] w fun e w' => e = .returned (.bool true) ∧ Below w.heap.size w w' := by
  have I := Lib.hid I
  have J := Lib.hid J
  by_cases big : 1048576 < n + m
  · have C := Lib.hid (fun W => szLev_no i t x y A n c G m kk p q s z b W big hN0 hM0)
    go_enter Try.func8, Try.ntmps8
    go_wp2_with fail
    refine (C.out _).mono ?_
    rintro e w1 ⟨rfl, B⟩
    have H := Lib.hid (bl_trans (bl_alloc (bl_alloc (bl_refl w) _) _) B)
    clear B
    go_wp2
    go_ret
    exact ⟨rfl, H.out⟩
  have C := Lib.hid (fun W => szLev_ok i t x y A n c G m kk p q s z b W (by omega))
  have h1 : n ≤ 1048576 := by omega
  have h2 : m ≤ 1048576 := by omega
  have g0 : (0 : Int) ≤ 1048576 - n - m := by omega
  have hN : n ≤ 281474976710656 := by omega
  have hM : m ≤ 281474976710656 := by omega
  clear big hN0 hM0
  go_enter Try.func8, Try.ntmps8
  go_wp2_with fail
  refine (C.out _).mono ?_
  rintro e w1 ⟨rfl, B⟩
  have P : CellsAt w1 w.heap.size (lvs i t x y A n c G m kk p q s z b) := ((CellsAt.new w _ _ _ rfl).alloc _).step B
  have Q : CellsAt w1 (w.heap.size + 1) (stv sk sa sb sc sd su sg sx sy) := (CellsAt.new _ _ _ _ (by simp)).step B
  replace I := Lib.hid (((I.out.alloc _).alloc _).step B)
  replace J := Lib.hid (((J.out.alloc _).alloc _).step B)
  have H := Lib.hid (bl_trans (bl_alloc (bl_alloc (bl_refl w) _) _) B)
  clear B C
  have Pc0 := P.cell 0 _ rfl
  have Pc1 := P.cell 1 _ rfl
  have Pc2 := P.cell 2 _ rfl
  have Pc3 := P.cell 3 _ rfl
  have Pc4 := P.cell 4 _ rfl
  have Pc5 := P.cell 5 _ rfl
  have Pc6 := P.cell 6 _ rfl
  have Pc7 := P.cell 7 _ rfl
  have Pc8 := P.cell 8 _ rfl
  have Pc9 := P.cell 9 _ rfl
  have Pc10 := P.cell 10 _ rfl
  have Pl := P.lt
  have Qc0 := Q.cell 0 _ rfl
  have Qc1 := Q.cell 1 _ rfl
  have Qc2 := Q.cell 2 _ rfl
  have Qc3 := Q.cell 3 _ rfl
  have Qc4 := Q.cell 4 _ rfl
  have Qc5 := Q.cell 5 _ rfl
  have Qc6 := Q.cell 6 _ rfl
  have Qc7 := Q.cell 7 _ rfl
  have Qc8 := Q.cell 8 _ rfl
  have Ql := Q.lt
  go_wp2_with fail
  clear Pc0 Pc1 Pc2 Pc3 Pc4 Pc5 Pc6 Pc7 Pc8 Pc9 Pc10 Pl Qc0 Qc1 Qc2 Qc3 Qc4 Qc5 Qc6 Qc7 Qc8 Ql
  refine wp_region_held_drew (S := fun w' => CellsAt w' w.heap.size (lvs i t x y A n c G m kk p q s z b) ∧ CellsAt w' (w.heap.size + 1) (stv sk sa sb sc sd su sg sx sy)) (by kernel_rfl) ⟨(by repeat (first | with_reducible exact P | with_reducible refine CellsAt.alloc ?_ _ | with_reducible refine CellsAt.drew ?_)), (by repeat (first | with_reducible exact Q | with_reducible refine CellsAt.alloc ?_ _ | with_reducible refine CellsAt.drew ?_))⟩ (fun hHeld => ?_)
  refine wpAnyH_take (i := 0) (oi := _) (v := .agg (lvs i t x y A n c G m kk p q s z b).toArray) rfl (by kernel_rfl) (by kernel_rfl) (by kernel_rfl) (fun _ _ _ h => h) (yieldsIf_load_mid (by rfl) 48 (.tmp 2) rfl w.heap.size 0 rfl (lvs i t x y A n c G m kk p q s z b) _ (fun W hS => hS.1.range) Try.underlying48 rfl lawlevel_size) hHeld ?_
  try simp only [Act.put, List.getElem_toArray, List.getElem_cons_zero, List.setIfInBounds_toArray, List.set_cons_zero, List.set_cons_succ]
  refine wpAnyH_take (i := 2) (oi := _) (v := .agg (stv sk sa sb sc sd su sg sx sy).toArray) rfl (by kernel_rfl) (by kernel_rfl) (by kernel_rfl) (fun _ _ _ h => h) (yieldsIf_load_mid (by rfl) 55 (.tmp 3) rfl (w.heap.size + 1) 0 rfl (stv sk sa sb sc sd su sg sx sy) _ (fun W hS => hS.2.range) Try.underlying55 rfl lawst_size) hHeld ?_
  try simp only [Act.put, List.getElem_toArray, List.getElem_cons_succ, List.getElem_cons_zero, List.setIfInBounds_toArray, List.set_cons_zero, List.set_cons_succ]
  refine wpAnyH_ready (rs := [1]) (by kernel_rfl) (by simp) ?_
  apply AllReadyH.cons rfl ?_ AllReadyH.nil
  intro K hK
  go_simp
  go_at_call 23
  refine (toLevel_any i t x y A n c G m kk p q s z b ws gs _ (by first | with_reducible exact I.out.drew | with_reducible exact I.out) (by first | with_reducible exact J.out.drew | with_reducible exact J.out) h1 h2).mono ?_
  rintro e w2 ⟨u1, v1, rfl, I1, J1, B⟩
  replace P := CellsAt.step (by first | with_reducible exact P.drew | with_reducible exact P) B
  replace Q := CellsAt.step (by first | with_reducible exact Q.drew | with_reducible exact Q) B
  replace I := Lib.hid (Boxes.step (by first | with_reducible exact I.out.drew | with_reducible exact I.out) B)
  replace J := Lib.hid (Boxes.step (by first | with_reducible exact J.out.drew | with_reducible exact J.out) B)
  replace H := Lib.hid (bl_trans (by first | with_reducible exact bl_drew1 H.out | with_reducible exact H.out) B)
  clear B
  replace I1 := Lib.hid I1
  replace J1 := Lib.hid J1
  clear hHeld
  go_wp2_with fail
  refine hK.out _ _ ⟨(by repeat (first | with_reducible exact P | with_reducible refine CellsAt.alloc ?_ _ | with_reducible refine CellsAt.drew ?_)), (by repeat (first | with_reducible exact Q | with_reducible refine CellsAt.alloc ?_ _ | with_reducible refine CellsAt.drew ?_))⟩ (fun hHeld => ?_)
  clear hK K
  try simp only [Act.put, List.getElem_toArray, List.getElem_cons_succ, List.getElem_cons_zero, List.setIfInBounds_toArray, List.set_cons_zero, List.set_cons_succ]
  refine wpAnyH_ready (rs := [3]) (by kernel_rfl) (by simp) ?_
  apply AllReadyH.cons rfl ?_ AllReadyH.nil
  intro K hK
  go_simp
  go_at_call 27
  refine (toState_any sk sa sb sc sd su sg sx sy _).mono ?_
  rintro e w3 ⟨rfl, B⟩
  replace P := CellsAt.step (by first | with_reducible exact P.drew | with_reducible exact P) B
  replace Q := CellsAt.step (by first | with_reducible exact Q.drew | with_reducible exact Q) B
  replace I := Lib.hid (Boxes.step (by first | with_reducible exact I.out.drew | with_reducible exact I.out) B)
  replace J := Lib.hid (Boxes.step (by first | with_reducible exact J.out.drew | with_reducible exact J.out) B)
  replace I1 := Lib.hid (Boxes.step (by first | with_reducible exact I1.out.drew | with_reducible exact I1.out) B)
  replace J1 := Lib.hid (Boxes.step (by first | with_reducible exact J1.out.drew | with_reducible exact J1.out) B)
  replace H := Lib.hid (bl_trans (by first | with_reducible exact bl_drew1 H.out | with_reducible exact H.out) B)
  clear B
  clear hHeld
  go_wp2_with fail
  refine hK.out _ _ ⟨(by repeat (first | with_reducible exact P | with_reducible refine CellsAt.alloc ?_ _ | with_reducible refine CellsAt.drew ?_)), (by repeat (first | with_reducible exact Q | with_reducible refine CellsAt.alloc ?_ _ | with_reducible refine CellsAt.drew ?_))⟩ (fun hHeld => ?_)
  clear hK K
  try simp only [Act.put, List.getElem_toArray, List.getElem_cons_succ, List.getElem_cons_zero, List.setIfInBounds_toArray, List.set_cons_zero, List.set_cons_succ]
  refine wpAnyH_ready (rs := [4]) (by kernel_rfl) (by simp) ?_
  apply AllReadyH.cons rfl ?_ AllReadyH.nil
  intro K hK
  go_simp
  go_at_call 26
  refine (specEValid i t x y (some ⟨u1, 0, none⟩) n n (some ⟨v1, 0, none⟩) m m p q s z b ws gs sk sa sb sc sd su sg sx sy _ I1.out J1.out hN hM).mono ?_
  rintro e w4 ⟨rfl, B⟩
  replace P := CellsAt.step (by first | with_reducible exact P.drew | with_reducible exact P) B
  replace Q := CellsAt.step (by first | with_reducible exact Q.drew | with_reducible exact Q) B
  replace I := Lib.hid (Boxes.step (by first | with_reducible exact I.out.drew | with_reducible exact I.out) B)
  replace J := Lib.hid (Boxes.step (by first | with_reducible exact J.out.drew | with_reducible exact J.out) B)
  replace H := Lib.hid (bl_trans (by first | with_reducible exact bl_drew1 H.out | with_reducible exact H.out) B)
  clear B
  clear I1 J1
  clear hHeld
  go_wp2_with fail
  refine hK.out _ _ ⟨(by repeat (first | with_reducible exact P | with_reducible refine CellsAt.alloc ?_ _ | with_reducible refine CellsAt.drew ?_)), (by repeat (first | with_reducible exact Q | with_reducible refine CellsAt.alloc ?_ _ | with_reducible refine CellsAt.drew ?_))⟩ (fun hHeld => ?_)
  clear hK K
  try simp only [Act.put, List.getElem_toArray, List.getElem_cons_succ, List.getElem_cons_zero, List.setIfInBounds_toArray, List.set_cons_zero, List.set_cons_succ]
  refine wpAnyH_ready (rs := [5]) (by kernel_rfl) (by simp) ?_
  apply AllReadyH.cons rfl ?_ AllReadyH.nil
  intro K hK
  go_simp
  refine hK.out _ _ ⟨(by repeat (first | with_reducible exact P | with_reducible refine CellsAt.alloc ?_ _ | with_reducible refine CellsAt.drew ?_)), (by repeat (first | with_reducible exact Q | with_reducible refine CellsAt.alloc ?_ _ | with_reducible refine CellsAt.drew ?_))⟩ (fun hHeld => ?_)
  clear hK K
  try simp only [Act.put, List.getElem_toArray, List.getElem_cons_succ, List.getElem_cons_zero, List.setIfInBounds_toArray, List.set_cons_zero, List.set_cons_succ]
  refine wpAnyH_done (by kernel_rfl) ?_ _
  have Pc0 := P.cell 0 _ rfl
  have Pc1 := P.cell 1 _ rfl
  have Pc2 := P.cell 2 _ rfl
  have Pc3 := P.cell 3 _ rfl
  have Pc4 := P.cell 4 _ rfl
  have Pc5 := P.cell 5 _ rfl
  have Pc6 := P.cell 6 _ rfl
  have Pc7 := P.cell 7 _ rfl
  have Pc8 := P.cell 8 _ rfl
  have Pc9 := P.cell 9 _ rfl
  have Pc10 := P.cell 10 _ rfl
  have Pl := P.lt
  have Qc0 := Q.cell 0 _ rfl
  have Qc1 := Q.cell 1 _ rfl
  have Qc2 := Q.cell 2 _ rfl
  have Qc3 := Q.cell 3 _ rfl
  have Qc4 := Q.cell 4 _ rfl
  have Qc5 := Q.cell 5 _ rfl
  have Qc6 := Q.cell 6 _ rfl
  have Qc7 := Q.cell 7 _ rfl
  have Qc8 := Q.cell 8 _ rfl
  have Ql := Q.lt
  go_wp2_with fail
  refine (toLevel_any i t x y A n c G m kk p q s z b ws gs _ I.out J.out h1 h2).mono ?_
  rintro e w5 ⟨u2, v2, rfl, I2, J2, B⟩
  clear Pc0 Pc1 Pc2 Pc3 Pc4 Pc5 Pc6 Pc7 Pc8 Pc9 Pc10 Pl Qc0 Qc1 Qc2 Qc3 Qc4 Qc5 Qc6 Qc7 Qc8 Ql
  replace P := P.step B
  replace Q := Q.step B
  replace I := Lib.hid (I.out.step B)
  replace J := Lib.hid (J.out.step B)
  replace H := Lib.hid (bl_trans H.out B)
  clear B
  replace I2 := Lib.hid I2
  replace J2 := Lib.hid J2
  have X : CellsAt (w5.alloc (.cells #[.int .i64 i, .int .i64 t, .int .i64 x, .int .i64 y, .slice (some ⟨u2, 0, none⟩) n n, .slice (some ⟨v2, 0, none⟩) m m, .int .i64 p, .int .i64 q, .int .i64 s, .int .i64 z, .int .i64 b] 29)) w5.heap.size (lvs i t x y (some ⟨u2, 0, none⟩) n n (some ⟨v2, 0, none⟩) m m p q s z b) := CellsAt.new _ _ _ _ rfl
  replace P := P.alloc (.cells #[.int .i64 i, .int .i64 t, .int .i64 x, .int .i64 y, .slice (some ⟨u2, 0, none⟩) n n, .slice (some ⟨v2, 0, none⟩) m m, .int .i64 p, .int .i64 q, .int .i64 s, .int .i64 z, .int .i64 b] 29)
  replace Q := Q.alloc (.cells #[.int .i64 i, .int .i64 t, .int .i64 x, .int .i64 y, .slice (some ⟨u2, 0, none⟩) n n, .slice (some ⟨v2, 0, none⟩) m m, .int .i64 p, .int .i64 q, .int .i64 s, .int .i64 z, .int .i64 b] 29)
  replace I := Lib.hid (I.out.alloc (.cells #[.int .i64 i, .int .i64 t, .int .i64 x, .int .i64 y, .slice (some ⟨u2, 0, none⟩) n n, .slice (some ⟨v2, 0, none⟩) m m, .int .i64 p, .int .i64 q, .int .i64 s, .int .i64 z, .int .i64 b] 29))
  replace J := Lib.hid (J.out.alloc (.cells #[.int .i64 i, .int .i64 t, .int .i64 x, .int .i64 y, .slice (some ⟨u2, 0, none⟩) n n, .slice (some ⟨v2, 0, none⟩) m m, .int .i64 p, .int .i64 q, .int .i64 s, .int .i64 z, .int .i64 b] 29))
  replace I2 := Lib.hid (I2.out.alloc (.cells #[.int .i64 i, .int .i64 t, .int .i64 x, .int .i64 y, .slice (some ⟨u2, 0, none⟩) n n, .slice (some ⟨v2, 0, none⟩) m m, .int .i64 p, .int .i64 q, .int .i64 s, .int .i64 z, .int .i64 b] 29))
  replace J2 := Lib.hid (J2.out.alloc (.cells #[.int .i64 i, .int .i64 t, .int .i64 x, .int .i64 y, .slice (some ⟨u2, 0, none⟩) n n, .slice (some ⟨v2, 0, none⟩) m m, .int .i64 p, .int .i64 q, .int .i64 s, .int .i64 z, .int .i64 b] 29))
  replace H := Lib.hid (bl_alloc H.out (.cells #[.int .i64 i, .int .i64 t, .int .i64 x, .int .i64 y, .slice (some ⟨u2, 0, none⟩) n n, .slice (some ⟨v2, 0, none⟩) m m, .int .i64 p, .int .i64 q, .int .i64 s, .int .i64 z, .int .i64 b] 29))
  have Pc0 := P.cell 0 _ rfl
  have Pc1 := P.cell 1 _ rfl
  have Pc2 := P.cell 2 _ rfl
  have Pc3 := P.cell 3 _ rfl
  have Pc4 := P.cell 4 _ rfl
  have Pc5 := P.cell 5 _ rfl
  have Pc6 := P.cell 6 _ rfl
  have Pc7 := P.cell 7 _ rfl
  have Pc8 := P.cell 8 _ rfl
  have Pc9 := P.cell 9 _ rfl
  have Pc10 := P.cell 10 _ rfl
  have Pl := P.lt
  have Qc0 := Q.cell 0 _ rfl
  have Qc1 := Q.cell 1 _ rfl
  have Qc2 := Q.cell 2 _ rfl
  have Qc3 := Q.cell 3 _ rfl
  have Qc4 := Q.cell 4 _ rfl
  have Qc5 := Q.cell 5 _ rfl
  have Qc6 := Q.cell 6 _ rfl
  have Qc7 := Q.cell 7 _ rfl
  have Qc8 := Q.cell 8 _ rfl
  have Ql := Q.lt
  have Xc0 := X.cell 0 _ rfl
  have Xc1 := X.cell 1 _ rfl
  have Xc2 := X.cell 2 _ rfl
  have Xc3 := X.cell 3 _ rfl
  have Xc4 := X.cell 4 _ rfl
  have Xc5 := X.cell 5 _ rfl
  have Xc6 := X.cell 6 _ rfl
  have Xc7 := X.cell 7 _ rfl
  have Xc8 := X.cell 8 _ rfl
  have Xc9 := X.cell 9 _ rfl
  have Xc10 := X.cell 10 _ rfl
  have Xl := X.lt
  go_wp2_with fail
  clear Pc0 Pc1 Pc2 Pc3 Pc4 Pc5 Pc6 Pc7 Pc8 Pc9 Pc10 Pl Qc0 Qc1 Qc2 Qc3 Qc4 Qc5 Qc6 Qc7 Qc8 Ql Xc0 Xc1 Xc2 Xc3 Xc4 Xc5 Xc6 Xc7 Xc8 Xc9 Xc10 Xl
  refine wp_region_held_drew (S := fun w' => CellsAt w' w5.heap.size (lvs i t x y (some ⟨u2, 0, none⟩) n n (some ⟨v2, 0, none⟩) m m p q s z b) ∧ CellsAt w' (w.heap.size + 1) (stv sk sa sb sc sd su sg sx sy)) (by kernel_rfl) ⟨(by repeat (first | with_reducible exact X | with_reducible refine CellsAt.alloc ?_ _ | with_reducible refine CellsAt.drew ?_)), (by repeat (first | with_reducible exact Q | with_reducible refine CellsAt.alloc ?_ _ | with_reducible refine CellsAt.drew ?_))⟩ (fun hHeld => ?_)
  refine wpAnyH_take (i := 0) (oi := _) (v := .agg (lvs i t x y (some ⟨u2, 0, none⟩) n n (some ⟨v2, 0, none⟩) m m p q s z b).toArray) rfl (by kernel_rfl) (by kernel_rfl) (by kernel_rfl) (fun _ _ _ h => h) (yieldsIf_load_mid (by rfl) 29 (.tmp 7) rfl w5.heap.size 0 rfl (lvs i t x y (some ⟨u2, 0, none⟩) n n (some ⟨v2, 0, none⟩) m m p q s z b) _ (fun W hS => hS.1.range) Try.underlying29 rfl level_size) hHeld ?_
  try simp only [Act.put, List.getElem_toArray, List.getElem_cons_zero, List.setIfInBounds_toArray, List.set_cons_zero, List.set_cons_succ]
  refine wpAnyH_take (i := 1) (oi := _) (v := .agg (stv sk sa sb sc sd su sg sx sy).toArray) rfl (by kernel_rfl) (by kernel_rfl) (by kernel_rfl) (fun _ _ _ h => h) (yieldsIf_load_mid (by rfl) 55 (.tmp 3) rfl (w.heap.size + 1) 0 rfl (stv sk sa sb sc sd su sg sx sy) _ (fun W hS => hS.2.range) Try.underlying55 rfl lawst_size) hHeld ?_
  try simp only [Act.put, List.getElem_toArray, List.getElem_cons_succ, List.getElem_cons_zero, List.setIfInBounds_toArray, List.set_cons_zero, List.set_cons_succ]
  refine wpAnyH_ready (rs := [2]) (by kernel_rfl) (by simp) ?_
  apply AllReadyH.cons rfl ?_ AllReadyH.nil
  intro K hK
  go_simp
  go_at_call 27
  refine (toState_any sk sa sb sc sd su sg sx sy _).mono ?_
  rintro e w6 ⟨rfl, B⟩
  replace P := CellsAt.step (by first | with_reducible exact P.drew | with_reducible exact P) B
  replace Q := CellsAt.step (by first | with_reducible exact Q.drew | with_reducible exact Q) B
  replace X := CellsAt.step (by first | with_reducible exact X.drew | with_reducible exact X) B
  replace I := Lib.hid (Boxes.step (by first | with_reducible exact I.out.drew | with_reducible exact I.out) B)
  replace J := Lib.hid (Boxes.step (by first | with_reducible exact J.out.drew | with_reducible exact J.out) B)
  replace I2 := Lib.hid (Boxes.step (by first | with_reducible exact I2.out.drew | with_reducible exact I2.out) B)
  replace J2 := Lib.hid (Boxes.step (by first | with_reducible exact J2.out.drew | with_reducible exact J2.out) B)
  replace H := Lib.hid (bl_trans (by first | with_reducible exact bl_drew1 H.out | with_reducible exact H.out) B)
  clear B
  clear hHeld
  go_wp2_with fail
  refine hK.out _ _ ⟨(by repeat (first | with_reducible exact X | with_reducible refine CellsAt.alloc ?_ _ | with_reducible refine CellsAt.drew ?_)), (by repeat (first | with_reducible exact Q | with_reducible refine CellsAt.alloc ?_ _ | with_reducible refine CellsAt.drew ?_))⟩ (fun hHeld => ?_)
  clear hK K
  try simp only [Act.put, List.getElem_toArray, List.getElem_cons_succ, List.getElem_cons_zero, List.setIfInBounds_toArray, List.set_cons_zero, List.set_cons_succ]
  refine wpAnyH_ready (rs := [3]) (by kernel_rfl) (by simp) ?_
  apply AllReadyH.cons rfl ?_ AllReadyH.nil
  intro K hK
  go_simp
  go_at_call 14
  refine (implEValid i t x y (some ⟨u2, 0, none⟩) n n (some ⟨v2, 0, none⟩) m m p q s z b ws gs sk sa sb sc sd su sg sx sy _ I2.out J2.out hN hM).mono ?_
  rintro e w7 ⟨rfl, B⟩
  replace P := CellsAt.step (by first | with_reducible exact P.drew | with_reducible exact P) B
  replace Q := CellsAt.step (by first | with_reducible exact Q.drew | with_reducible exact Q) B
  replace X := CellsAt.step (by first | with_reducible exact X.drew | with_reducible exact X) B
  replace I := Lib.hid (Boxes.step (by first | with_reducible exact I.out.drew | with_reducible exact I.out) B)
  replace J := Lib.hid (Boxes.step (by first | with_reducible exact J.out.drew | with_reducible exact J.out) B)
  replace I2 := Lib.hid (Boxes.step (by first | with_reducible exact I2.out.drew | with_reducible exact I2.out) B)
  replace J2 := Lib.hid (Boxes.step (by first | with_reducible exact J2.out.drew | with_reducible exact J2.out) B)
  replace H := Lib.hid (bl_trans (by first | with_reducible exact bl_drew1 H.out | with_reducible exact H.out) B)
  clear B
  clear hHeld
  go_wp2_with fail
  refine hK.out _ _ ⟨(by repeat (first | with_reducible exact X | with_reducible refine CellsAt.alloc ?_ _ | with_reducible refine CellsAt.drew ?_)), (by repeat (first | with_reducible exact Q | with_reducible refine CellsAt.alloc ?_ _ | with_reducible refine CellsAt.drew ?_))⟩ (fun hHeld => ?_)
  clear hK K
  try simp only [Act.put, List.getElem_toArray, List.getElem_cons_succ, List.getElem_cons_zero, List.setIfInBounds_toArray, List.set_cons_zero, List.set_cons_succ]
  refine wpAnyH_ready (rs := [4]) (by kernel_rfl) (by simp) ?_
  apply AllReadyH.cons rfl ?_ AllReadyH.nil
  intro K hK
  go_simp
  refine hK.out _ _ ⟨(by repeat (first | with_reducible exact X | with_reducible refine CellsAt.alloc ?_ _ | with_reducible refine CellsAt.drew ?_)), (by repeat (first | with_reducible exact Q | with_reducible refine CellsAt.alloc ?_ _ | with_reducible refine CellsAt.drew ?_))⟩ (fun hHeld => ?_)
  clear hK K
  try simp only [Act.put, List.getElem_toArray, List.getElem_cons_succ, List.getElem_cons_zero, List.setIfInBounds_toArray, List.set_cons_zero, List.set_cons_succ]
  refine wpAnyH_done (by kernel_rfl) ?_ _
  generalize evB i t x y ws gs p q s z b sk sa sb sc sd su sg sx sy = bb at *
  cases bb
  all_goals
    have Pc0 := P.cell 0 _ rfl
    have Pc1 := P.cell 1 _ rfl
    have Pc2 := P.cell 2 _ rfl
    have Pc3 := P.cell 3 _ rfl
    have Pc4 := P.cell 4 _ rfl
    have Pc5 := P.cell 5 _ rfl
    have Pc6 := P.cell 6 _ rfl
    have Pc7 := P.cell 7 _ rfl
    have Pc8 := P.cell 8 _ rfl
    have Pc9 := P.cell 9 _ rfl
    have Pc10 := P.cell 10 _ rfl
    have Pl := P.lt
    have Qc0 := Q.cell 0 _ rfl
    have Qc1 := Q.cell 1 _ rfl
    have Qc2 := Q.cell 2 _ rfl
    have Qc3 := Q.cell 3 _ rfl
    have Qc4 := Q.cell 4 _ rfl
    have Qc5 := Q.cell 5 _ rfl
    have Qc6 := Q.cell 6 _ rfl
    have Qc7 := Q.cell 7 _ rfl
    have Qc8 := Q.cell 8 _ rfl
    have Ql := Q.lt
    have Xc0 := X.cell 0 _ rfl
    have Xc1 := X.cell 1 _ rfl
    have Xc2 := X.cell 2 _ rfl
    have Xc3 := X.cell 3 _ rfl
    have Xc4 := X.cell 4 _ rfl
    have Xc5 := X.cell 5 _ rfl
    have Xc6 := X.cell 6 _ rfl
    have Xc7 := X.cell 7 _ rfl
    have Xc8 := X.cell 8 _ rfl
    have Xc9 := X.cell 9 _ rfl
    have Xc10 := X.cell 10 _ rfl
    have Xl := X.lt
    go_wp2_with fail
    clear Pc0 Pc1 Pc2 Pc3 Pc4 Pc5 Pc6 Pc7 Pc8 Pc9 Pc10 Pl Qc0 Qc1 Qc2 Qc3 Qc4 Qc5 Qc6 Qc7 Qc8 Ql Xc0 Xc1 Xc2 Xc3 Xc4 Xc5 Xc6 Xc7 Xc8 Xc9 Xc10 Xl
    refine wp_region_held_drew (S := fun w' => CellsAt w' w.heap.size (lvs i t x y A n c G m kk p q s z b) ∧ CellsAt w' w5.heap.size (lvs i t x y (some ⟨u2, 0, none⟩) n n (some ⟨v2, 0, none⟩) m m p q s z b)) (by kernel_rfl) ⟨(by repeat (first | with_reducible exact Pn | with_reducible exact P | with_reducible refine CellsAt.alloc ?_ _ | with_reducible refine CellsAt.drew ?_)), (by repeat (first | with_reducible exact Xn | with_reducible exact X | with_reducible refine CellsAt.alloc ?_ _ | with_reducible refine CellsAt.drew ?_))⟩ (fun hHeld => ?_)
    refine wpAnyH_take (i := 0) (oi := _) (v := .agg (lvs i t x y (some ⟨u2, 0, none⟩) n n (some ⟨v2, 0, none⟩) m m p q s z b).toArray) rfl (by kernel_rfl) (by kernel_rfl) (by kernel_rfl) (fun _ _ _ h => h) (yieldsIf_load_mid (by rfl) 29 (.tmp 7) rfl w5.heap.size 0 rfl (lvs i t x y (some ⟨u2, 0, none⟩) n n (some ⟨v2, 0, none⟩) m m p q s z b) _ (fun W hS => hS.2.range) Try.underlying29 rfl level_size) hHeld ?_
    try simp only [Act.put, List.getElem_toArray, List.getElem_cons_zero, List.setIfInBounds_toArray, List.set_cons_zero, List.set_cons_succ]
    refine wpAnyH_take (i := 1) (oi := _) (v := .agg (lvs i t x y A n c G m kk p q s z b).toArray) rfl (by kernel_rfl) (by kernel_rfl) (by kernel_rfl) (fun _ _ _ h => h) (yieldsIf_load_mid (by rfl) 48 (.tmp 2) rfl w.heap.size 0 rfl (lvs i t x y A n c G m kk p q s z b) _ (fun W hS => hS.1.range) Try.underlying48 rfl lawlevel_size) hHeld ?_
    try simp only [Act.put, List.getElem_toArray, List.getElem_cons_succ, List.getElem_cons_zero, List.setIfInBounds_toArray, List.set_cons_zero, List.set_cons_succ]
    refine wpAnyH_ready (rs := [2]) (by kernel_rfl) (by simp) ?_
    apply AllReadyH.cons rfl ?_ AllReadyH.nil
    intro K hK
    go_simp
    go_at_call 23
    refine (toLevel_any i t x y A n c G m kk p q s z b ws gs _ I.out.drew J.out.drew h1 h2).mono ?_
    rintro e wn ⟨u3, v3, rfl, I3, J3, B⟩
    have Pn := CellsAt.step (by first | with_reducible exact P.drew | with_reducible exact P) B
    have Xn := CellsAt.step (by first | with_reducible exact X.drew | with_reducible exact X) B
    have I2n := Lib.hid (Boxes.step (by first | with_reducible exact I2.out.drew | with_reducible exact I2.out) B)
    have J2n := Lib.hid (Boxes.step (by first | with_reducible exact J2.out.drew | with_reducible exact J2.out) B)
    have Hn := Lib.hid (bl_trans (by first | with_reducible exact bl_drew1 H.out | with_reducible exact H.out) B)
    replace I3 := Lib.hid I3
    replace J3 := Lib.hid J3
    clear B
    clear hHeld
    go_wp2_with fail
    refine hK.out _ _ ⟨(by repeat (first | with_reducible exact Pn | with_reducible exact P | with_reducible refine CellsAt.alloc ?_ _ | with_reducible refine CellsAt.drew ?_)), (by repeat (first | with_reducible exact Xn | with_reducible exact X | with_reducible refine CellsAt.alloc ?_ _ | with_reducible refine CellsAt.drew ?_))⟩ (fun hHeld => ?_)
    clear hK K
    try simp only [Act.put, List.getElem_toArray, List.getElem_cons_succ, List.getElem_cons_zero, List.setIfInBounds_toArray, List.set_cons_zero, List.set_cons_succ]
    refine wpAnyH_ready (rs := [3]) (by kernel_rfl) (by simp) ?_
    apply AllReadyH.cons rfl ?_ AllReadyH.nil
    intro K hK
    go_simp
    go_at_call 25
    refine (eqLevel_same i t x y n m p q s z b ws gs u2 v2 u3 v3 _ I2n.out J2n.out I3.out J3.out h1 h2).mono ?_
    rintro e wm ⟨rfl, B⟩
    have Pn := CellsAt.step (by first | with_reducible exact Pn.drew | with_reducible exact Pn) B
    have Xn := CellsAt.step (by first | with_reducible exact Xn.drew | with_reducible exact Xn) B
    have Hn := Lib.hid (bl_trans (by first | with_reducible exact bl_drew1 Hn.out | with_reducible exact Hn.out) B)
    clear B
    clear hHeld
    go_wp2_with fail
    refine hK.out _ _ ⟨(by repeat (first | with_reducible exact Pn | with_reducible exact P | with_reducible refine CellsAt.alloc ?_ _ | with_reducible refine CellsAt.drew ?_)), (by repeat (first | with_reducible exact Xn | with_reducible exact X | with_reducible refine CellsAt.alloc ?_ _ | with_reducible refine CellsAt.drew ?_))⟩ (fun hHeld => ?_)
    clear hK K
    try simp only [Act.put, List.getElem_toArray, List.getElem_cons_succ, List.getElem_cons_zero, List.setIfInBounds_toArray, List.set_cons_zero, List.set_cons_succ]
    refine wpAnyH_take (i := 4) (oi := _) (v := ?_) rfl (by kernel_rfl) (by kernel_rfl) (by kernel_rfl) (fun _ _ _ h => h) (Or.inl ⟨by rfl, ?_⟩) hHeld ?_
    rotate_left
    · intro w hSw
      try dsimp only at hSw
      go_simp
      all_goals with_reducible rfl
    try simp only [Act.put, List.getElem_toArray, List.getElem_cons_succ, List.getElem_cons_zero, List.setIfInBounds_toArray, List.set_cons_zero, List.set_cons_succ]
    refine wpAnyH_done (by kernel_rfl) ?_ _
    go_wp2
    go_ret
    exact ⟨rfl, Hn.out⟩

end Go.Proofs.Ytnoenjociioffab
