/-
  The walk of the law FnLevelFree.
-/
import Derived.Test.YtmhmlmoohimfmaaDrawLevC
import Derived.Test.YtmhmlmoohimfmaaLevHashImplB
import Derived.Test.YtmhmlmoohimfmaaLevLaws
import Derived.BigQuiet
import Derived.Deep.QuietTactic
namespace Go.Proofs.Ytmhmlmoohimfmaa
open Go.RowKit
open M

theorem lf_no1 {i t x y : Int} {ws gs : List Bx} {p q r s b u v : Int} (h : lvB i t x y ws gs p q r s b = false) : lfB i t x y ws gs p q r s b u v = false := by simp [lfB, h]
theorem lf_no2 {i t x y : Int} {ws gs : List Bx} {p q r s b u v : Int} (h : vokB u v = false) : lfB i t x y ws gs p q r s b u v = false := by simp [lfB, h]
theorem lf_yes {i t x y : Int} {ws gs : List Bx} {p q r s b u v : Int} (h : lvB i t x y ws gs p q r s b = true) (g : vokB u v = true) : lfB i t x y ws gs p q r s b u v = frB ws u v := by simp [lfB, h, g]
/-- A wall is touched, among the first k. -/
def tou (ws : List Bx) (u v : Int) (k : Nat) : Bool := !((ws.take k).all fun q => !(q.hit u v))
theorem tou_next {ws : List Bx} {u v : Int} {k : Nat} (hk : k < ws.length) : tou ws u v (k + 1) = (tou ws u v k || (ws.getD k bz).hit u v) := by
  unfold tou
  rw [take_snocB hk, List.all_append]
  simp
theorem tou_end {ws : List Bx} {u v : Int} {k : Nat} (hk : ws.length ≤ k) : tou ws u v k = !(frB ws u v) := by
  unfold tou frB
  rw [List.take_of_length_le hk]
/-- At a round's head. -/
def TouRel (_w w4 : World) (n : Nat) (ws : List Bx) (u v : Int) (tv iv : Value) (W : World) : Prop :=
  ∃ k : Nat, k ≤ n ∧ iv = .int .i64 k ∧ tv = .bool (tou ws u v k) ∧ Below w4.heap.size w4 W

set_option maxRecDepth 100000 in
set_option maxHeartbeats 4000000 in
theorem walk_FnLevelFree (a : Option Addr) (len cap : Nat) (zs : List Int) (w : World) (h : IsRow .u8 w a len cap zs) :
    Calls Try.prog 4 #[.slice a len cap] w fun e w' => e = .returned (.bool true) ∧ Below w.heap.size w w' := by
  have hm := h.bytes.1
  have hm2 := h.bytes.2.1
  unfold maxLen at hm2
  by_cases g : 1048576 < len
  · have g1 : (1048576 : Int) < (len : Int) := by omega
    go_enter Try.func4, Try.ntmps4
    go_wp2
    go_ret
    exact ⟨rfl, Below.refl _ _⟩
  have g1 : (len : Int) ≤ 1048576 := by omega
  clear g hm hm2
  go_enter Try.func4, Try.ntmps4
  go_wp2_with fail
  refine (draw_lfree a len cap zs w h).mono ?_
  rintro e w1 ⟨i, t, x, y, A, n, c, G, m, kk, p, q, s, z, b, ws, gs, u, v, rfl, hn, hm, I, J, _, _, B⟩
  have D0 : CellsAt ((w1.alloc (.cells #[.int .i64 0, .int .i64 0, .int .i64 0, .int .i64 0, .slice none 0 0, .slice none 0 0, .int .i64 0, .int .i64 0, .int .i64 0, .int .i64 0, .int .i64 0] 29)).alloc (.cells #[.int .i64 0, .int .i64 0] 24)) w1.heap.size (lvs 0 0 0 0 none 0 0 none 0 0 0 0 0 0 0) := (CellsAt.new _ _ _ _ rfl).alloc _
  have E0 : CellsAt ((w1.alloc (.cells #[.int .i64 0, .int .i64 0, .int .i64 0, .int .i64 0, .slice none 0 0, .slice none 0 0, .int .i64 0, .int .i64 0, .int .i64 0, .int .i64 0, .int .i64 0] 29)).alloc (.cells #[.int .i64 0, .int .i64 0] 24)) (w1.heap.size + 1) [.int .i64 0, .int .i64 0] := CellsAt.new _ _ _ _ (by simp)
  have nA := Lib.hid (show 0 < n → ∀ g off, A = some ⟨g, off, none⟩ → g < w1.heap.size from fun h0 g off e => lt_of_boxes I h0 e)
  have nG := Lib.hid (show 0 < m → ∀ g off, G = some ⟨g, off, none⟩ → g < w1.heap.size from fun h0 g off e => lt_of_boxes J h0 e)
  replace I := Lib.hid ((I.alloc (.cells #[.int .i64 0, .int .i64 0, .int .i64 0, .int .i64 0, .slice none 0 0, .slice none 0 0, .int .i64 0, .int .i64 0, .int .i64 0, .int .i64 0, .int .i64 0] 29)).alloc (.cells #[.int .i64 0, .int .i64 0] 24))
  replace J := Lib.hid ((J.alloc (.cells #[.int .i64 0, .int .i64 0, .int .i64 0, .int .i64 0, .slice none 0 0, .slice none 0 0, .int .i64 0, .int .i64 0, .int .i64 0, .int .i64 0, .int .i64 0] 29)).alloc (.cells #[.int .i64 0, .int .i64 0] 24))
  have H := Lib.hid (bl_alloc (bl_alloc B (.cells #[.int .i64 0, .int .i64 0, .int .i64 0, .int .i64 0, .slice none 0 0, .slice none 0 0, .int .i64 0, .int .i64 0, .int .i64 0, .int .i64 0, .int .i64 0] 29)) (.cells #[.int .i64 0, .int .i64 0] 24))
  have B0 := Lib.hid B.size
  have hN : n ≤ 281474976710656 := by omega
  have hM : m ≤ 281474976710656 := by omega
  clear B h
  go_wp2_with (refine store_new rfl 29 (.tmp 3) (.tmp 15) rfl w1.heap.size rfl (lvs i t x y A n c G m kk p q s z b) rfl _ D0 (by simp) level_size rfl ?_)
  intro w2 K L
  have z2 := K.size
  simp at z2
  replace I := Lib.hid (I.out.kept K (fun h0 g off e => by have := nA.out h0 g off e; omega))
  replace J := Lib.hid (J.out.kept K (fun h0 g off e => by have := nG.out h0 g off e; omega))
  have E1 := E0.kept K (by omega)
  replace H := Lib.hid (kp_below H.out K (by have := B0.out; omega))
  clear K D0 E0
  go_wp2_with (refine store_new rfl 24 (.tmp 4) (.tmp 16) rfl (w1.heap.size + 1) rfl [.int .i64 u, .int .i64 v] rfl _ E1 (by simp) vec_size rfl ?_)
  intro w3 K E
  have z3 := K.size
  replace I := Lib.hid (I.out.kept K (fun h0 g off e => by have := nA.out h0 g off e; omega))
  replace J := Lib.hid (J.out.kept K (fun h0 g off e => by have := nG.out h0 g off e; omega))
  replace L := L.kept K (by omega)
  replace H := Lib.hid (kp_below H.out K (by have := B0.out; omega))
  clear K E1
  have V := Lib.hid (fun (W : World) (Z : Boxes W A n ws) (Y : Boxes W G m gs) => implLvFree i t x y A n c G m kk p q s z b ws gs u v W Z Y hN hM)
  have S := Lib.hid (fun (W : World) (Z : Boxes W A n ws) (Y : Boxes W G m gs) => specLvFree i t x y A n c G m kk p q s z b ws gs u v W Z Y hN hM)
  have T := Lib.hid (fun (W : World) (Z : Boxes W A n ws) (Y : Boxes W G m gs) => specLvValid i t x y A n c G m kk p q s z b ws gs W Z Y hN hM)
  have U := Lib.hid (fun W => specVecOk u v W)
  cases hv : lvB i t x y ws gs p q s z b
  · rw [lf_no1 hv] at V S
    rw [hv] at T
    have Lc0 := L.cell 0 _ rfl
    have Lc1 := L.cell 1 _ rfl
    have Lc2 := L.cell 2 _ rfl
    have Lc3 := L.cell 3 _ rfl
    have Lc4 := L.cell 4 _ rfl
    have Lc5 := L.cell 5 _ rfl
    have Lc6 := L.cell 6 _ rfl
    have Lc7 := L.cell 7 _ rfl
    have Lc8 := L.cell 8 _ rfl
    have Lc9 := L.cell 9 _ rfl
    have Lc10 := L.cell 10 _ rfl
    have Ll := L.lt
    have Ec0 := E.cell 0 _ rfl
    have Ec1 := E.cell 1 _ rfl
    have El := E.lt
    go_wp2_with fail
    refine (V.out _ I.out J.out).mono ?_
    rintro e w4 ⟨rfl, B⟩
    replace L := L.step B
    replace E := E.step B
    replace I := Lib.hid (I.out.step B)
    replace J := Lib.hid (J.out.step B)
    replace H := Lib.hid (bl_trans H.out B)
    clear B
    clear Lc0 Lc1 Lc2 Lc3 Lc4 Lc5 Lc6 Lc7 Lc8 Lc9 Lc10 Ll Ec0 Ec1 El
    have Lc0 := L.cell 0 _ rfl
    have Lc1 := L.cell 1 _ rfl
    have Lc2 := L.cell 2 _ rfl
    have Lc3 := L.cell 3 _ rfl
    have Lc4 := L.cell 4 _ rfl
    have Lc5 := L.cell 5 _ rfl
    have Lc6 := L.cell 6 _ rfl
    have Lc7 := L.cell 7 _ rfl
    have Lc8 := L.cell 8 _ rfl
    have Lc9 := L.cell 9 _ rfl
    have Lc10 := L.cell 10 _ rfl
    have Ll := L.lt
    have Ec0 := E.cell 0 _ rfl
    have Ec1 := E.cell 1 _ rfl
    have El := E.lt
    go_wp2_with fail
    refine (S.out _ I.out J.out).mono ?_
    rintro e w5 ⟨rfl, B⟩
    replace L := L.step B
    replace E := E.step B
    replace I := Lib.hid (I.out.step B)
    replace J := Lib.hid (J.out.step B)
    replace H := Lib.hid (bl_trans H.out B)
    clear B
    clear Lc0 Lc1 Lc2 Lc3 Lc4 Lc5 Lc6 Lc7 Lc8 Lc9 Lc10 Ll Ec0 Ec1 El
    have Lc0 := L.cell 0 _ rfl
    have Lc1 := L.cell 1 _ rfl
    have Lc2 := L.cell 2 _ rfl
    have Lc3 := L.cell 3 _ rfl
    have Lc4 := L.cell 4 _ rfl
    have Lc5 := L.cell 5 _ rfl
    have Lc6 := L.cell 6 _ rfl
    have Lc7 := L.cell 7 _ rfl
    have Lc8 := L.cell 8 _ rfl
    have Lc9 := L.cell 9 _ rfl
    have Lc10 := L.cell 10 _ rfl
    have Ll := L.lt
    have Ec0 := E.cell 0 _ rfl
    have Ec1 := E.cell 1 _ rfl
    have El := E.lt
    go_wp2_with fail
    refine (T.out _ I.out J.out).mono ?_
    rintro e w6 ⟨rfl, B⟩
    replace L := L.step B
    replace E := E.step B
    replace I := Lib.hid (I.out.step B)
    replace J := Lib.hid (J.out.step B)
    replace H := Lib.hid (bl_trans H.out B)
    clear B
    clear Lc0 Lc1 Lc2 Lc3 Lc4 Lc5 Lc6 Lc7 Lc8 Lc9 Lc10 Ll Ec0 Ec1 El
    go_wp2
    go_ret
    exact ⟨rfl, H.out⟩
  cases hk : vokB u v
  · rw [lf_no2 hk] at V S
    rw [hv] at T
    rw [hk] at U
    have Lc0 := L.cell 0 _ rfl
    have Lc1 := L.cell 1 _ rfl
    have Lc2 := L.cell 2 _ rfl
    have Lc3 := L.cell 3 _ rfl
    have Lc4 := L.cell 4 _ rfl
    have Lc5 := L.cell 5 _ rfl
    have Lc6 := L.cell 6 _ rfl
    have Lc7 := L.cell 7 _ rfl
    have Lc8 := L.cell 8 _ rfl
    have Lc9 := L.cell 9 _ rfl
    have Lc10 := L.cell 10 _ rfl
    have Ll := L.lt
    have Ec0 := E.cell 0 _ rfl
    have Ec1 := E.cell 1 _ rfl
    have El := E.lt
    go_wp2_with fail
    refine (V.out _ I.out J.out).mono ?_
    rintro e w4 ⟨rfl, B⟩
    replace L := L.step B
    replace E := E.step B
    replace I := Lib.hid (I.out.step B)
    replace J := Lib.hid (J.out.step B)
    replace H := Lib.hid (bl_trans H.out B)
    clear B
    clear Lc0 Lc1 Lc2 Lc3 Lc4 Lc5 Lc6 Lc7 Lc8 Lc9 Lc10 Ll Ec0 Ec1 El
    have Lc0 := L.cell 0 _ rfl
    have Lc1 := L.cell 1 _ rfl
    have Lc2 := L.cell 2 _ rfl
    have Lc3 := L.cell 3 _ rfl
    have Lc4 := L.cell 4 _ rfl
    have Lc5 := L.cell 5 _ rfl
    have Lc6 := L.cell 6 _ rfl
    have Lc7 := L.cell 7 _ rfl
    have Lc8 := L.cell 8 _ rfl
    have Lc9 := L.cell 9 _ rfl
    have Lc10 := L.cell 10 _ rfl
    have Ll := L.lt
    have Ec0 := E.cell 0 _ rfl
    have Ec1 := E.cell 1 _ rfl
    have El := E.lt
    go_wp2_with fail
    refine (S.out _ I.out J.out).mono ?_
    rintro e w5 ⟨rfl, B⟩
    replace L := L.step B
    replace E := E.step B
    replace I := Lib.hid (I.out.step B)
    replace J := Lib.hid (J.out.step B)
    replace H := Lib.hid (bl_trans H.out B)
    clear B
    clear Lc0 Lc1 Lc2 Lc3 Lc4 Lc5 Lc6 Lc7 Lc8 Lc9 Lc10 Ll Ec0 Ec1 El
    have Lc0 := L.cell 0 _ rfl
    have Lc1 := L.cell 1 _ rfl
    have Lc2 := L.cell 2 _ rfl
    have Lc3 := L.cell 3 _ rfl
    have Lc4 := L.cell 4 _ rfl
    have Lc5 := L.cell 5 _ rfl
    have Lc6 := L.cell 6 _ rfl
    have Lc7 := L.cell 7 _ rfl
    have Lc8 := L.cell 8 _ rfl
    have Lc9 := L.cell 9 _ rfl
    have Lc10 := L.cell 10 _ rfl
    have Ll := L.lt
    have Ec0 := E.cell 0 _ rfl
    have Ec1 := E.cell 1 _ rfl
    have El := E.lt
    go_wp2_with fail
    refine (T.out _ I.out J.out).mono ?_
    rintro e w6 ⟨rfl, B⟩
    replace L := L.step B
    replace E := E.step B
    replace I := Lib.hid (I.out.step B)
    replace J := Lib.hid (J.out.step B)
    replace H := Lib.hid (bl_trans H.out B)
    clear B
    clear Lc0 Lc1 Lc2 Lc3 Lc4 Lc5 Lc6 Lc7 Lc8 Lc9 Lc10 Ll Ec0 Ec1 El
    have Lc0 := L.cell 0 _ rfl
    have Lc1 := L.cell 1 _ rfl
    have Lc2 := L.cell 2 _ rfl
    have Lc3 := L.cell 3 _ rfl
    have Lc4 := L.cell 4 _ rfl
    have Lc5 := L.cell 5 _ rfl
    have Lc6 := L.cell 6 _ rfl
    have Lc7 := L.cell 7 _ rfl
    have Lc8 := L.cell 8 _ rfl
    have Lc9 := L.cell 9 _ rfl
    have Lc10 := L.cell 10 _ rfl
    have Ll := L.lt
    have Ec0 := E.cell 0 _ rfl
    have Ec1 := E.cell 1 _ rfl
    have El := E.lt
    go_wp2_with fail
    refine (U.out _).mono ?_
    rintro e w7 ⟨rfl, B⟩
    replace L := L.step B
    replace E := E.step B
    replace I := Lib.hid (I.out.step B)
    replace J := Lib.hid (J.out.step B)
    replace H := Lib.hid (bl_trans H.out B)
    clear B
    clear Lc0 Lc1 Lc2 Lc3 Lc4 Lc5 Lc6 Lc7 Lc8 Lc9 Lc10 Ll Ec0 Ec1 El
    go_wp2
    go_ret
    exact ⟨rfl, H.out⟩
  rw [lf_yes hv hk] at V S
  have okw := Lib.hid ((lv_iff i t x y ws gs p q s z b).1 hv).2.2.2.2.1
  have hl := Lib.hid I.out.1
  rw [hv] at T
  rw [hk] at U
  obtain ⟨fr, hfr⟩ : ∃ fr, frB ws u v = fr := ⟨_, rfl⟩
  rw [hfr] at V S
  replace hfr := Lib.hid hfr
  cases fr
  all_goals
    have Lc0 := L.cell 0 _ rfl
    have Lc1 := L.cell 1 _ rfl
    have Lc2 := L.cell 2 _ rfl
    have Lc3 := L.cell 3 _ rfl
    have Lc4 := L.cell 4 _ rfl
    have Lc5 := L.cell 5 _ rfl
    have Lc6 := L.cell 6 _ rfl
    have Lc7 := L.cell 7 _ rfl
    have Lc8 := L.cell 8 _ rfl
    have Lc9 := L.cell 9 _ rfl
    have Lc10 := L.cell 10 _ rfl
    have Ll := L.lt
    have Ec0 := E.cell 0 _ rfl
    have Ec1 := E.cell 1 _ rfl
    have El := E.lt
    go_wp2_with fail
    refine (V.out _ I.out J.out).mono ?_
    rintro e w4 ⟨rfl, B⟩
    replace L := L.step B
    replace E := E.step B
    replace I := Lib.hid (I.out.step B)
    replace J := Lib.hid (J.out.step B)
    replace H := Lib.hid (bl_trans H.out B)
    clear B
    clear Lc0 Lc1 Lc2 Lc3 Lc4 Lc5 Lc6 Lc7 Lc8 Lc9 Lc10 Ll Ec0 Ec1 El
    have Lc0 := L.cell 0 _ rfl
    have Lc1 := L.cell 1 _ rfl
    have Lc2 := L.cell 2 _ rfl
    have Lc3 := L.cell 3 _ rfl
    have Lc4 := L.cell 4 _ rfl
    have Lc5 := L.cell 5 _ rfl
    have Lc6 := L.cell 6 _ rfl
    have Lc7 := L.cell 7 _ rfl
    have Lc8 := L.cell 8 _ rfl
    have Lc9 := L.cell 9 _ rfl
    have Lc10 := L.cell 10 _ rfl
    have Ll := L.lt
    have Ec0 := E.cell 0 _ rfl
    have Ec1 := E.cell 1 _ rfl
    have El := E.lt
    go_wp2_with fail
    refine (S.out _ I.out J.out).mono ?_
    rintro e w5 ⟨rfl, B⟩
    replace L := L.step B
    replace E := E.step B
    replace I := Lib.hid (I.out.step B)
    replace J := Lib.hid (J.out.step B)
    replace H := Lib.hid (bl_trans H.out B)
    clear B
    clear Lc0 Lc1 Lc2 Lc3 Lc4 Lc5 Lc6 Lc7 Lc8 Lc9 Lc10 Ll Ec0 Ec1 El
    have Lc0 := L.cell 0 _ rfl
    have Lc1 := L.cell 1 _ rfl
    have Lc2 := L.cell 2 _ rfl
    have Lc3 := L.cell 3 _ rfl
    have Lc4 := L.cell 4 _ rfl
    have Lc5 := L.cell 5 _ rfl
    have Lc6 := L.cell 6 _ rfl
    have Lc7 := L.cell 7 _ rfl
    have Lc8 := L.cell 8 _ rfl
    have Lc9 := L.cell 9 _ rfl
    have Lc10 := L.cell 10 _ rfl
    have Ll := L.lt
    have Ec0 := E.cell 0 _ rfl
    have Ec1 := E.cell 1 _ rfl
    have El := E.lt
    go_wp2_with fail
    refine (T.out _ I.out J.out).mono ?_
    rintro e w6 ⟨rfl, B⟩
    replace L := L.step B
    replace E := E.step B
    replace I := Lib.hid (I.out.step B)
    replace J := Lib.hid (J.out.step B)
    replace H := Lib.hid (bl_trans H.out B)
    clear B
    clear Lc0 Lc1 Lc2 Lc3 Lc4 Lc5 Lc6 Lc7 Lc8 Lc9 Lc10 Ll Ec0 Ec1 El
    have Lc0 := L.cell 0 _ rfl
    have Lc1 := L.cell 1 _ rfl
    have Lc2 := L.cell 2 _ rfl
    have Lc3 := L.cell 3 _ rfl
    have Lc4 := L.cell 4 _ rfl
    have Lc5 := L.cell 5 _ rfl
    have Lc6 := L.cell 6 _ rfl
    have Lc7 := L.cell 7 _ rfl
    have Lc8 := L.cell 8 _ rfl
    have Lc9 := L.cell 9 _ rfl
    have Lc10 := L.cell 10 _ rfl
    have Ll := L.lt
    have Ec0 := E.cell 0 _ rfl
    have Ec1 := E.cell 1 _ rfl
    have El := E.lt
    go_wp2_with fail
    refine (U.out _).mono ?_
    rintro e w7 ⟨rfl, B⟩
    replace L := L.step B
    replace E := E.step B
    replace I := Lib.hid (I.out.step B)
    replace J := Lib.hid (J.out.step B)
    replace H := Lib.hid (bl_trans H.out B)
    clear B
    clear Lc0 Lc1 Lc2 Lc3 Lc4 Lc5 Lc6 Lc7 Lc8 Lc9 Lc10 Ll Ec0 Ec1 El
    clear V S T U
    have Lc0 := L.cell 0 _ rfl
    have Lc1 := L.cell 1 _ rfl
    have Lc2 := L.cell 2 _ rfl
    have Lc3 := L.cell 3 _ rfl
    have Lc4 := L.cell 4 _ rfl
    have Lc5 := L.cell 5 _ rfl
    have Lc6 := L.cell 6 _ rfl
    have Lc7 := L.cell 7 _ rfl
    have Lc8 := L.cell 8 _ rfl
    have Lc9 := L.cell 9 _ rfl
    have Lc10 := L.cell 10 _ rfl
    have Ll := L.lt
    have Ec0 := E.cell 0 _ rfl
    have Ec1 := E.cell 1 _ rfl
    have El := E.lt
    go_wp2
    clear Lc0 Lc1 Lc2 Lc3 Lc4 Lc5 Lc6 Lc7 Lc8 Lc9 Lc10 Ll Ec0 Ec1 El
    go_loopw [7, 8] (TouRel w w7 n ws u v) (fun _ i _ => n - (intOf i).toNat)
    case atStart => exact ⟨0, Nat.zero_le _, rfl, by simp [tou], bl_refl _⟩
    case round =>
      obtain ⟨k, hk1, rfl, rfl, B⟩ := hrel
      have BB := Lib.hid B
      replace L := L.step B
      replace E := E.step B
      replace I := Lib.hid (I.out.step B)
      replace J := Lib.hid (J.out.step B)
      replace H := Lib.hid (bl_trans H.out B)
      clear B
      have L4 := L.cell 4 _ rfl
      have Ll := L.lt
      by_cases hlt : k < n
      · obtain ⟨ab, ao, rfl, hab, _⟩ := I.out.2 (by omega)
        have hkl : k < ws.length := by have := hl.out; omega
        have TN := tou_next (u := u) (v := v) hkl
        have ok := all_mem (f := Bx.ok) okw.out hkl
        obtain ⟨⟨za, zb, zc, zd⟩, hQ⟩ : ∃ q, ws.getD k bz = q := ⟨_, rfl⟩
        rw [hQ] at TN ok
        have Z := (boxes_cells I.out (k := k) hlt).lie hab
        rw [hQ] at Z
        simp only at Z
        clear hQ hkl
        have C := Lib.hid (fun W => implBTouch za zb zc zd u v 500 W)
        rw [tc_yes ok hk (show inB 500 0 1000000 = true by decide)] at C
        change (tou ws u v (k + 1) = (tou ws u v k || t0B za zb zc zd u v 500)) at TN
        cases ht : tou ws u v k
        · skip
          rw [ht] at TN
          cases hz : t0B za zb zc zd u v 500
          all_goals
            rw [hz] at C TN
            replace TN := Lib.hid TN
            clear ht hz
            go_wp2_with fail
            refine wp_region_held_drew (S := fun w' => CellsAt w' w1.heap.size (lvs i t x y (some ⟨ab, ao, none⟩) n c G m kk p q s z b) ∧ CellsAt w' (w1.heap.size + 1) [.int .i64 u, .int .i64 v] ∧ BoxIn w' ab (ao + k * 4) za zb zc zd) (by kernel_rfl) ⟨(by repeat (first | with_reducible exact Ln | with_reducible exact L | with_reducible refine CellsAt.alloc ?_ _ | with_reducible refine CellsAt.drew ?_)), (by repeat (first | with_reducible exact En | with_reducible exact E | with_reducible refine CellsAt.alloc ?_ _ | with_reducible refine CellsAt.drew ?_)), (by repeat (first | with_reducible exact Zn | with_reducible exact Z | with_reducible refine BoxIn.alloc ?_ _ | with_reducible refine BoxIn.drew ?_))⟩ (fun hHeld => ?_)
            refine wpAnyH_take (i := 0) (oi := _) (v := ?_) rfl (by kernel_rfl) (by kernel_rfl) (by kernel_rfl) (fun _ _ _ h => h) (Or.inl ⟨by rfl, ?_⟩) hHeld ?_
            rotate_left
            · intro w hSw
              try dsimp only at hSw
              go_simp
              all_goals with_reducible rfl
            try simp only [Act.put, List.getElem_toArray, List.getElem_cons_zero, List.setIfInBounds_toArray, List.set_cons_zero, List.set_cons_succ]
            refine wpAnyH_take (i := 1) (oi := _) (v := ?_) rfl (by kernel_rfl) (by kernel_rfl) (by kernel_rfl) (fun _ _ _ h => h) (Or.inl ⟨by rfl, ?_⟩) hHeld ?_
            rotate_left
            · intro w hSw
              try dsimp only at hSw
              go_simp
              all_goals with_reducible rfl
            try simp only [Act.put, List.getElem_toArray, List.getElem_cons_succ, List.getElem_cons_zero, List.setIfInBounds_toArray, List.set_cons_zero, List.set_cons_succ]
            refine wpAnyH_take (i := 2) (oi := _) (v := ?_) rfl (by kernel_rfl) (by kernel_rfl) (by kernel_rfl) (fun _ _ _ h => h) (Or.inl ⟨by rfl, ?_⟩) hHeld ?_
            rotate_left
            · intro w hSw
              try dsimp only at hSw
              go_simp
              all_goals with_reducible rfl
            try simp only [Act.put, List.getElem_toArray, List.getElem_cons_succ, List.getElem_cons_zero, List.setIfInBounds_toArray, List.set_cons_zero, List.set_cons_succ]
            refine wpAnyH_take (i := 3) (oi := _) (v := ?_) rfl (by kernel_rfl) (by kernel_rfl) (by kernel_rfl) (fun _ _ _ h => h) (Or.inl ⟨by rfl, ?_⟩) hHeld ?_
            rotate_left
            · intro w hSw
              have c4 := hSw.1.cell 4 _ rfl
              go_simp
              all_goals with_reducible rfl
            try simp only [Act.put, List.getElem_toArray, List.getElem_cons_succ, List.getElem_cons_zero, List.setIfInBounds_toArray, List.set_cons_zero, List.set_cons_succ]
            refine wpAnyH_take (i := 4) (oi := _) (v := ?_) rfl (by kernel_rfl) (by kernel_rfl) (by kernel_rfl) (fun _ _ _ h => h) (Or.inl ⟨by rfl, ?_⟩) hHeld ?_
            rotate_left
            · intro w hSw
              try dsimp only at hSw
              go_simp
              all_goals with_reducible rfl
            try simp only [Act.put, List.getElem_toArray, List.getElem_cons_succ, List.getElem_cons_zero, List.setIfInBounds_toArray, List.set_cons_zero, List.set_cons_succ]
            refine wpAnyH_take (i := 5) (oi := _) (v := ?_) rfl (by kernel_rfl) (by kernel_rfl) (by kernel_rfl) (fun _ _ _ h => h) (Or.inl ⟨by rfl, ?_⟩) hHeld ?_
            rotate_left
            · intro w hSw
              try dsimp only at hSw
              go_simp
              all_goals with_reducible rfl
            try simp only [Act.put, List.getElem_toArray, List.getElem_cons_succ, List.getElem_cons_zero, List.setIfInBounds_toArray, List.set_cons_zero, List.set_cons_succ]
            refine wpAnyH_take (i := 6) (oi := _) (v := ?_) rfl (by kernel_rfl) (by kernel_rfl) (by kernel_rfl) (fun _ _ _ h => h) (Or.inl ⟨by rfl, ?_⟩) hHeld ?_
            rotate_left
            · intro w hSw
              obtain ⟨b0, b1, b2, b3, _⟩ := hSw.2.2
              clear hSw
              go_simp
              all_goals with_reducible rfl
            try simp only [Act.put, List.getElem_toArray, List.getElem_cons_succ, List.getElem_cons_zero, List.setIfInBounds_toArray, List.set_cons_zero, List.set_cons_succ]
            refine wpAnyH_take (i := 7) (oi := _) (v := ?_) rfl (by kernel_rfl) (by kernel_rfl) (by kernel_rfl) (fun _ _ _ h => h) (Or.inl ⟨by rfl, ?_⟩) hHeld ?_
            rotate_left
            · intro w hSw
              have c0 := hSw.2.1.cell 0 _ rfl
              have c1 := hSw.2.1.cell 1 _ rfl
              go_simp
              all_goals with_reducible rfl
            try simp only [Act.put, List.getElem_toArray, List.getElem_cons_succ, List.getElem_cons_zero, List.setIfInBounds_toArray, List.set_cons_zero, List.set_cons_succ]
            refine wpAnyH_ready (rs := [8]) (by kernel_rfl) (by simp) ?_
            apply AllReadyH.cons rfl ?_ AllReadyH.nil
            intro K hK
            go_simp
            go_at_call 22
            refine (C.out _).mono ?_
            rintro e wn ⟨rfl, B⟩
            have Ln := CellsAt.step (by first | with_reducible exact L.drew | with_reducible exact L) B
            have En := CellsAt.step (by first | with_reducible exact E.drew | with_reducible exact E) B
            have Zn := BoxIn.step (by first | with_reducible exact Z.drew | with_reducible exact Z) B
            have Bn := Lib.hid (bl_trans (by first | with_reducible exact bl_drew1 BB.out | with_reducible exact BB.out) B)
            clear B
            clear hHeld
            go_wp2_with fail
            refine hK.out _ _ ⟨(by repeat (first | with_reducible exact Ln | with_reducible exact L | with_reducible refine CellsAt.alloc ?_ _ | with_reducible refine CellsAt.drew ?_)), (by repeat (first | with_reducible exact En | with_reducible exact E | with_reducible refine CellsAt.alloc ?_ _ | with_reducible refine CellsAt.drew ?_)), (by repeat (first | with_reducible exact Zn | with_reducible exact Z | with_reducible refine BoxIn.alloc ?_ _ | with_reducible refine BoxIn.drew ?_))⟩ (fun hHeld => ?_)
            clear hK K
            try simp only [Act.put, List.getElem_toArray, List.getElem_cons_succ, List.getElem_cons_zero, List.setIfInBounds_toArray, List.set_cons_zero, List.set_cons_succ]
            refine wpAnyH_take (i := 9) (oi := _) (v := ?_) rfl (by kernel_rfl) (by kernel_rfl) (by kernel_rfl) (fun _ _ _ h => h) (Or.inl ⟨by rfl, ?_⟩) hHeld ?_
            rotate_left
            · intro w hSw
              try dsimp only at hSw
              go_simp
              all_goals with_reducible rfl
            try simp only [Act.put, List.getElem_toArray, List.getElem_cons_succ, List.getElem_cons_zero, List.setIfInBounds_toArray, List.set_cons_zero, List.set_cons_succ]
            refine wpAnyH_ready (rs := [10]) (by kernel_rfl) (by simp) ?_
            apply AllReadyH.cons rfl ?_ AllReadyH.nil
            intro K hK
            go_simp
            refine hK.out _ _ ⟨(by repeat (first | with_reducible exact Ln | with_reducible exact L | with_reducible refine CellsAt.alloc ?_ _ | with_reducible refine CellsAt.drew ?_)), (by repeat (first | with_reducible exact En | with_reducible exact E | with_reducible refine CellsAt.alloc ?_ _ | with_reducible refine CellsAt.drew ?_)), (by repeat (first | with_reducible exact Zn | with_reducible exact Z | with_reducible refine BoxIn.alloc ?_ _ | with_reducible refine BoxIn.drew ?_))⟩ (fun hHeld => ?_)
            clear hK K
            try simp only [Act.put, List.getElem_toArray, List.getElem_cons_succ, List.getElem_cons_zero, List.setIfInBounds_toArray, List.set_cons_zero, List.set_cons_succ]
            refine wpAnyH_done (by kernel_rfl) ?_ _
            go_wp2
            go_roundw
            case rel => exact ⟨k + 1, by omega, by go_num, by rw [TN.out]; rfl, Bn.out⟩
            case measure => simp [intOf]; omega
        · rw [ht] at TN
          replace TN := Lib.hid TN
          clear ht C
          go_wp2_with fail
          go_quiet (fail)
          go_wp2
          go_roundw
          case rel => exact ⟨k + 1, by omega, by go_num, by rw [TN.out]; rfl, bl_drew BB.out _⟩
          case measure => simp [intOf]; omega
      · have TE := Lib.hid (tou_end (u := u) (v := v) (ws := ws) (k := k) (by have := hl.out; omega))
        rw [hfr.out] at TE
        have ht := TE.out
        clear TE
        go_wp2
        go_ret
        exact ⟨rfl, H.out⟩

end Go.Proofs.Ytmhmlmoohimfmaa
