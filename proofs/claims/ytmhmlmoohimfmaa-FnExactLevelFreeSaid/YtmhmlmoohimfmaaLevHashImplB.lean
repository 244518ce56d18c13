/-
  What the program's own LevelHash returns, at every argument.
-/
import Derived.Test.YtmhmlmoohimfmaaLevHashImpl
namespace Go.Proofs.Ytmhmlmoohimfmaa
open Go.RowKit
open M

/-- At a round's head: the hash of the boxes so far. -/
def LhRel (w : World) (hb N : Nat) (h : Int) (vs : List Value) (D : Option Addr) (bs : List Bx) (_b i : Value) (W : World) : Prop :=
  ∃ j : Nat, j ≤ N ∧ i = .int .i64 j ∧ ICell W hb (hsh h (flat (bs.take j))) ∧ CellsAt W w.heap.size vs ∧ Boxes W D N bs ∧ Below w.heap.size w W
theorem lh_parts {i t x y : Int} {ws gs : List Bx} {p q r s b : Int} {n m : Nat} (h : lvB i t x y ws gs p q r s b = true) (hn : ws.length = n) (hm : gs.length = m) :
    lhI i t x y ws gs p q r s b = hsh (hsh (hsh 17 [i, t, x, y, (n : Int), (m : Int), b]) (flat (ws ++ gs))) [p, q, r, s] := by
  rw [lh_yes h, lvL, hsh_append, List.append_assoc, hsh_append, flat_append, hn, hm]

set_option maxRecDepth 100000 in
set_option maxHeartbeats 4000000 in
theorem implLvHash (i t x y : Int) (A : Option Addr) (n c : Nat) (G : Option Addr) (m k : Nat) (p q r s b : Int) (ws gs : List Bx) (w : World) (I : Boxes w A n ws) (J : Boxes w G m gs) (hn : n ≤ 281474976710656) (hm : m ≤ 281474976710656) :
    Calls Try.prog 25 #[lev i t x y A n c G m k p q r s b] w fun e w' => e = .returned (.int .i64 (lhI i t x y ws gs p q r s b)) ∧ Below w.heap.size w w' := by
  have V := Lib.hid (fun (W : World) (Z : Boxes W A n ws) (Y : Boxes W G m gs) => implLvValid i t x y A n c G m k p q r s b ws gs W Z Y hn hm)
  have hl1 := Lib.hid I.1
  have hl2 := Lib.hid J.1
  have I := Lib.hid I
  have J := Lib.hid J
  cases h : lvB i t x y ws gs p q r s b
  · have E := Lib.hid (lh_no h)
    rw [h] at V
    go_enter Try.func25, Try.ntmps25
    go_wp2_with fail
    refine (V.out _ (I.out.alloc _) (J.out.alloc _)).mono ?_
    rintro e w1 ⟨rfl, B1⟩
    have H := Lib.hid (bl_trans (bl_alloc (bl_refl w) _) B1)
    clear B1
    go_wp2
    go_ret
    exact ⟨ret_int (by rw [E.out]), H.out⟩
  obtain ⟨_, _, _, g4, _, g6, _⟩ := (lv_iff i t x y ws gs p q r s b).1 h
  have E := Lib.hid (lh_parts h hl1.out hl2.out)
  have g4 : n ≤ 4 := by have := hl1.out; omega
  have g6 : m ≤ 3 := by have := hl2.out; omega
  rw [h] at V
  clear h
  go_enter Try.func25, Try.ntmps25
  go_wp2_with fail
  refine (V.out _ (I.out.alloc _) (J.out.alloc _)).mono ?_
  rintro e w1 ⟨rfl, B1⟩
  have L1 : CellsAt w1 w.heap.size (lvs i t x y A n c G m k p q r s b) := (CellsAt.new w _ _ _ rfl).step B1
  have H1 := Lib.hid (bl_trans (bl_alloc (bl_refl w) _) B1)
  clear B1 V
  have l1 := L1.lt
  go_wp2_with fail
  refine (implStart _).mono ?_
  rintro e w2 ⟨rfl, D2, B2⟩
  have L2 := L1.step B2
  have H2 := Lib.hid (bl_trans H1.out B2)
  clear B2 L1 H1
  have D2 := Lib.hid D2
  have l2 := L2.lt
  have k0 := L2.cell 0 _ rfl
  have k1 := L2.cell 1 _ rfl
  have k2 := L2.cell 2 _ rfl
  have k3 := L2.cell 3 _ rfl
  have k4 := L2.cell 4 _ rfl
  have k5 := L2.cell 5 _ rfl
  have k10 := L2.cell 10 _ rfl
  go_wp2_with fail
  refine (implCont 17 _ 7 _ _ [i, t, x, y, (n : Int), (m : Int), b] _ (by omega) (by omega) (Ints.sevens _ _ _ _ _ _ _ _ _ _ rfl) (off_new D2.out.lt) (D2.out.alloc _) (by omega)).mono ?_
  rintro e w3 ⟨rfl, D3, K3⟩
  have L3 := (L2.alloc _).kept K3 (by omega)
  have H3 := Lib.hid ((bl_alloc H2.out _).trans (K3.below (by have := H2.out.size; simp; omega) (by omega)))
  clear K3 L2 H2 D2 k0 k1 k2 k3 k4 k5 k10
  have D3 := Lib.hid D3
  obtain ⟨h7, e7⟩ : ∃ h7, hsh 17 [i, t, x, y, (n : Int), (m : Int), b] = h7 := ⟨_, rfl⟩
  have bd7 := hsh_bd (h := 17) (by omega) (by omega) [i, t, x, y, (n : Int), (m : Int), b]
  rw [e7] at D3 E bd7 ⊢
  have e7 := Lib.hid e7
  have k4 := L3.cell 4 _ rfl
  have k5 := L3.cell 5 _ rfl
  have l3 := L3.lt
  go_wp2_with fail
  refine (implConcat _ A n c G m k ws gs _ (CellsAt.new _ _ _ _ rfl) ((I.out.step H3.out).alloc _) ((J.out.step H3.out).alloc _) (by omega) (by omega)).mono ?_
  rintro e w4 ⟨D, cap, rfl, K4, hD, B4⟩
  have hbD := Lib.hid (show ∀ g off, D = some ⟨g, off, none⟩ → w1.heap.size < g from fun g off e => by have := hD g off e; have := D3.out.lt; simp at *; omega)
  have L4 := Lib.hid ((L3.alloc _).step B4)
  have D4 := Lib.hid ((D3.out.alloc _).step B4)
  have H4 := Lib.hid (bl_trans (bl_alloc H3.out _) B4)
  obtain ⟨N, hN⟩ : ∃ N, n + m = N := ⟨_, rfl⟩
  have hN7 : N ≤ 7 := by omega
  rw [hN] at K4 ⊢
  have hN := Lib.hid hN
  have K4 := Lib.hid K4
  have hlN := Lib.hid K4.out.1
  clear B4 L3 D3 H3 hD k4 k5 l3 l2
  obtain ⟨bs, ebs⟩ : ∃ bs, ws ++ gs = bs := ⟨_, rfl⟩
  rw [ebs] at K4 hlN E
  have ebs := Lib.hid ebs
  go_wp2
  go_loopw [5, 38] (LhRel w w1.heap.size N h7 (lvs i t x y A n c G m k p q r s b) D bs) (fun _ i _ => N - (intOf i).toNat)
  case atStart => exact ⟨0, Nat.zero_le _, rfl, D4.out, L4.out, K4.out, H4.out⟩
  case round =>
    clear D4 L4 K4 H4
    obtain ⟨j, hj, rfl, C, L, K, B⟩ := hrel
    have ll := L.lt
    have cl := C.lt
    obtain ⟨b0, b1⟩ := hsh_bd bd7.1 bd7.2 (flat (bs.take j))
    have b0 := Lib.hid b0
    have b1 := Lib.hid b1
    have C := Lib.hid C
    have B := Lib.hid B
    by_cases hlt : j < N
    · have K' := Lib.hid K
      obtain ⟨bb, off, rfl, hbb, hcell⟩ := K.2 (by omega)
      have Z := (hcell j hlt).lie hbb
      have HF := flat_next (bs := bs) (k := j) (by have := hlN.out; omega)
      clear hcell K
      generalize bs.getD j bz = z at *
      obtain ⟨za, zb, zc, zd⟩ := z
      simp only at Z HF
      have HF := Lib.hid HF
      have c0 := Z.c0
      have c1 := Z.c1
      have c2 := Z.c2
      have c3 := Z.c3
      go_wp2_with fail
      refine (implNumbers _ _ _ _ _).mono ?_
      rintro e w5 ⟨g, rfl, hg, J5, B5⟩
      have C5 := Lib.hid ((C.out.alloc _).step B5)
      have L5 := Lib.hid ((L.alloc _).step B5)
      have K5 := Lib.hid ((K'.out.alloc _).step B5)
      have H5 := Lib.hid (bl_trans (bl_alloc B.out _) B5)
      have J5 := Lib.hid J5
      have hg : w1.heap.size < g := by simp at hg; omega
      clear B5 C L K' B Z c0 c1 c2 c3
      go_wp2_with fail
      refine (implCont _ _ 4 _ _ [za, zb, zc, zd] _ b0.out b1.out J5.out (off_new hg) C5.out (by omega)).mono ?_
      rintro e w6 ⟨rfl, C6, K6⟩
      have A6 := Lib.hid (show LhRel w w1.heap.size N h7 (lvs i t x y A n c G m k p q r s b) (some ⟨bb, off, none⟩) bs (.int .i64 0) (.int .i64 ((j + 1 : Nat) : Int)) w6 from
        ⟨j + 1, by omega, rfl, by rw [HF.out, hsh_append]; exact C6, L5.out.kept K6 (by omega), K5.out.kept K6 (fun _ g' off' e => by have := hbD.out g' off' e; omega), H5.out.trans (K6.below H5.out.size (by omega))⟩)
      clear C6 K6 C5 L5 K5 H5 J5
      go_wp2
      go_roundw
      case rel => simpa [LhRel] using A6.out
      case measure => simp [intOf]; omega
    · obtain rfl : j = N := by omega
      rw [List.take_of_length_le (by have := hlN.out; omega)] at C b0 b1
      have q6 := L.cell 6 _ rfl
      have q7 := L.cell 7 _ rfl
      have q8 := L.cell 8 _ rfl
      have q9 := L.cell 9 _ rfl
      go_wp2_with fail
      refine (implNumbers _ _ _ _ _).mono ?_
      rintro e w5 ⟨g, rfl, hg, J5, B5⟩
      have C5 := Lib.hid (C.out.step B5)
      have H5 := Lib.hid (bl_trans B.out B5)
      have J5 := Lib.hid J5
      have hg : w1.heap.size < g := by omega
      clear B5 C L K B q6 q7 q8 q9
      go_wp2_with fail
      refine (implCont _ _ 4 _ _ [p, q, r, s] _ b0.out b1.out J5.out (off_new hg) C5.out (by omega)).mono ?_
      rintro e w6 ⟨rfl, C6, K6⟩
      have H6 := Lib.hid (H5.out.trans (K6.below H5.out.size (by omega)))
      clear C6 K6 C5 H5 J5
      go_wp2
      go_ret
      exact ⟨ret_int (by rw [E.out]), H6.out⟩

end Go.Proofs.Ytmhmlmoohimfmaa
