/-
  A drawn level, changed: whatever its numbers, its walls and gates lie in memory that no reader reads.
-/
import Derived.Test.YtnoenjociioffaaDoorDrawLev
namespace Go.Proofs.YtnoenjociioffaaDoor
open Go.RowKit
open M

/-- A drawn level, perhaps changed. -/
def BtDrawn (B : Nat) (r : Nat) (k : Int) (w : World) (e : Ending) (w' : World) : Prop :=
  ∃ (i t x y : Int) (A : Option Addr) (n c : Nat) (G : Option Addr) (m kk : Nat) (p q s z b : Int) (ws gs : List Bx), e = .returned (lev i t x y A n c G m kk p q s z b) ∧ (n ≤ 20 ∧ n ≤ c) ∧ (m ≤ 20 ∧ m ≤ kk) ∧ Lows ws ∧ Boxes w' A n ws ∧ Boxes w' G m gs ∧ Mine B A ∧ Mine B G ∧ RdU B w' r (k + 60) ∧ Kept r w w'
/-- A level in a variable (the call's first block), and the result's variable (its second). -/
structure BtW (B r : Nat) (w : World) (vs : List Value) (A : Option Addr) (n : Nat) (ws : List Bx) (G : Option Addr) (m : Nat) (gs : List Bx) (k : Int) (W : World) : Prop where
  L : CellsAt W w.heap.size vs
  D : CellsAt W (w.heap.size + 1) (lvs 0 0 0 0 none 0 0 none 0 0 0 0 0 0 0)
  I : Boxes W A n ws
  J : Boxes W G m gs
  MA : Mine B A
  MG : Mine B G
  NA : 0 < n → ∀ g off, A = some ⟨g, off, none⟩ → g ≠ w.heap.size + 1
  NG : 0 < m → ∀ g off, G = some ⟨g, off, none⟩ → g ≠ w.heap.size + 1
  NA' : 0 < n → ∀ g off, A = some ⟨g, off, none⟩ → g ≠ w.heap.size
  NG' : 0 < m → ∀ g off, G = some ⟨g, off, none⟩ → g ≠ w.heap.size
  R : RdU B W r k
  K : Kept r w W
  bw : B ≤ w.heap.size
  rB : r < B
theorem BtW.kept {B r : Nat} {w : World} {vs : List Value} {A : Option Addr} {n : Nat} {ws : List Bx} {G : Option Addr} {m : Nat} {gs : List Bx} {k : Int} {W : World} {k' : Int} {W' : World} (h : BtW B r w vs A n ws G m gs k W) (K : Kept r W W') (R : RdU B W' r k') : BtW B r w vs A n ws G m gs k' W' := by
  have h1 := h.bw; have h2 := h.rB
  exact ⟨h.L.kept K (by omega), h.D.kept K (by omega), h.I.kept K (fun _ g off e => by have := h.MA g off e; omega), h.J.kept K (fun _ g off e => by have := h.MG g off e; omega), h.MA, h.MG, h.NA, h.NG, h.NA', h.NG', R, h.K.trans K, h.bw, h.rB⟩
theorem BtW.alloc {B r : Nat} {w : World} {vs : List Value} {A : Option Addr} {n : Nat} {ws : List Bx} {G : Option Addr} {m : Nat} {gs : List Bx} {k : Int} {W : World} (h : BtW B r w vs A n ws G m gs k W) (ob : Obj) : BtW B r w vs A n ws G m gs k (W.alloc ob) := h.kept ((Kept.refl r W).alloc ob) (h.R.alloc ob)
theorem BtW.mono {B r : Nat} {w : World} {vs : List Value} {A : Option Addr} {n : Nat} {ws : List Bx} {G : Option Addr} {m : Nat} {gs : List Bx} {k : Int} {W : World} {k' : Int} (h : BtW B r w vs A n ws G m gs k W) (hk : k ≤ k') : BtW B r w vs A n ws G m gs k' W := { h with R := h.R.mono hk }
/-- Blocks from a bound on may grow, if they are none of those that hold the level. -/
theorem BtW.grown {B r : Nat} {w : World} {vs : List Value} {A : Option Addr} {n : Nat} {ws : List Bx} {G : Option Addr} {m : Nat} {gs : List Bx} {k : Int} {W : World} {W' : World} {row : Option Nat} (h : BtW B r w vs A n ws G m gs k W) (hg : W.grownBy W' row) (hr : ∀ g, row = some g → w.heap.size + 2 ≤ g) (ha : 0 < n → ∀ g off, A = some ⟨g, off, none⟩ → row ≠ some g) (hb : 0 < m → ∀ g off, G = some ⟨g, off, none⟩ → row ≠ some g) : BtW B r w vs A n ws G m gs k W' := by
  have h1 := h.bw; have h2 := h.rB
  exact ⟨h.L.grown hg (fun e => by have := hr _ e; omega), h.D.grown hg (fun e => by have := hr _ e; omega), h.I.grown hg ha, h.J.grown hg hb, h.MA, h.MG, h.NA, h.NG, h.NA', h.NG', h.R.grown hg (fun g e => by have := hr g e; omega), h.K.grown hg (fun g e => by have := hr g e; omega), h.bw, h.rB⟩
theorem Boxes.keptB {W W' : World} {A : Option Addr} {n b : Nat} {bs : List Bx} (h : Boxes W A n bs) (K : Kept b W W') (hA : 0 < n → ∀ g off, A = some ⟨g, off, none⟩ → g ≠ b) : Boxes W' A n bs := h.kept K hA
theorem BtW.set {B r : Nat} {w : World} {vs : List Value} {A : Option Addr} {n : Nat} {ws : List Bx} {G : Option Addr} {m : Nat} {gs : List Bx} {k : Int} {W : World} (h : BtW B r w vs A n ws G m gs k W) (o : Nat) (ho : o < vs.length) (v : Value) : BtW B r w (vs.set o v) A n ws G m gs k (W.setCell ⟨w.heap.size, o, none⟩ v) := by
  have h1 := h.bw; have h2 := h.rB
  have K := kset (Kept.refl w.heap.size W) o v
  exact ⟨h.L.set o ho v, h.D.far (by omega) _ _, h.I.keptB K h.NA', h.J.keptB K h.NG', h.MA, h.MG, h.NA, h.NG, h.NA', h.NG', h.R.set _ _ _ (by omega), h.K.set _ _ _ (by omega), h.bw, h.rB⟩
/-- Other walls. -/
theorem BtW.walls {B r : Nat} {w : World} {vs : List Value} {A : Option Addr} {n : Nat} {ws : List Bx} {G : Option Addr} {m : Nat} {gs : List Bx} {k : Int} {W : World} {A' : Option Addr} {n' : Nat} {ws' : List Bx} (h : BtW B r w vs A n ws G m gs k W) (I : Boxes W A' n' ws') (M : Mine (w.heap.size + 2) A') : BtW B r w vs A' n' ws' G m gs k W :=
  { h with I := I, MA := fun g off e => by have := M g off e; have := h.bw; omega, NA := fun _ g off e => by have := M g off e; omega, NA' := fun _ g off e => by have := M g off e; omega }
/-- Other gates. -/
theorem BtW.gates {B r : Nat} {w : World} {vs : List Value} {A : Option Addr} {n : Nat} {ws : List Bx} {G : Option Addr} {m : Nat} {gs : List Bx} {k : Int} {W : World} {G' : Option Addr} {m' : Nat} {gs' : List Bx} (h : BtW B r w vs A n ws G m gs k W) (J : Boxes W G' m' gs') (M : Mine (w.heap.size + 2) G') : BtW B r w vs A n ws G' m' gs' k W :=
  { h with J := J, MG := fun g off e => by have := M g off e; have := h.bw; omega, NG := fun _ g off e => by have := M g off e; omega, NG' := fun _ g off e => by have := M g off e; omega }
theorem BtW.out {B r : Nat} {w : World} {vs : List Value} {A : Option Addr} {n : Nat} {ws : List Bx} {G : Option Addr} {m : Nat} {gs : List Bx} {k : Int} {W : World} {k0 : Int} {i t x y : Int} {c kk : Nat} {p q s z b : Int} {us : List Value} (h : BtW B r w vs A n ws G m gs k W) (hk : k ≤ k0 + 60) (hn : n ≤ 20 ∧ n ≤ c) (hm : m ≤ 20 ∧ m ≤ kk) (hl : Lows ws) : BtDrawn B r k0 w (.returned (lev i t x y A n c G m kk p q s z b)) (W.setCells (w.heap.size + 1) 0 us) := by
  have h1 := h.bw; have h2 := h.rB
  have K := ksets us 0 (Kept.refl (w.heap.size + 1) W)
  exact ⟨i, t, x, y, A, n, c, G, m, kk, p, q, s, z, b, ws, gs, rfl, hn, hm, hl, h.I.keptB K h.NA, h.J.keptB K h.NG, h.MA, h.MG, (h.R.sets' (by omega) _ _).mono hk, h.K.sets' (by omega) _ _⟩
theorem lt_of_boxes {W : World} {A : Option Addr} {n : Nat} {bs : List Bx} (h : Boxes W A n bs) (hn : 0 < n) {g off : Nat} (e : A = some ⟨g, off, none⟩) : g < W.heap.size := h.lt hn g off e
theorem Boxes.two (w : World) (B : Nat) (a b c d a' b' c' d' : Int) (t : TypeId) (hB : B = w.heap.size) : Boxes (w.alloc (.cells #[.int .i64 a, .int .i64 b, .int .i64 c, .int .i64 d, .int .i64 a', .int .i64 b', .int .i64 c', .int .i64 d'] t)) (some ⟨B, 0, none⟩) 2 [⟨a, b, c, d⟩, ⟨a', b', c', d'⟩] :=
  hB ▸ ⟨rfl, fun _ => ⟨w.heap.size, 0, rfl, by simp, fun k hk => by
    match k, hk with
    | 0, _ => exact ⟨by simp, by simp, by simp, by simp⟩
    | 1, _ => exact ⟨by simp, by simp, by simp, by simp⟩⟩⟩

def ids : Array Value := #[.int .i64 (-1), .int .i64 99, .int .i64 100]
def tks : Array Value := #[.int .i64 0, .int .i64 1, .int .i64 60, .int .i64 61]
theorem id_at (i : Nat) (h : i < 3) : ∃ z : Int, ids[i]? = some (.int .i64 z) := by
  have : i = 0 ∨ i = 1 ∨ i = 2 := by omega
  rcases this with rfl | rfl | rfl
  all_goals exact ⟨_, rfl⟩
theorem tk_at (i : Nat) (h : i < 4) : ∃ z : Int, tks[i]? = some (.int .i64 z) := by
  have : i = 0 ∨ i = 1 ∨ i = 2 ∨ i = 3 := by omega
  rcases this with rfl | rfl | rfl | rfl
  all_goals exact ⟨_, rfl⟩

set_option maxRecDepth 100000 in
set_option maxHeartbeats 8000000 in
theorem bent_drawn {B : Nat} (r : Nat) (k : Int) (i t x y : Int) (A : Option Addr) (n c : Nat) (G : Option Addr) (m kk : Nat) (p q s z b : Int) (ws gs : List Bx) (w : World) (R : RdU B w r k) (k0 : 0 ≤ k) (hk : k ≤ 60000) (I : Boxes w A n ws) (J : Boxes w G m gs) (MA : Mine B A) (MG : Mine B G) (hn : n ≤ 10 ∧ n ≤ c) (hm : m ≤ 10 ∧ m ≤ kk) (HL : Lows ws) :
    Calls Tryd.prog 43 #[.pointer (some ⟨r, 0, none⟩), lev i t x y A n c G m kk p q s z b] w (BtDrawn B r k w) := by
  have hr := R.here
  have hB := R.base
  have H0 : BtW B r w (lvs i t x y A n c G m kk p q s z b) A n ws G m gs k ((w.alloc (.cells #[.int .i64 i, .int .i64 t, .int .i64 x, .int .i64 y, .slice A n c, .slice G m kk, .int .i64 p, .int .i64 q, .int .i64 s, .int .i64 z, .int .i64 b] 29)).alloc (.cells #[.int .i64 0, .int .i64 0, .int .i64 0, .int .i64 0, .slice none 0 0, .slice none 0 0, .int .i64 0, .int .i64 0, .int .i64 0, .int .i64 0, .int .i64 0] 29)) :=
    ⟨(CellsAt.new w _ _ _ rfl).alloc _, CellsAt.new _ _ _ _ (by simp), (I.alloc _).alloc _, (J.alloc _).alloc _, MA, MG, fun h g off e => by have := lt_of_boxes I h e; omega, fun h g off e => by have := lt_of_boxes J h e; omega, fun h g off e => by have := lt_of_boxes I h e; omega, fun h g off e => by have := lt_of_boxes J h e; omega, (R.alloc _).alloc _, ((Kept.refl r w).alloc _).alloc _, hB, hr⟩
  have H0 := Lib.hid H0
  have HL := Lib.hid HL
  clear I J MA MG R
  go_enter Tryd.func43, Tryd.ntmps43
  go_wp2_with fail
  refine (pick_any r 24 k _ H0.out.R (by omega) (by omega) (by omega)).mono ?_
  rintro e w1 ⟨u, ⟨u0, u1⟩, rfl, R1, K1⟩
  have H := Lib.hid (H0.out.kept K1 R1)
  clear R1 K1 H0
  have hl := H.out.L.lt
  have hd := H.out.D.lt
  have nr : w.heap.size ≠ r := by omega
  by_cases c0 : u = 0
  · subst c0
    have e0 := H.out.L.cell 0 _ rfl
    have f0 := H.out.L.fr 0
    go_wp2_with fail
    refine (pick_any r 3 _ (w1.alloc (.cells ids 3)) (H.out.R.alloc _) (by omega) (by omega) (by omega)).mono ?_
    rintro e w2 ⟨v, ⟨v0, v1⟩, rfl, R2, K2⟩
    obtain ⟨vi, rfl⟩ := Int.eq_ofNat_of_zero_le v0
    obtain ⟨zz, hzz⟩ := id_at vi (by omega)
    have hcell : w2.cell? ⟨w1.heap.size, vi, none⟩ = some (.int .i64 zz) := by
      rw [K2.cell (by simp) (by simp; omega), World.cell?_alloc_new]; exact hzz
    have hvi : (vi : Int) < 3 := by omega
    have H2 := Lib.hid ((H.out.alloc _).kept K2 R2)
    clear H R2 K2 hzz e0 f0
    have e0 := H2.out.L.cell 0 _ rfl
    have f0 := H2.out.L.fr 0
    have l2 := H2.out.L.lt
    go_upto_region 16 with fail
    refine wp_region_lit ?_
    refine load_cells rfl 29 (.tmp 3) rfl w.heap.size rfl (lvs zz t x y A n c G m kk p q s z b) (H2.out.set 0 (by simp) _).L Tryd.underlying29 rfl level_size ?_
    refine store_cells rfl 29 (.tmp 4) (.tmp 65) rfl (w.heap.size + 1) rfl (lvs zz t x y A n c G m kk p q s z b) rfl _ (H2.out.set 0 (by simp) _).D (by simp) level_size rfl ?_
    go_wp2
    exact bodyPost_ret (v := lev zz t x y A n c G m kk p q s z b) (res_cells rfl (w.heap.size + 1) rfl (lvs zz t x y A n c G m kk p q s z b) ((H2.out.set 0 (by simp) _).D.all _ (by simp)) Tryd.underlying29 rfl level_size) rfl (BtW.out (H2.out.set 0 (by simp) _) (by omega) (by omega) (by omega) HL.out)
  by_cases c1 : u = 1
  · subst c1
    have e1 := H.out.L.cell 1 _ rfl
    have f1 := H.out.L.fr 1
    go_wp2_with fail
    refine (pick_any r 4 _ (w1.alloc (.cells tks 3)) (H.out.R.alloc _) (by omega) (by omega) (by omega)).mono ?_
    rintro e w2 ⟨v, ⟨v0, v1⟩, rfl, R2, K2⟩
    obtain ⟨vi, rfl⟩ := Int.eq_ofNat_of_zero_le v0
    obtain ⟨zz, hzz⟩ := tk_at vi (by omega)
    have hcell : w2.cell? ⟨w1.heap.size, vi, none⟩ = some (.int .i64 zz) := by
      rw [K2.cell (by simp) (by simp; omega), World.cell?_alloc_new]; exact hzz
    have hvi : (vi : Int) < 4 := by omega
    have H2 := Lib.hid ((H.out.alloc _).kept K2 R2)
    clear H R2 K2 hzz e1 f1
    have e1 := H2.out.L.cell 1 _ rfl
    have f1 := H2.out.L.fr 1
    have l2 := H2.out.L.lt
    go_upto_region 16 with fail
    refine wp_region_lit ?_
    refine load_cells rfl 29 (.tmp 3) rfl w.heap.size rfl (lvs i zz x y A n c G m kk p q s z b) (H2.out.set 1 (by simp) _).L Tryd.underlying29 rfl level_size ?_
    refine store_cells rfl 29 (.tmp 4) (.tmp 65) rfl (w.heap.size + 1) rfl (lvs i zz x y A n c G m kk p q s z b) rfl _ (H2.out.set 1 (by simp) _).D (by simp) level_size rfl ?_
    go_wp2
    exact bodyPost_ret (v := lev i zz x y A n c G m kk p q s z b) (res_cells rfl (w.heap.size + 1) rfl (lvs i zz x y A n c G m kk p q s z b) ((H2.out.set 1 (by simp) _).D.all _ (by simp)) Tryd.underlying29 rfl level_size) rfl (BtW.out (H2.out.set 1 (by simp) _) (by omega) (by omega) (by omega) HL.out)
  by_cases c2 : u = 2
  · subst c2
    go_wp2_with fail
    refine (vec_drawn r _ _ H.out.R (by omega)).mono ?_
    rintro e w2 ⟨xx, yy, _, _, rfl, R2, K2⟩
    have H2 := Lib.hid (H.out.kept K2 R2)
    clear H R2 K2
    have e2 := H2.out.L.cell 2 _ rfl
    have f2 := H2.out.L.fr 2
    have e3 := H2.out.L.cell 3 _ rfl
    have f3 := H2.out.L.fr 3
    go_upto_region 16 with fail
    refine wp_region_lit ?_
    refine load_cells rfl 29 (.tmp 3) rfl w.heap.size rfl (lvs i t xx yy A n c G m kk p q s z b) ((H2.out.set 2 (by simp) _).set 3 (by simp) _).L Tryd.underlying29 rfl level_size ?_
    refine store_cells rfl 29 (.tmp 4) (.tmp 65) rfl (w.heap.size + 1) rfl (lvs i t xx yy A n c G m kk p q s z b) rfl _ ((H2.out.set 2 (by simp) _).set 3 (by simp) _).D (by simp) level_size rfl ?_
    go_wp2
    exact bodyPost_ret (v := lev i t xx yy A n c G m kk p q s z b) (res_cells rfl (w.heap.size + 1) rfl (lvs i t xx yy A n c G m kk p q s z b) (((H2.out.set 2 (by simp) _).set 3 (by simp) _).D.all _ (by simp)) Tryd.underlying29 rfl level_size) rfl (BtW.out ((H2.out.set 2 (by simp) _).set 3 (by simp) _) (by omega) (by omega) (by omega) HL.out)
  by_cases c3 : u = 3
  · subst c3
    have e4 := H.out.L.cell 4 _ rfl
    have f4 := H.out.L.fr 4
    have OE := Lib.hid (own_empty w1 (w.heap.size + 2) w1.heap.size rfl (by omega))
    have hsz := Lib.hid (show w.heap.size + 2 ≤ (w1.alloc (.cells #[] 27)).heap.size by simp; omega)
    have I1 := Lib.hid ((H.out.I).alloc (.cells #[] 27))
    go_wp2_with (at_builtin; refine append_boxes _ rfl _ _ rfl (w.heap.size + 2) _ 0 [] rfl OE.out A n c ws rfl I1.out (by omega) hsz.out ?_)
    intro v2 w2 O2 G2 hat
    have hlow := Lib.hid (fun g e => (O2.lt g e).1)
    have H2 := Lib.hid ((H.out.alloc (.cells #[] 27)).grown G2 (fun g e => by simp [Value.ownBlock] at e; omega) (fun h g off e => by have := lt_of_boxes H.out.I h e; simp [Value.ownBlock]; omega) (fun h g off e => by have := lt_of_boxes H.out.J h e; simp [Value.ownBlock]; omega))
    have NI := Lib.hid (show ∀ g, v2.ownBlock = some g → w1.heap.size ≤ g from fun g e => by rcases hat with h | h <;> · rw [h] at e; simp [Value.ownBlock] at e; omega)
    have O2 := Lib.hid O2
    have hIl := Lib.hid (show (0 < n → ∀ g off, A = some ⟨g, off, none⟩ → g < w1.heap.size) ∧ (0 < m → ∀ g off, G = some ⟨g, off, none⟩ → g < w1.heap.size) from ⟨fun h g off e => lt_of_boxes H.out.I h e, fun h g off e => lt_of_boxes H.out.J h e⟩)
    clear H I1 OE hsz e4 f4 hat G2
    go_wp2_with fail
    refine (box_drawn r _ _ H2.out.R (by omega)).mono ?_
    rintro e w3 ⟨a1, a2, a3, a4, ⟨b1, b2⟩, _, rfl, R3, K3⟩
    have H3 := Lib.hid (H2.out.kept K3 R3)
    have O3 := Lib.hid (own_kept4 O2.out K3 (by omega))
    clear H2 O2 K3 R3
    go_wp2_with fail
    refine (box_drawn r _ _ H3.out.R (by omega)).mono ?_
    rintro e w4 ⟨a5, a6, a7, a8, ⟨b3, b4⟩, _, rfl, R4, K4⟩
    have H4 := Lib.hid (H3.out.kept K4 R4)
    have O4 := Lib.hid (own_kept4 O3.out K4 (by omega))
    clear H3 O3 K4 R4
    have hsz := Lib.hid (fun ob : Obj => show w.heap.size + 2 ≤ (w4.alloc ob).heap.size by have := H4.out.D.lt; simp; omega)
    have l4 := H4.out.L.lt
    go_wp2_with (at_builtin; refine append_boxes _ rfl _ _ rfl (w.heap.size + 2) _ n ws rfl (O4.out.alloc _) (some ⟨w4.heap.size, 0, none⟩) 2 2 [⟨a1, a2, a3, a4⟩, ⟨a5, a6, a7, a8⟩] rfl (Boxes.two w4 w4.heap.size _ _ _ _ _ _ _ _ _ rfl) (by omega) (hsz.out _) ?_)
    intro v5 w5 O5 G5 hat
    have H5 := Lib.hid ((H4.out.alloc (.cells #[.int .i64 a1, .int .i64 a2, .int .i64 a3, .int .i64 a4, .int .i64 a5, .int .i64 a6, .int .i64 a7, .int .i64 a8] 27)).grown G5 (fun g e => hlow.out g e) (fun h g off e f => by have := hIl.out.1 h g off e; have := NI.out g f; omega) (fun h g off e f => by have := hIl.out.2 h g off e; have := NI.out g f; omega))
    obtain ⟨A5, c5, rfl, I5, M5⟩ := Boxes.of_own O5
    have hc5 := own_cap O5
    have H6 := Lib.hid (H5.out.walls I5 M5)
    clear H4 O4 O5 G5 hat H5 I5 M5 hsz hlow NI hIl
    have e4 := H6.out.L.cell 4 _ rfl
    have f4 := H6.out.L.fr 4
    go_upto_region 16 with fail
    refine wp_region_lit ?_
    refine load_cells rfl 29 (.tmp 3) rfl w.heap.size rfl (lvs i t x y A5 (n + 2) c5 G m kk p q s z b) (H6.out.set 4 (by simp) _).L Tryd.underlying29 rfl level_size ?_
    refine store_cells rfl 29 (.tmp 4) (.tmp 65) rfl (w.heap.size + 1) rfl (lvs i t x y A5 (n + 2) c5 G m kk p q s z b) rfl _ (H6.out.set 4 (by simp) _).D (by simp) level_size rfl ?_
    go_wp2
    exact bodyPost_ret (v := lev i t x y A5 (n + 2) c5 G m kk p q s z b) (res_cells rfl (w.heap.size + 1) rfl (lvs i t x y A5 (n + 2) c5 G m kk p q s z b) ((H6.out.set 4 (by simp) _).D.all _ (by simp)) Tryd.underlying29 rfl level_size) rfl (BtW.out (H6.out.set 4 (by simp) _) (by omega) (by omega) (by omega) (HL.out.append (Lows.snoc (Lows.snoc Lows.nil (q := ⟨a1, a2, a3, a4⟩) ⟨b1, b2⟩) (q := ⟨a5, a6, a7, a8⟩) ⟨b3, b4⟩)))
  by_cases c4 : u = 4
  · subst c4
    have e5 := H.out.L.cell 5 _ rfl
    have f5 := H.out.L.fr 5
    have OE := Lib.hid (own_empty w1 (w.heap.size + 2) w1.heap.size rfl (by omega))
    have hsz := Lib.hid (show w.heap.size + 2 ≤ (w1.alloc (.cells #[] 27)).heap.size by simp; omega)
    have I1 := Lib.hid ((H.out.J).alloc (.cells #[] 27))
    go_wp2_with (at_builtin; refine append_boxes _ rfl _ _ rfl (w.heap.size + 2) _ 0 [] rfl OE.out G m kk gs rfl I1.out (by omega) hsz.out ?_)
    intro v2 w2 O2 G2 hat
    have hlow := Lib.hid (fun g e => (O2.lt g e).1)
    have H2 := Lib.hid ((H.out.alloc (.cells #[] 27)).grown G2 (fun g e => by simp [Value.ownBlock] at e; omega) (fun h g off e => by have := lt_of_boxes H.out.I h e; simp [Value.ownBlock]; omega) (fun h g off e => by have := lt_of_boxes H.out.J h e; simp [Value.ownBlock]; omega))
    have NI := Lib.hid (show ∀ g, v2.ownBlock = some g → w1.heap.size ≤ g from fun g e => by rcases hat with h | h <;> · rw [h] at e; simp [Value.ownBlock] at e; omega)
    have O2 := Lib.hid O2
    have hIl := Lib.hid (show (0 < n → ∀ g off, A = some ⟨g, off, none⟩ → g < w1.heap.size) ∧ (0 < m → ∀ g off, G = some ⟨g, off, none⟩ → g < w1.heap.size) from ⟨fun h g off e => lt_of_boxes H.out.I h e, fun h g off e => lt_of_boxes H.out.J h e⟩)
    clear H I1 OE hsz e5 f5 hat G2
    go_wp2_with fail
    refine (box_drawn r _ _ H2.out.R (by omega)).mono ?_
    rintro e w3 ⟨a1, a2, a3, a4, ⟨b1, b2⟩, _, rfl, R3, K3⟩
    have H3 := Lib.hid (H2.out.kept K3 R3)
    have O3 := Lib.hid (own_kept4 O2.out K3 (by omega))
    clear H2 O2 K3 R3
    go_wp2_with fail
    refine (box_drawn r _ _ H3.out.R (by omega)).mono ?_
    rintro e w4 ⟨a5, a6, a7, a8, ⟨b3, b4⟩, _, rfl, R4, K4⟩
    have H4 := Lib.hid (H3.out.kept K4 R4)
    have O4 := Lib.hid (own_kept4 O3.out K4 (by omega))
    clear H3 O3 K4 R4
    have hsz := Lib.hid (fun ob : Obj => show w.heap.size + 2 ≤ (w4.alloc ob).heap.size by have := H4.out.D.lt; simp; omega)
    have l4 := H4.out.L.lt
    go_wp2_with (at_builtin; refine append_boxes _ rfl _ _ rfl (w.heap.size + 2) _ m gs rfl (O4.out.alloc _) (some ⟨w4.heap.size, 0, none⟩) 2 2 [⟨a1, a2, a3, a4⟩, ⟨a5, a6, a7, a8⟩] rfl (Boxes.two w4 w4.heap.size _ _ _ _ _ _ _ _ _ rfl) (by omega) (hsz.out _) ?_)
    intro v5 w5 O5 G5 hat
    have H5 := Lib.hid ((H4.out.alloc (.cells #[.int .i64 a1, .int .i64 a2, .int .i64 a3, .int .i64 a4, .int .i64 a5, .int .i64 a6, .int .i64 a7, .int .i64 a8] 27)).grown G5 (fun g e => hlow.out g e) (fun h g off e f => by have := hIl.out.1 h g off e; have := NI.out g f; omega) (fun h g off e f => by have := hIl.out.2 h g off e; have := NI.out g f; omega))
    obtain ⟨A5, c5, rfl, I5, M5⟩ := Boxes.of_own O5
    have hc5 := own_cap O5
    have H6 := Lib.hid (H5.out.gates I5 M5)
    clear H4 O4 O5 G5 hat H5 I5 M5 hsz hlow NI hIl
    have e5 := H6.out.L.cell 5 _ rfl
    have f5 := H6.out.L.fr 5
    go_upto_region 16 with fail
    refine wp_region_lit ?_
    refine load_cells rfl 29 (.tmp 3) rfl w.heap.size rfl (lvs i t x y A n c A5 (m + 2) c5 p q s z b) (H6.out.set 5 (by simp) _).L Tryd.underlying29 rfl level_size ?_
    refine store_cells rfl 29 (.tmp 4) (.tmp 65) rfl (w.heap.size + 1) rfl (lvs i t x y A n c A5 (m + 2) c5 p q s z b) rfl _ (H6.out.set 5 (by simp) _).D (by simp) level_size rfl ?_
    go_wp2
    exact bodyPost_ret (v := lev i t x y A n c A5 (m + 2) c5 p q s z b) (res_cells rfl (w.heap.size + 1) rfl (lvs i t x y A n c A5 (m + 2) c5 p q s z b) ((H6.out.set 5 (by simp) _).D.all _ (by simp)) Tryd.underlying29 rfl level_size) rfl (BtW.out (H6.out.set 5 (by simp) _) (by omega) (by omega) (by omega) HL.out)
  by_cases c5 : u = 5
  · subst c5
    go_wp2_with fail
    refine (box_drawn r _ _ H.out.R (by omega)).mono ?_
    rintro e w2 ⟨a1, a2, a3, a4, _, _, rfl, R2, K2⟩
    have H2 := Lib.hid (H.out.kept K2 R2)
    clear H R2 K2
    have e6 := H2.out.L.cell 6 _ rfl
    have f6 := H2.out.L.fr 6
    have e7 := H2.out.L.cell 7 _ rfl
    have f7 := H2.out.L.fr 7
    have e8 := H2.out.L.cell 8 _ rfl
    have f8 := H2.out.L.fr 8
    have e9 := H2.out.L.cell 9 _ rfl
    have f9 := H2.out.L.fr 9
    go_upto_region 16 with fail
    refine wp_region_lit ?_
    refine load_cells rfl 29 (.tmp 3) rfl w.heap.size rfl (lvs i t x y A n c G m kk a1 a2 a3 a4 b) ((((H2.out.set 6 (by simp) _).set 7 (by simp) _).set 8 (by simp) _).set 9 (by simp) _).L Tryd.underlying29 rfl level_size ?_
    refine store_cells rfl 29 (.tmp 4) (.tmp 65) rfl (w.heap.size + 1) rfl (lvs i t x y A n c G m kk a1 a2 a3 a4 b) rfl _ ((((H2.out.set 6 (by simp) _).set 7 (by simp) _).set 8 (by simp) _).set 9 (by simp) _).D (by simp) level_size rfl ?_
    go_wp2
    exact bodyPost_ret (v := lev i t x y A n c G m kk a1 a2 a3 a4 b) (res_cells rfl (w.heap.size + 1) rfl (lvs i t x y A n c G m kk a1 a2 a3 a4 b) (((((H2.out.set 6 (by simp) _).set 7 (by simp) _).set 8 (by simp) _).set 9 (by simp) _).D.all _ (by simp)) Tryd.underlying29 rfl level_size) rfl (BtW.out ((((H2.out.set 6 (by simp) _).set 7 (by simp) _).set 8 (by simp) _).set 9 (by simp) _) (by omega) (by omega) (by omega) HL.out)
  by_cases c6 : u = 6
  · subst c6
    go_wp2_with fail
    refine (pick_any r 6 _ _ H.out.R (by omega) (by omega) (by omega)).mono ?_
    rintro e w2 ⟨v, ⟨v0, v1⟩, rfl, R2, K2⟩
    have H2 := Lib.hid (H.out.kept K2 R2)
    clear H R2 K2
    have e10 := H2.out.L.cell 10 _ rfl
    have f10 := H2.out.L.fr 10
    go_upto_region 16 with fail
    refine wp_region_lit ?_
    refine load_cells rfl 29 (.tmp 3) rfl w.heap.size rfl (lvs i t x y A n c G m kk p q s z (v - 1)) (H2.out.set 10 (by simp) _).L Tryd.underlying29 rfl level_size ?_
    refine store_cells rfl 29 (.tmp 4) (.tmp 65) rfl (w.heap.size + 1) rfl (lvs i t x y A n c G m kk p q s z (v - 1)) rfl _ (H2.out.set 10 (by simp) _).D (by simp) level_size rfl ?_
    go_wp2
    exact bodyPost_ret (v := lev i t x y A n c G m kk p q s z (v - 1)) (res_cells rfl (w.heap.size + 1) rfl (lvs i t x y A n c G m kk p q s z (v - 1)) ((H2.out.set 10 (by simp) _).D.all _ (by simp)) Tryd.underlying29 rfl level_size) rfl (BtW.out (H2.out.set 10 (by simp) _) (by omega) (by omega) (by omega) HL.out)
  have d0 : (u == 0) = false := beq_eq_false_iff_ne.2 c0
  have d1 : (u == 1) = false := beq_eq_false_iff_ne.2 c1
  have d2 : (u == 2) = false := beq_eq_false_iff_ne.2 c2
  have d3 : (u == 3) = false := beq_eq_false_iff_ne.2 c3
  have d4 : (u == 4) = false := beq_eq_false_iff_ne.2 c4
  have d5 : (u == 5) = false := beq_eq_false_iff_ne.2 c5
  have d6 : (u == 6) = false := beq_eq_false_iff_ne.2 c6
  clear c0 c1 c2 c3 c4 c5 c6
  go_upto_region 16 with fail
  refine wp_region_lit ?_
  refine load_cells rfl 29 (.tmp 3) rfl w.heap.size rfl (lvs i t x y A n c G m kk p q s z b) (H.out).L Tryd.underlying29 rfl level_size ?_
  refine store_cells rfl 29 (.tmp 4) (.tmp 65) rfl (w.heap.size + 1) rfl (lvs i t x y A n c G m kk p q s z b) rfl _ (H.out).D (by simp) level_size rfl ?_
  go_wp2
  exact bodyPost_ret (v := lev i t x y A n c G m kk p q s z b) (res_cells rfl (w.heap.size + 1) rfl (lvs i t x y A n c G m kk p q s z b) ((H.out).D.all _ (by simp)) Tryd.underlying29 rfl level_size) rfl (BtW.out (H.out) (by omega) (by omega) (by omega) HL.out)

end Go.Proofs.YtnoenjociioffaaDoor
