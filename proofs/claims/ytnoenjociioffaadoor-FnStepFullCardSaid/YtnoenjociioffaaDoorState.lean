/-
  The state that the model draws: whatever it is, nothing that was there before the call is written, but the reader.
-/
import Derived.Test.YtnoenjociioffaaDoorTo
import Derived.Test.YtnoenjociioffaaDoorDrawLevB
namespace Go.Proofs.YtnoenjociioffaaDoor
open Go.RowKit
open M

/-- A drawn state, of whatever parts. -/
def StDrawn (B : Nat) (r : Nat) (k : Int) (w : World) (e : Ending) (w' : World) : Prop :=
  ∃ (sk sax say sfx sfy su sg : Int) (sd so : Bool), e = .returned (sta sk sax say sfx sfy su sg sd so) ∧ RdU B w' r (k + 240) ∧ Kept r w w'
/-- Under way: the level, the result's variable. -/
structure SW (B r : Nat) (w : World) (l d : List Value) (A : Option Addr) (n : Nat) (ws : List Bx) (G : Option Addr) (m : Nat) (gs : List Bx) (k : Int) (W : World) : Prop where
  L : CellsAt W w.heap.size l
  D : CellsAt W (w.heap.size + 1) d
  I : Boxes W A n ws
  J : Boxes W G m gs
  MA : Mine B A
  MG : Mine B G
  R : RdU B W r k
  K : Kept r w W
  bw : B ≤ w.heap.size
  rB : r < B
theorem SW.kept {B r : Nat} {w : World} {l d : List Value} {A : Option Addr} {n : Nat} {ws : List Bx} {G : Option Addr} {m : Nat} {gs : List Bx} {k : Int} {W : World} {k' : Int} {W' : World} (h : SW B r w l d A n ws G m gs k W) (K : Kept r W W') (R : RdU B W' r k') : SW B r w l d A n ws G m gs k' W' := by
  have h2 := h.bw; have h3 := h.rB
  exact ⟨h.L.kept K (by omega), h.D.kept K (by omega), h.I.kept K (fun _ g off e => by have := h.MA g off e; omega), h.J.kept K (fun _ g off e => by have := h.MG g off e; omega), h.MA, h.MG, R, h.K.trans K, h2, h3⟩
theorem SW.step {B r : Nat} {w : World} {l d : List Value} {A : Option Addr} {n : Nat} {ws : List Bx} {G : Option Addr} {m : Nat} {gs : List Bx} {k : Int} {W : World} {W' : World} (h : SW B r w l d A n ws G m gs k W) (S : Below W.heap.size W W') : SW B r w l d A n ws G m gs k W' := h.kept (Kept.of_below S) (h.R.below (S.mono h.R.base))
theorem SW.drew {B r : Nat} {w : World} {l d : List Value} {A : Option Addr} {n : Nat} {ws : List Bx} {G : Option Addr} {m : Nat} {gs : List Bx} {k : Int} {W : World} (h : SW B r w l d A n ws G m gs k W) : SW B r w l d A n ws G m gs k W.drew := h.step (bl_refl W).drew
/-- A store into a newer block. -/
theorem SW.newer {B r : Nat} {w : World} {l d : List Value} {A : Option Addr} {n : Nat} {ws : List Bx} {G : Option Addr} {m : Nat} {gs : List Bx} {k : Int} {W : World} (h : SW B r w l d A n ws G m gs k W) {g : Nat} (hg : w.heap.size + 1 < g) (hA : 0 < n → ∀ k off, A = some ⟨k, off, none⟩ → k ≠ g) (hG : 0 < m → ∀ k off, G = some ⟨k, off, none⟩ → k ≠ g) {W' : World} (K : Kept g W W') : SW B r w l d A n ws G m gs k W' := by
  have h2 := h.bw; have h3 := h.rB; have h5 := h.K.size
  exact ⟨h.L.kept K (by omega), h.D.kept K (by omega), h.I.kept K hA, h.J.kept K hG, h.MA, h.MG, h.R.below (K.below (by omega) (by omega)), ⟨K.os.trans h.K.os, K.tape.trans h.K.tape, K.output.trans h.K.output, Nat.le_trans h5 K.size, fun j hj hr => (K.block j (by omega) (by omega)).trans (h.K.block j hj hr)⟩, h2, h3⟩
/-- Behind the state: its variable in block b. -/
structure SB (B r : Nat) (w : World) (b : Nat) (d s : List Value) (k : Int) (W : World) : Prop where
  D : CellsAt W (w.heap.size + 1) d
  S : CellsAt W b s
  hb : w.heap.size + 1 < b
  R : RdU B W r k
  K : Kept r w W
  bw : B ≤ w.heap.size
  rB : r < B
theorem SB.kept {B r : Nat} {w : World} {b : Nat} {d s : List Value} {k k' : Int} {W W' : World} (h : SB B r w b d s k W) (K : Kept r W W') (R : RdU B W' r k') : SB B r w b d s k' W' := by
  have h2 := h.bw; have h3 := h.rB; have h4 := h.hb
  exact ⟨h.D.kept K (by omega), h.S.kept K (by omega), h4, R, h.K.trans K, h2, h3⟩
theorem SB.step {B r : Nat} {w : World} {b : Nat} {d s : List Value} {k : Int} {W W' : World} (h : SB B r w b d s k W) (S : Below W.heap.size W W') : SB B r w b d s k W' := h.kept (Kept.of_below S) (h.R.below (S.mono h.R.base))
theorem SB.set {B r : Nat} {w : World} {b : Nat} {d s : List Value} {k : Int} {W : World} (h : SB B r w b d s k W) (o : Nat) (ho : o < s.length) (v : Value) : SB B r w b d (s.set o v) k (W.setCell ⟨b, o, none⟩ v) := by
  have h2 := h.bw; have h3 := h.rB; have h4 := h.hb
  exact ⟨h.D.far (by omega) _ _, h.S.set o ho v, h4, h.R.set _ _ _ (by omega), h.K.set _ _ _ (by omega), h2, h3⟩
theorem SB.out {B r : Nat} {w : World} {b : Nat} {d : List Value} {k k0 : Int} {sk sax say sfx sfy su sg : Int} {sd so : Bool} {s : List Value} {W W' : World} (h : SB B r w b d s k W) (hk : k ≤ k0 + 240) (K : Kept (w.heap.size + 1) W W') : StDrawn B r k0 w (.returned (sta sk sax say sfx sfy su sg sd so)) W' := by
  have h2 := h.bw; have h3 := h.rB; have h5 := h.K.size
  exact ⟨sk, sax, say, sfx, sfy, su, sg, sd, so, rfl, (h.R.mono hk).below (K.below (by omega) (by omega)), K.os.trans h.K.os, K.tape.trans h.K.tape, K.output.trans h.K.output, Nat.le_trans h5 K.size, fun j hj hr => (K.block j (by omega) (by omega)).trans (h.K.block j hj hr)⟩
def tks4 : Array Value := #[.int .i64 (-1), .int .i64 0, .int .i64 60, .int .i64 61]
theorem tk4_at (i : Nat) (h : i < 4) : ∃ z : Int, tks4[i]? = some (.int .i64 z) := by
  have : i = 0 ∨ i = 1 ∨ i = 2 ∨ i = 3 := by omega
  rcases this with rfl | rfl | rfl | rfl
  all_goals exact ⟨_, rfl⟩
theorem wp_alloc9 {w : World} {o : Oper} {a : Act} {K : Act → World → Prop} {Q : Exit → Act → World → Prop} (ho : o.op = .alloc 31)
    (h : ∀ (g : Nat) (w' : World), Below w.heap.size w w' → w.heap.size ≤ g → CellsAt w' g (stv 0 0 0 0 0 0 0 false false) → K (a.put o.dst (.pointer (some ⟨g, 0, none⟩))) w') : o.wp Tryd.prog a w K Q := by
  have e : (execOp a.eval o).run Tryd.prog w = .ok (.value (.pointer (some ⟨w.heap.size, 0, none⟩))) (w.alloc (.cells #[.int .i64 0, .int .i64 0, .int .i64 0, .int .i64 0, .int .i64 0, .int .i64 0, .int .i64 0, .bool false, .bool false] 31)) := by
    unfold execOp
    simp only [ho]
    go_simp
  unfold Oper.wp
  rw [e, Oper.upon_value]
  exact h _ _ (bl_alloc (bl_refl w) _) (Nat.le_refl _) (CellsAt.new _ _ _ _ rfl)

set_option maxRecDepth 100000 in
set_option maxHeartbeats 8000000 in
theorem state_drawn {B : Nat} (r : Nat) (k : Int) (i t x y : Int) (A : Option Addr) (n c : Nat) (G : Option Addr) (m kk : Nat) (fp fq fs fz b : Int) (ws gs : List Bx) (w : World) (R : RdU B w r k) (k0 : 0 ≤ k) (hk : k ≤ 50000) (I : Boxes w A n ws) (J : Boxes w G m gs) (MA : Mine B A) (MG : Mine B G) (ok : bxs ws = true) (hn : n ≤ 10) (hm : m ≤ 10) (hL : Lnum t x y b) :
    Calls Tryd.prog 41 #[.pointer (some ⟨r, 0, none⟩), lev i t x y A n c G m kk fp fq fs fz b] w (StDrawn B r k w) := by
  have hr := R.here
  have hB := R.base
  have nA := Lib.hid (show 0 < n → ∀ g off, A = some ⟨g, off, none⟩ → g < w.heap.size from fun h0 g off e => lt_of_boxes I h0 e)
  have nG := Lib.hid (show 0 < m → ∀ g off, G = some ⟨g, off, none⟩ → g < w.heap.size from fun h0 g off e => lt_of_boxes J h0 e)
  have H : SW B r w (lvs i t x y A n c G m kk fp fq fs fz b) (stv 0 0 0 0 0 0 0 false false) A n ws G m gs k ((w.alloc (.cells #[.int .i64 i, .int .i64 t, .int .i64 x, .int .i64 y, .slice A n c, .slice G m kk, .int .i64 fp, .int .i64 fq, .int .i64 fs, .int .i64 fz, .int .i64 b] 29)).alloc (.cells #[.int .i64 0, .int .i64 0, .int .i64 0, .int .i64 0, .int .i64 0, .int .i64 0, .int .i64 0, .bool false, .bool false] 31)) := ⟨(CellsAt.new w _ _ _ rfl).alloc _, CellsAt.new _ _ _ _ (by simp), (I.alloc _).alloc _, (J.alloc _).alloc _, MA, MG, (R.alloc _).alloc _, ((Kept.refl r w).alloc _).alloc _, hB, hr⟩
  have hLn := hL
  obtain ⟨⟨t1, t2⟩, ⟨x1, x2⟩, ⟨y1, y2⟩, b0, b3⟩ := hL
  have CR := Lib.hid (fun (W : World) (R : RdU B W r k) (I : Boxes W A n ws) (J : Boxes W G m gs) => run_drawn r k i t x y A n c G m kk fp fq fs fz b ws gs W R k0 (by omega) I J MA MG ok hn hm hLn)
  have H := Lib.hid H
  clear I J MA MG R hLn
  have Lc := Lib.hid H.out.L
  have L0 := H.out.L.cell 0 _ rfl
  have L1 := H.out.L.cell 1 _ rfl
  have L2 := H.out.L.cell 2 _ rfl
  have L3 := H.out.L.cell 3 _ rfl
  have L4 := H.out.L.cell 4 _ rfl
  have L5 := H.out.L.cell 5 _ rfl
  have L6 := H.out.L.cell 6 _ rfl
  have L7 := H.out.L.cell 7 _ rfl
  have L8 := H.out.L.cell 8 _ rfl
  have L9 := H.out.L.cell 9 _ rfl
  have L10 := H.out.L.cell 10 _ rfl
  have Ll := H.out.L.lt
  go_enter Tryd.func41, Tryd.ntmps41
  go_wp2_with fail
  refine (CR.out _ H.out.R H.out.I H.out.J).mono ?_
  rintro e w1 ⟨v, N, xs, rfl, hN, vx, O, R1, K1⟩
  replace H := Lib.hid (H.out.kept K1 R1)
  obtain ⟨Q, cc, rfl, Y, MQ⟩ := Inputs.of_own O
  have MQ := Lib.hid MQ
  have Y := Lib.hid Y
  have vx := Lib.hid vx
  have hw1 : IntKind.i64.wrap ((N : Int) + 1) = (N : Int) + 1 := IntWalk.i64_in _ (by omega)
  clear K1 R1 O CR Lc L0 L1 L2 L3 L4 L5 L6 L7 L8 L9 L10 Ll
  go_upto_region 2 with fail
  go_cut [6] (fun p W' => ∃ (sb : Nat) (st : St), p = .pointer (some ⟨sb, 0, none⟩) ∧ SB B r w sb (stv 0 0 0 0 0 0 0 false false) (stv st.k st.ax st.ay st.fx st.fy st.u st.g st.d st.o) (k + 201) W')
  case first =>
    go_wp2_with fail
    refine wp_region_held_drew (S := fun w' => CellsAt w' w.heap.size (lvs i t x y A n c G m kk fp fq fs fz b)) (by kernel_rfl) H.out.L.drew (fun hHeld => ?_)
    replace H := Lib.hid H.out.drew
    replace Y := Lib.hid Y.out.drew
    refine wpAnyH_take (i := 0) (oi := _) (v := .agg (lvs i t x y A n c G m kk fp fq fs fz b).toArray) rfl (by kernel_rfl) (by kernel_rfl) (by kernel_rfl) (fun _ _ _ h => h) (yieldsIf_load_mid (by rfl) 29 (.tmp 3) rfl w.heap.size 0 rfl (lvs i t x y A n c G m kk fp fq fs fz b) _ (fun W hS => hS.range) Tryd.underlying29 rfl level_size) hHeld ?_
    try simp only [Act.put, List.getElem_toArray, List.getElem_cons_zero, List.setIfInBounds_toArray, List.set_cons_zero, List.set_cons_succ]
    refine wpAnyH_take (i := 1) (oi := _) (v := ?_) rfl (by kernel_rfl) (by kernel_rfl) (by kernel_rfl) (fun _ _ _ h => h) (Or.inl ⟨by rfl, ?_⟩) hHeld ?_
    rotate_left
    · intro w hSw
      try dsimp only at hSw
      go_simp
      all_goals with_reducible rfl
    try simp only [Act.put, List.getElem_toArray, List.getElem_cons_succ, List.getElem_cons_zero, List.setIfInBounds_toArray, List.set_cons_zero, List.set_cons_succ]
    refine wpAnyH_take (i := 2) (oi := _) (v := ?_) rfl (by kernel_rfl) (by kernel_rfl) (by kernel_rfl) (fun _ _ _ h => h) (Or.inl ⟨by rfl, ?_⟩) hHeld ?_
    rotate_left
    · intro w hSw
      try dsimp only at hSw
      go_simp
      all_goals with_reducible rfl
    try simp only [Act.put, List.getElem_toArray, List.getElem_cons_succ, List.getElem_cons_zero, List.setIfInBounds_toArray, List.set_cons_zero, List.set_cons_succ]
    refine wpAnyH_take (i := 3) (oi := _) (v := ?_) rfl (by kernel_rfl) (by kernel_rfl) (by kernel_rfl) (fun _ _ _ h => h) (Or.inl ⟨by rfl, ?_⟩) hHeld ?_
    rotate_left
    · intro w hSw
      try dsimp only at hSw
      go_simp
      all_goals with_reducible rfl
    try simp only [Act.put, List.getElem_toArray, List.getElem_cons_succ, List.getElem_cons_zero, List.setIfInBounds_toArray, List.set_cons_zero, List.set_cons_succ]
    refine wpAnyH_take (i := 4) (oi := _) (v := ?_) rfl (by kernel_rfl) (by kernel_rfl) (by kernel_rfl) (fun _ _ _ h => h) (Or.inl ⟨by rfl, ?_⟩) hHeld ?_
    rotate_left
    · intro w hSw
      try dsimp only at hSw
      go_simp
      all_goals with_reducible rfl
    try simp only [Act.put, List.getElem_toArray, List.getElem_cons_succ, List.getElem_cons_zero, List.setIfInBounds_toArray, List.set_cons_zero, List.set_cons_succ]
    refine wpAnyH_take (i := 5) (oi := _) (v := ?_) rfl (by kernel_rfl) (by kernel_rfl) (by kernel_rfl) (fun _ _ _ h => h) (Or.inl ⟨by rfl, ?_⟩) hHeld ?_
    rotate_left
    · intro w hSw
      try dsimp only at hSw
      go_simp
      all_goals with_reducible rfl
    try simp only [Act.put, List.getElem_toArray, List.getElem_cons_succ, List.getElem_cons_zero, List.setIfInBounds_toArray, List.set_cons_zero, List.set_cons_succ]
    refine wpAnyH_ready (rs := [6, 8]) (by kernel_rfl) (by simp) ?_
    refine (AllReadyH.cons (o := _) rfl (fun K hK => ?_) (AllReadyH.cons (o := _) rfl (fun K hK => ?_) AllReadyH.nil))
    · skip
      rw [if_pos (by rfl)]
      refine wp_call_fn ⟨_, Tryd.func42, by kernel_rfl, by rfl⟩ _ _ rfl #[.pointer (some ⟨r, 0, none⟩), .int .i64 ((N : Int) + 1)] (by simp only [List.map_toArray, List.map_cons, List.map_nil]; rfl) (pick_any r ((N : Int) + 1) _ _ H.out.R (by omega) (by omega) (by omega)) ?_
      rintro e v1 ⟨j0, ⟨j1, j2⟩, rfl, R1, K1⟩
      refine ⟨_, rfl, ?_⟩
      replace Y := Lib.hid (Y.out.kept K1 (fun _ g off e => by have := MQ.out g off e; simp at this; omega))
      replace H := Lib.hid (H.out.kept K1 R1)
      obtain ⟨j0, rfl⟩ := Int.eq_ofNat_of_zero_le j1
      clear K1 R1 hHeld
      refine hK.out _ _ H.out.L (fun hHeld => ?_)
      clear hK K
      try simp only [Act.put, List.getElem_toArray, List.getElem_cons_succ, List.getElem_cons_zero, List.setIfInBounds_toArray, List.set_cons_zero, List.set_cons_succ]
      refine wpAnyH_ready (rs := [7, 8]) (by kernel_rfl) (by simp) ?_
      refine (AllReadyH.cons (o := _) rfl (fun K hK => ?_) (AllReadyH.cons (o := _) rfl (fun K hK => ?_) AllReadyH.nil))
      · skip
        rw [if_pos (by rfl)]
        refine wp_call_fn ⟨_, Tryd.func73, by kernel_rfl, by rfl⟩ _ _ rfl #[lev i t x y A n c G m kk fp fq fs fz b, .slice Q N cc, .int .i64 (j0 : Int)] (by simp only [List.map_toArray, List.map_cons, List.map_nil]; rfl) (specTo i t x y A n c G m kk fp fq fs fz b ws gs Q N cc xs j0 _ H.out.I H.out.J Y.out ok (by omega) (by omega) (by omega) (by omega) vx.out (by omega) (by omega)) ?_
        rintro e v2 ⟨rfl, B1⟩
        refine ⟨_, rfl, ?_⟩
        generalize M.toS ws gs fp fq fs fz _ (xs.take j0) = st at *
        replace H := Lib.hid (H.out.step B1)
        replace Y := Lib.hid (Y.out.step B1)
        clear B1 hHeld
        refine hK.out _ _ H.out.L (fun hHeld => ?_)
        clear hK K
        try simp only [Act.put, List.getElem_toArray, List.getElem_cons_succ, List.getElem_cons_zero, List.setIfInBounds_toArray, List.set_cons_zero, List.set_cons_succ]
        refine wpAnyH_ready (rs := [8]) (by kernel_rfl) (by simp) ?_
        apply AllReadyH.cons rfl ?_ AllReadyH.nil
        intro K hK
        rw [if_pos (by rfl)]
        refine wp_alloc9 rfl ?_
        intro sb v3 B1 h0 S
        have hs := Nat.lt_of_lt_of_le H.out.D.lt h0
        have hsz := H.out.K.size
        replace Y := Lib.hid (Y.out.step B1)
        replace H := Lib.hid (H.out.step B1)
        clear B1 hHeld
        refine hK.out _ _ H.out.L (fun hHeld => ?_)
        clear hK K
        try simp only [Act.put, List.getElem_toArray, List.getElem_cons_succ, List.getElem_cons_zero, List.setIfInBounds_toArray, List.set_cons_zero, List.set_cons_succ]
        refine wpAnyH_ready (rs := [9]) (by kernel_rfl) (by simp) ?_
        apply AllReadyH.cons rfl ?_ AllReadyH.nil
        intro K hK
        rw [if_pos (by rfl)]
        refine wp_store_new 31 (.tmp 6) (.tmp 17) rfl sb rfl (stv st.k st.ax st.ay st.fx st.fy st.u st.g st.d st.o) rfl _ S (by simp) state_size rfl ?_
        intro v4 K1 N1
        replace H := Lib.hid (H.out.newer hs (fun h0 g off e => by have := nA.out h0 g off e; omega) (fun h0 g off e => by have := nG.out h0 g off e; omega) K1)
        replace S := N1
        clear K1 N1 hHeld Y
        refine hK.out _ _ H.out.L (fun hHeld => ?_)
        clear hK K
        try simp only [Act.put, List.getElem_toArray, List.getElem_cons_succ, List.getElem_cons_zero]
        refine wpAnyH_done (by kernel_rfl) ?_ _
        go_wp2_with fail
        go_meet
        case rel => exact ⟨sb, _, rfl, ⟨H.out.D, S, hs, H.out.R.mono (by omega), H.out.K, H.out.bw, H.out.rB⟩⟩
      · skip
        rw [if_pos (by rfl)]
        refine wp_alloc9 rfl ?_
        intro sb v5 B1 h0 S
        have hs := Nat.lt_of_lt_of_le H.out.D.lt h0
        have hsz := H.out.K.size
        replace Y := Lib.hid (Y.out.step B1)
        replace H := Lib.hid (H.out.step B1)
        clear B1 hHeld
        refine hK.out _ _ H.out.L (fun hHeld => ?_)
        clear hK K
        try simp only [Act.put, List.getElem_toArray, List.getElem_cons_succ, List.getElem_cons_zero, List.setIfInBounds_toArray, List.set_cons_zero, List.set_cons_succ]
        refine wpAnyH_ready (rs := [7]) (by kernel_rfl) (by simp) ?_
        apply AllReadyH.cons rfl ?_ AllReadyH.nil
        intro K hK
        rw [if_pos (by rfl)]
        refine wp_call_fn ⟨_, Tryd.func73, by kernel_rfl, by rfl⟩ _ _ rfl #[lev i t x y A n c G m kk fp fq fs fz b, .slice Q N cc, .int .i64 (j0 : Int)] (by simp only [List.map_toArray, List.map_cons, List.map_nil]; rfl) (specTo i t x y A n c G m kk fp fq fs fz b ws gs Q N cc xs j0 _ H.out.I H.out.J Y.out ok (by omega) (by omega) (by omega) (by omega) vx.out (by omega) (by omega)) ?_
        rintro e v6 ⟨rfl, B1⟩
        refine ⟨_, rfl, ?_⟩
        generalize M.toS ws gs fp fq fs fz _ (xs.take j0) = st at *
        replace S := S.step B1
        replace H := Lib.hid (H.out.step B1)
        replace Y := Lib.hid (Y.out.step B1)
        clear B1 hHeld
        refine hK.out _ _ H.out.L (fun hHeld => ?_)
        clear hK K
        try simp only [Act.put, List.getElem_toArray, List.getElem_cons_succ, List.getElem_cons_zero, List.setIfInBounds_toArray, List.set_cons_zero, List.set_cons_succ]
        refine wpAnyH_ready (rs := [9]) (by kernel_rfl) (by simp) ?_
        apply AllReadyH.cons rfl ?_ AllReadyH.nil
        intro K hK
        rw [if_pos (by rfl)]
        refine wp_store_new 31 (.tmp 6) (.tmp 17) rfl sb rfl (stv st.k st.ax st.ay st.fx st.fy st.u st.g st.d st.o) rfl _ S (by simp) state_size rfl ?_
        intro v7 K1 N1
        replace H := Lib.hid (H.out.newer hs (fun h0 g off e => by have := nA.out h0 g off e; omega) (fun h0 g off e => by have := nG.out h0 g off e; omega) K1)
        replace S := N1
        clear K1 N1 hHeld Y
        refine hK.out _ _ H.out.L (fun hHeld => ?_)
        clear hK K
        try simp only [Act.put, List.getElem_toArray, List.getElem_cons_succ, List.getElem_cons_zero]
        refine wpAnyH_done (by kernel_rfl) ?_ _
        go_wp2_with fail
        go_meet
        case rel => exact ⟨sb, _, rfl, ⟨H.out.D, S, hs, H.out.R.mono (by omega), H.out.K, H.out.bw, H.out.rB⟩⟩
    · skip
      rw [if_pos (by rfl)]
      refine wp_alloc9 rfl ?_
      intro sb v8 B1 h0 S
      have hs := Nat.lt_of_lt_of_le H.out.D.lt h0
      have hsz := H.out.K.size
      replace Y := Lib.hid (Y.out.step B1)
      replace H := Lib.hid (H.out.step B1)
      clear B1 hHeld
      refine hK.out _ _ H.out.L (fun hHeld => ?_)
      clear hK K
      try simp only [Act.put, List.getElem_toArray, List.getElem_cons_succ, List.getElem_cons_zero, List.setIfInBounds_toArray, List.set_cons_zero, List.set_cons_succ]
      refine wpAnyH_ready (rs := [6]) (by kernel_rfl) (by simp) ?_
      apply AllReadyH.cons rfl ?_ AllReadyH.nil
      intro K hK
      rw [if_pos (by rfl)]
      refine wp_call_fn ⟨_, Tryd.func42, by kernel_rfl, by rfl⟩ _ _ rfl #[.pointer (some ⟨r, 0, none⟩), .int .i64 ((N : Int) + 1)] (by simp only [List.map_toArray, List.map_cons, List.map_nil]; rfl) (pick_any r ((N : Int) + 1) _ _ H.out.R (by omega) (by omega) (by omega)) ?_
      rintro e v9 ⟨j0, ⟨j1, j2⟩, rfl, R1, K1⟩
      refine ⟨_, rfl, ?_⟩
      replace S := S.kept K1 (by omega)
      replace Y := Lib.hid (Y.out.kept K1 (fun _ g off e => by have := MQ.out g off e; simp at this; omega))
      replace H := Lib.hid (H.out.kept K1 R1)
      obtain ⟨j0, rfl⟩ := Int.eq_ofNat_of_zero_le j1
      clear K1 R1 hHeld
      refine hK.out _ _ H.out.L (fun hHeld => ?_)
      clear hK K
      try simp only [Act.put, List.getElem_toArray, List.getElem_cons_succ, List.getElem_cons_zero, List.setIfInBounds_toArray, List.set_cons_zero, List.set_cons_succ]
      refine wpAnyH_ready (rs := [7]) (by kernel_rfl) (by simp) ?_
      apply AllReadyH.cons rfl ?_ AllReadyH.nil
      intro K hK
      rw [if_pos (by rfl)]
      refine wp_call_fn ⟨_, Tryd.func73, by kernel_rfl, by rfl⟩ _ _ rfl #[lev i t x y A n c G m kk fp fq fs fz b, .slice Q N cc, .int .i64 (j0 : Int)] (by simp only [List.map_toArray, List.map_cons, List.map_nil]; rfl) (specTo i t x y A n c G m kk fp fq fs fz b ws gs Q N cc xs j0 _ H.out.I H.out.J Y.out ok (by omega) (by omega) (by omega) (by omega) vx.out (by omega) (by omega)) ?_
      rintro e v10 ⟨rfl, B1⟩
      refine ⟨_, rfl, ?_⟩
      generalize M.toS ws gs fp fq fs fz _ (xs.take j0) = st at *
      replace S := S.step B1
      replace H := Lib.hid (H.out.step B1)
      replace Y := Lib.hid (Y.out.step B1)
      clear B1 hHeld
      refine hK.out _ _ H.out.L (fun hHeld => ?_)
      clear hK K
      try simp only [Act.put, List.getElem_toArray, List.getElem_cons_succ, List.getElem_cons_zero, List.setIfInBounds_toArray, List.set_cons_zero, List.set_cons_succ]
      refine wpAnyH_ready (rs := [9]) (by kernel_rfl) (by simp) ?_
      apply AllReadyH.cons rfl ?_ AllReadyH.nil
      intro K hK
      rw [if_pos (by rfl)]
      refine wp_store_new 31 (.tmp 6) (.tmp 17) rfl sb rfl (stv st.k st.ax st.ay st.fx st.fy st.u st.g st.d st.o) rfl _ S (by simp) state_size rfl ?_
      intro v11 K1 N1
      replace H := Lib.hid (H.out.newer hs (fun h0 g off e => by have := nA.out h0 g off e; omega) (fun h0 g off e => by have := nG.out h0 g off e; omega) K1)
      replace S := N1
      clear K1 N1 hHeld Y
      refine hK.out _ _ H.out.L (fun hHeld => ?_)
      clear hK K
      try simp only [Act.put, List.getElem_toArray, List.getElem_cons_succ, List.getElem_cons_zero]
      refine wpAnyH_done (by kernel_rfl) ?_ _
      go_wp2_with fail
      go_meet
      case rel => exact ⟨sb, _, rfl, ⟨H.out.D, S, hs, H.out.R.mono (by omega), H.out.K, H.out.bw, H.out.rB⟩⟩
  clear H Y nA nG MQ vx
  obtain ⟨sb, ⟨sk, sax, say, sfx, sfy, su, sg, sd, so⟩, rfl, H⟩ := hcut
  simp only at H
  replace H := Lib.hid H
  go_wp2_with fail
  refine (pick_any r 16 _ _ H.out.R (by omega) (by omega) (by omega)).mono ?_
  rintro e w2 ⟨c0, ⟨c1, c2⟩, rfl, R1, K1⟩
  replace H := Lib.hid (H.out.kept K1 R1)
  clear K1 R1
  by_cases e0 : c0 = 0
  · subst e0
    go_wp2_with fail
    refine (vec_drawn r _ _ H.out.R (by omega)).mono ?_
    rintro e w3 ⟨vx1, vy1, _, _, rfl, R1, K1⟩
    replace H := Lib.hid (H.out.kept K1 R1)
    clear K1 R1
    have S3 := H.out.S.cell 3 _ rfl
    have f3 := H.out.S.fr 3
    have S4 := H.out.S.cell 4 _ rfl
    have f4 := H.out.S.fr 4
    have Sl := H.out.S.lt
    go_upto_region 16 with fail
    refine wp_letter (fun W' => SB B r w sb (stv 0 0 0 0 0 0 0 false false) (stv sk sax say vx1 vy1 su sg sd so) _ W') ((H.out.set 3 (by simp) (.int .i64 (vx1))).set 4 (by simp) (.int .i64 (vy1))) ?_
    clear H S3 f3 S4 f4 Sl
    intro w7 H
    refine wp_region_lit ?_
    refine load_cells rfl 31 (.tmp 6) rfl sb rfl (stv sk sax say vx1 vy1 su sg sd so) H.S Tryd.underlying31 rfl state_size ?_
    refine store_new rfl 31 (.tmp 4) (.tmp 53) rfl (w.heap.size + 1) rfl (stv sk sax say vx1 vy1 su sg sd so) rfl _ H.D (by simp) state_size rfl ?_
    intro w8 K8 N8
    go_wp2
    exact bodyPost_ret (v := sta sk sax say vx1 vy1 su sg sd so) (res_cells rfl (w.heap.size + 1) rfl (stv sk sax say vx1 vy1 su sg sd so) N8 Tryd.underlying31 rfl state_size) rfl (SB.out H (by omega) K8)
  by_cases e1 : c0 = 1
  · subst e1
    go_wp2_with fail
    refine (pick_any r 20 _ _ H.out.R (by omega) (by omega) (by omega)).mono ?_
    rintro e w3 ⟨v, ⟨v0, v1⟩, rfl, R1, K1⟩
    replace H := Lib.hid (H.out.kept K1 R1)
    clear K1 R1
    have S5 := H.out.S.cell 5 _ rfl
    have f5 := H.out.S.fr 5
    have Sl := H.out.S.lt
    go_upto_region 16 with fail
    refine wp_letter (fun W' => SB B r w sb (stv 0 0 0 0 0 0 0 false false) (stv sk sax say sfx sfy (v - 2) sg sd so) _ W') (H.out.set 5 (by simp) (.int .i64 (v - 2))) ?_
    clear H S5 f5 Sl
    intro w7 H
    refine wp_region_lit ?_
    refine load_cells rfl 31 (.tmp 6) rfl sb rfl (stv sk sax say sfx sfy (v - 2) sg sd so) H.S Tryd.underlying31 rfl state_size ?_
    refine store_new rfl 31 (.tmp 4) (.tmp 53) rfl (w.heap.size + 1) rfl (stv sk sax say sfx sfy (v - 2) sg sd so) rfl _ H.D (by simp) state_size rfl ?_
    intro w8 K8 N8
    go_wp2
    exact bodyPost_ret (v := sta sk sax say sfx sfy (v - 2) sg sd so) (res_cells rfl (w.heap.size + 1) rfl (stv sk sax say sfx sfy (v - 2) sg sd so) N8 Tryd.underlying31 rfl state_size) rfl (SB.out H (by omega) K8)
  by_cases e2 : c0 = 2
  · subst e2
    go_wp2_with fail
    refine (vec_drawn r _ _ H.out.R (by omega)).mono ?_
    rintro e w3 ⟨vx1, vy1, _, _, rfl, R1, K1⟩
    replace H := Lib.hid (H.out.kept K1 R1)
    clear K1 R1
    have S1 := H.out.S.cell 1 _ rfl
    have f1 := H.out.S.fr 1
    have S2 := H.out.S.cell 2 _ rfl
    have f2 := H.out.S.fr 2
    have Sl := H.out.S.lt
    go_upto_region 16 with fail
    refine wp_letter (fun W' => SB B r w sb (stv 0 0 0 0 0 0 0 false false) (stv sk vx1 vy1 sfx sfy su sg sd so) _ W') ((H.out.set 1 (by simp) (.int .i64 (vx1))).set 2 (by simp) (.int .i64 (vy1))) ?_
    clear H S1 f1 S2 f2 Sl
    intro w7 H
    refine wp_region_lit ?_
    refine load_cells rfl 31 (.tmp 6) rfl sb rfl (stv sk vx1 vy1 sfx sfy su sg sd so) H.S Tryd.underlying31 rfl state_size ?_
    refine store_new rfl 31 (.tmp 4) (.tmp 53) rfl (w.heap.size + 1) rfl (stv sk vx1 vy1 sfx sfy su sg sd so) rfl _ H.D (by simp) state_size rfl ?_
    intro w8 K8 N8
    go_wp2
    exact bodyPost_ret (v := sta sk vx1 vy1 sfx sfy su sg sd so) (res_cells rfl (w.heap.size + 1) rfl (stv sk vx1 vy1 sfx sfy su sg sd so) N8 Tryd.underlying31 rfl state_size) rfl (SB.out H (by omega) K8)
  by_cases e3 : c0 = 3
  · subst e3
    go_wp2_with fail
    refine (pick_any r 5 _ _ H.out.R (by omega) (by omega) (by omega)).mono ?_
    rintro e w3 ⟨v, ⟨v0, v1⟩, rfl, R1, K1⟩
    replace H := Lib.hid (H.out.kept K1 R1)
    clear K1 R1
    have S6 := H.out.S.cell 6 _ rfl
    have f6 := H.out.S.fr 6
    have Sl := H.out.S.lt
    go_upto_region 16 with fail
    refine wp_letter (fun W' => SB B r w sb (stv 0 0 0 0 0 0 0 false false) (stv sk sax say sfx sfy su (v - 1) sd so) _ W') (H.out.set 6 (by simp) (.int .i64 (v - 1))) ?_
    clear H S6 f6 Sl
    intro w7 H
    refine wp_region_lit ?_
    refine load_cells rfl 31 (.tmp 6) rfl sb rfl (stv sk sax say sfx sfy su (v - 1) sd so) H.S Tryd.underlying31 rfl state_size ?_
    refine store_new rfl 31 (.tmp 4) (.tmp 53) rfl (w.heap.size + 1) rfl (stv sk sax say sfx sfy su (v - 1) sd so) rfl _ H.D (by simp) state_size rfl ?_
    intro w8 K8 N8
    go_wp2
    exact bodyPost_ret (v := sta sk sax say sfx sfy su (v - 1) sd so) (res_cells rfl (w.heap.size + 1) rfl (stv sk sax say sfx sfy su (v - 1) sd so) N8 Tryd.underlying31 rfl state_size) rfl (SB.out H (by omega) K8)
  by_cases e4 : c0 = 4
  · subst e4
    have S8 := H.out.S.cell 8 _ rfl
    have f8 := H.out.S.fr 8
    have Sl := H.out.S.lt
    go_upto_region 16 with fail
    refine wp_letter (fun W' => SB B r w sb (stv 0 0 0 0 0 0 0 false false) (stv sk sax say sfx sfy su sg sd true) _ W') (H.out.set 8 (by simp) (.bool true)) ?_
    clear H S8 f8 Sl
    intro w7 H
    refine wp_region_lit ?_
    refine load_cells rfl 31 (.tmp 6) rfl sb rfl (stv sk sax say sfx sfy su sg sd true) H.S Tryd.underlying31 rfl state_size ?_
    refine store_new rfl 31 (.tmp 4) (.tmp 53) rfl (w.heap.size + 1) rfl (stv sk sax say sfx sfy su sg sd true) rfl _ H.D (by simp) state_size rfl ?_
    intro w8 K8 N8
    go_wp2
    exact bodyPost_ret (v := sta sk sax say sfx sfy su sg sd true) (res_cells rfl (w.heap.size + 1) rfl (stv sk sax say sfx sfy su sg sd true) N8 Tryd.underlying31 rfl state_size) rfl (SB.out H (by omega) K8)
  by_cases e5 : c0 = 5
  · subst e5
    go_wp2_with fail
    refine (pick_any r 4 _ (w2.alloc (.cells tks4 3)) (H.out.R.alloc _) (by omega) (by omega) (by omega)).mono ?_
    rintro e w3 ⟨v, ⟨v0, v1⟩, rfl, R2, K2⟩
    obtain ⟨vi, rfl⟩ := Int.eq_ofNat_of_zero_le v0
    obtain ⟨zz, hzz⟩ := tk4_at vi (by omega)
    have hrw := H.out.bw
    have hrb := H.out.rB
    have hz0 := H.out.K.size
    have hcell : w3.cell? ⟨w2.heap.size, vi, none⟩ = some (.int .i64 zz) := by
      rw [K2.cell (by simp) (by simp; omega), World.cell?_alloc_new]; exact hzz
    have hvi : (vi : Int) < 4 := by omega
    replace H := Lib.hid ((H.out.step (bl_alloc (bl_refl _) (.cells tks4 3))).kept K2 R2)
    clear R2 K2 hzz
    have S0 := H.out.S.cell 0 _ rfl
    have f0 := H.out.S.fr 0
    have Sl := H.out.S.lt
    go_upto_region 16 with fail
    refine wp_letter (fun W' => SB B r w sb (stv 0 0 0 0 0 0 0 false false) (stv zz sax say sfx sfy su sg sd so) _ W') (H.out.set 0 (by simp) (.int .i64 (zz))) ?_
    clear H S0 f0 Sl
    intro w7 H
    refine wp_region_lit ?_
    refine load_cells rfl 31 (.tmp 6) rfl sb rfl (stv zz sax say sfx sfy su sg sd so) H.S Tryd.underlying31 rfl state_size ?_
    refine store_new rfl 31 (.tmp 4) (.tmp 53) rfl (w.heap.size + 1) rfl (stv zz sax say sfx sfy su sg sd so) rfl _ H.D (by simp) state_size rfl ?_
    intro w8 K8 N8
    go_wp2
    exact bodyPost_ret (v := sta zz sax say sfx sfy su sg sd so) (res_cells rfl (w.heap.size + 1) rfl (stv zz sax say sfx sfy su sg sd so) N8 Tryd.underlying31 rfl state_size) rfl (SB.out H (by omega) K8)
  have d0 : (c0 == 0) = false := beq_eq_false_iff_ne.2 e0
  have d1 : (c0 == 1) = false := beq_eq_false_iff_ne.2 e1
  have d2 : (c0 == 2) = false := beq_eq_false_iff_ne.2 e2
  have d3 : (c0 == 3) = false := beq_eq_false_iff_ne.2 e3
  have d4 : (c0 == 4) = false := beq_eq_false_iff_ne.2 e4
  have d5 : (c0 == 5) = false := beq_eq_false_iff_ne.2 e5
  clear e0 e1 e2 e3 e4 e5
  go_upto_region 16 with fail
  refine wp_letter (fun W' => SB B r w sb (stv 0 0 0 0 0 0 0 false false) (stv sk sax say sfx sfy su sg sd so) _ W') H.out ?_
  clear H
  intro w7 H
  refine wp_region_lit ?_
  refine load_cells rfl 31 (.tmp 6) rfl sb rfl (stv sk sax say sfx sfy su sg sd so) H.S Tryd.underlying31 rfl state_size ?_
  refine store_new rfl 31 (.tmp 4) (.tmp 53) rfl (w.heap.size + 1) rfl (stv sk sax say sfx sfy su sg sd so) rfl _ H.D (by simp) state_size rfl ?_
  intro w8 K8 N8
  go_wp2
  exact bodyPost_ret (v := sta sk sax say sfx sfy su sg sd so) (res_cells rfl (w.heap.size + 1) rfl (stv sk sax say sfx sfy su sg sd so) N8 Tryd.underlying31 rfl state_size) rfl (SB.out H (by omega) K8)

end Go.Proofs.YtnoenjociioffaaDoor
