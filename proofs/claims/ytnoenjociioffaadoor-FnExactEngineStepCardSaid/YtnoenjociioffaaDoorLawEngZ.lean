/-
  The walk of the exact law of EngineStep: at every argument the program answers as the model, and writes into no argument.
-/
import Derived.Test.YtnoenjociioffaaDoorLawLevX
import Derived.Test.YtnoenjociioffaaDoorLawBoxY
import Derived.Test.YtnoenjociioffaaDoorToSt
import Derived.Test.YtnoenjociioffaaDoorToIn
import Derived.Test.YtnoenjociioffaaDoorEngG
import Derived.Test.YtnoenjociioffaaDoorRegN
import Derived.Deep.Cut
namespace Go.Proofs.YtnoenjociioffaaDoor
open Go.RowKit
open M

theorem lt_boxesZ {W : World} {A : Option Addr} {n : Nat} {bs : List Bx} (h : Boxes W A n bs) (hn : 0 < n) {g off : Nat} (e : A = some ⟨g, off, none⟩) : g < W.heap.size := h.lt hn g off e
theorem implEStepX (i t x y : Int) (A : Option Addr) (n c : Nat) (G : Option Addr) (m kk : Nat) (fp fq fs fz b : Int) (ws gs : List Bx) (k ax ay fx fy u g : Int) (d o : Bool) (s p : Int) (z : Bool) {K' X' Y' P' Q' U' V' : Int} {D' O' : Bool} {r : Bool} (hE : esS i t x y ws gs fp fq fs fz b k ax ay fx fy u g d o s p z = ⟨K', X', Y', P', Q', U', V', D', O'⟩) (hr : eoB i t x y ws gs fp fq fs fz b k ax ay fx fy u g d o s p z = r) (hn : n ≤ 281474976710656) (hm : m ≤ 281474976710656) (w : World) (I : Boxes w A n ws) (J : Boxes w G m gs) (R : Quarter w) :
    Calls Tryd.prog 20 #[lev i t x y A n c G m kk fp fq fs fz b, sta k ax ay fx fy u g d o, inp s p z] w fun e w' => e = .returned (.tuple #[sta K' X' Y' P' Q' U' V' D' O', .bool r]) ∧ Below w.heap.size w w' := by
  refine (implEStep i t x y A n c G m kk fp fq fs fz b ws gs k ax ay fx fy u g d o s p z w I J hn hm R).mono ?_
  rintro e w' ⟨⟨_, _, _, _, _, _, _, _, _, e1, rfl⟩, B⟩
  rw [hE] at e1
  injection e1 with a1 a2 a3 a4 a5 a6 a7 a8 a9
  subst a1 a2 a3 a4 a5 a6 a7 a8 a9 hr
  exact ⟨rfl, B⟩
theorem specEStepX (i t x y : Int) (A : Option Addr) (n c : Nat) (G : Option Addr) (m kk : Nat) (fp fq fs fz b : Int) (ws gs : List Bx) (k ax ay fx fy u g : Int) (d o : Bool) (s p : Int) (z : Bool) {K' X' Y' P' Q' U' V' : Int} {D' O' : Bool} {r : Bool} (hE : esS i t x y ws gs fp fq fs fz b k ax ay fx fy u g d o s p z = ⟨K', X', Y', P', Q', U', V', D', O'⟩) (hr : eoB i t x y ws gs fp fq fs fz b k ax ay fx fy u g d o s p z = r) (hn : n ≤ 281474976710656) (hm : m ≤ 281474976710656) (w : World) (I : Boxes w A n ws) (J : Boxes w G m gs) :
    Calls Tryd.prog 21 #[lev i t x y A n c G m kk fp fq fs fz b, sta k ax ay fx fy u g d o, inp s p z] w fun e w' => e = .returned (.tuple #[sta K' X' Y' P' Q' U' V' D' O', .bool r]) ∧ Below w.heap.size w w' := by
  refine (specEStep i t x y A n c G m kk fp fq fs fz b ws gs k ax ay fx fy u g d o s p z w I J hn hm).mono ?_
  rintro e w' ⟨⟨_, _, _, _, _, _, _, _, _, e1, rfl⟩, B⟩
  rw [hE] at e1
  injection e1 with a1 a2 a3 a4 a5 a6 a7 a8 a9
  subst a1 a2 a3 a4 a5 a6 a7 a8 a9 hr
  exact ⟨rfl, B⟩

theorem wp_allocS {w : World} {o : Oper} {a : Act} {K : Act → World → Prop} {Q : Exit → Act → World → Prop} (ho : o.op = .alloc 31)
    (h : ∀ (g : Nat) (w' : World), Below w.heap.size w w' → w.heap.size ≤ g → CellsAt w' g (stv 0 0 0 0 0 0 0 false false) → K (a.put o.dst (.pointer (some ⟨g, 0, none⟩))) w') : o.wp Tryd.prog a w K Q := by
  have e : (execOp a.eval o).run Tryd.prog w = .ok (.value (.pointer (some ⟨w.heap.size, 0, none⟩))) (w.alloc (.cells #[.int .i64 0, .int .i64 0, .int .i64 0, .int .i64 0, .int .i64 0, .int .i64 0, .int .i64 0, .bool false, .bool false] 31)) := by
    unfold execOp
    simp only [ho]
    go_simp
  unfold Oper.wp
  rw [e, Oper.upon_value]
  exact h _ _ (bl_alloc (bl_refl w) _) (Nat.le_refl _) (CellsAt.new _ _ _ _ rfl)
/-- Behind the model's call: its answer in a variable of its own. -/
def StepMid (w : World) (i t x y : Int) (A : Option Addr) (n c : Nat) (G : Option Addr) (m kk : Nat) (p q s z b : Int) (ws gs : List Bx) (sk sa sb sc sd su sg : Int) (sx sy : Bool) (is ip : Int) (iz : Bool) (K' X' Y' P' Q' U' V' : Int) (D' O' rr : Bool) (v8 v9 : Value) (W : World) : Prop :=
  ∃ g : Nat, w.heap.size + 1 + 1 < g ∧ v8 = .pointer (some ⟨g, 0, none⟩) ∧ v9 = .bool rr ∧ CellsAt W g (stv K' X' Y' P' Q' U' V' D' O') ∧ CellsAt W w.heap.size (lvs i t x y A n c G m kk p q s z b) ∧ CellsAt W (w.heap.size + 1) (stv sk sa sb sc sd su sg sx sy) ∧ CellsAt W (w.heap.size + 1 + 1) (ins is ip iz) ∧ Boxes W A n ws ∧ Boxes W G m gs ∧ Below w.heap.size w W
/-- Behind the program's call too. -/
def StepEnd (w : World) (g xb u2 v2 : Nat) (i t x y : Int) (A : Option Addr) (n c : Nat) (G : Option Addr) (m kk : Nat) (p q s z b : Int) (ws gs : List Bx) (sk sa sb sc sd su sg : Int) (sx sy : Bool) (is ip : Int) (iz : Bool) (K' X' Y' P' Q' U' V' : Int) (D' O' rr : Bool) (v11 v12 : Value) (W : World) : Prop :=
  ∃ h : Nat, v11 = .pointer (some ⟨h, 0, none⟩) ∧ v12 = .bool rr ∧ CellsAt W h (stv K' X' Y' P' Q' U' V' D' O') ∧ CellsAt W g (stv K' X' Y' P' Q' U' V' D' O') ∧ CellsAt W xb (lvs i t x y (some ⟨u2, 0, none⟩) n n (some ⟨v2, 0, none⟩) m m p q s z b) ∧ CellsAt W w.heap.size (lvs i t x y A n c G m kk p q s z b) ∧ CellsAt W (w.heap.size + 1) (stv sk sa sb sc sd su sg sx sy) ∧ CellsAt W (w.heap.size + 1 + 1) (ins is ip iz) ∧ Boxes W A n ws ∧ Boxes W G m gs ∧ Boxes W (some ⟨u2, 0, none⟩) n ws ∧ Boxes W (some ⟨v2, 0, none⟩) m gs ∧ Below w.heap.size w W

set_option maxRecDepth 100000 in
set_option maxHeartbeats 4000000 in
theorem walk_FnExactEngineStep (i t x y : Int) (A : Option Addr) (n c : Nat) (G : Option Addr) (m kk : Nat) (p q s z b : Int) (ws gs : List Bx) (sk sa sb sc sd su sg : Int) (sx sy : Bool) (is ip : Int) (iz : Bool) (w : World) (I : Boxes w A n ws) (J : Boxes w G m gs) (hN0 : n ≤ 9223372036854775807) (hM0 : m ≤ 9223372036854775807) (hQ : Quarter w) :
    Calls Tryd.prog 18 #[lev i t x y A n c G m kk p q s z b, sta sk sa sb sc sd su sg sx sy, inp is ip iz] w fun e w' => e = .returned (.bool true) ∧ Below w.heap.size w w' := by
  have hQ := Lib.hid hQ
  have nA := Lib.hid (show 0 < n → ∀ g off, A = some ⟨g, off, none⟩ → g < w.heap.size from fun h0 g off e => lt_boxesZ I h0 e)
  have nG := Lib.hid (show 0 < m → ∀ g off, G = some ⟨g, off, none⟩ → g < w.heap.size from fun h0 g off e => lt_boxesZ J h0 e)
  have I := Lib.hid I
  have J := Lib.hid J
  by_cases big : 1048576 < n + m
  · have C := Lib.hid (fun W => szLev_no i t x y A n c G m kk p q s z b W big hN0 hM0)
    go_enter Tryd.func18, Tryd.ntmps18
    go_wp2_with fail
    refine (C.out _).mono ?_
    rintro e w1 ⟨rfl, B⟩
    have H := Lib.hid (bl_trans (bl_alloc (bl_alloc (bl_alloc (bl_refl w) _) _) _) B)
    clear B
    go_wp2
    go_ret
    exact ⟨rfl, H.out⟩
  have C := Lib.hid (fun W => szLev_ok i t x y A n c G m kk p q s z b W (by omega))
  have h1 : n ≤ 1048576 := by omega
  have h2 : m ≤ 1048576 := by omega
  have g0 : (0 : Int) ≤ 1048576 - n - m := by omega
  have hN : n ≤ 281474976710656 := by omega
  have hM : m ≤ 281474976710656 := by omega
  clear big hN0 hM0
  obtain ⟨rr, hr⟩ : ∃ rr, eoB i t x y ws gs p q s z b sk sa sb sc sd su sg sx sy is ip iz = rr := ⟨_, rfl⟩
  obtain ⟨K', X', Y', P', Q', U', V', D', O', hE⟩ : ∃ K' X' Y' P' Q' U' V' D' O', esS i t x y ws gs p q s z b sk sa sb sc sd su sg sx sy is ip iz = ⟨K', X', Y', P', Q', U', V', D', O'⟩ := ⟨_, _, _, _, _, _, _, _, _, rfl⟩
  have hrn : (rr != rr) = false := by cases rr <;> rfl
  have CS := Lib.hid (fun (u v : Nat) (W : World) (Z : Boxes W (some ⟨u, 0, none⟩) n ws) (Y : Boxes W (some ⟨v, 0, none⟩) m gs) => specEStepX i t x y (some ⟨u, 0, none⟩) n n (some ⟨v, 0, none⟩) m m p q s z b ws gs sk sa sb sc sd su sg sx sy is ip iz (r := rr) hE hr hN hM W Z Y)
  have CV := Lib.hid (fun (u v : Nat) (W : World) (Z : Boxes W (some ⟨u, 0, none⟩) n ws) (Y : Boxes W (some ⟨v, 0, none⟩) m gs) (R : Quarter W) => implEStepX i t x y (some ⟨u, 0, none⟩) n n (some ⟨v, 0, none⟩) m m p q s z b ws gs sk sa sb sc sd su sg sx sy is ip iz (r := rr) hE hr hN hM W Z Y R)
  clear hE hr
  go_enter Tryd.func18, Tryd.ntmps18
  go_wp2_with fail
  refine (C.out _).mono ?_
  rintro e w1 ⟨rfl, B⟩
  have P : CellsAt w1 w.heap.size (lvs i t x y A n c G m kk p q s z b) := (((CellsAt.new w _ _ _ rfl).alloc _).alloc _).step B
  have Q : CellsAt w1 (w.heap.size + 1) (stv sk sa sb sc sd su sg sx sy) := ((CellsAt.new _ _ _ _ (by simp)).alloc _).step B
  have N : CellsAt w1 (w.heap.size + 1 + 1) (ins is ip iz) := (CellsAt.new _ _ _ _ (by simp)).step B
  replace I := Lib.hid ((((I.out.alloc _).alloc _).alloc _).step B)
  replace J := Lib.hid ((((J.out.alloc _).alloc _).alloc _).step B)
  have H := Lib.hid (bl_trans (bl_alloc (bl_alloc (bl_alloc (bl_refl w) _) _) _) B)
  clear B C
  go_upto_region 5 with fail
  go_cut [8, 9] (StepMid w i t x y A n c G m kk p q s z b ws gs sk sa sb sc sd su sg sx sy is ip iz K' X' Y' P' Q' U' V' D' O' rr)
  case first =>
    refine wp_region_held_drew (S := fun w' => CellsAt w' w.heap.size (lvs i t x y A n c G m kk p q s z b) ∧ CellsAt w' (w.heap.size + 1) (stv sk sa sb sc sd su sg sx sy) ∧ CellsAt w' (w.heap.size + 1 + 1) (ins is ip iz)) (by kernel_rfl) ⟨P.drew, Q.drew, N.drew⟩ (fun hHeld => ?_)
    replace P := P.drew
    replace Q := Q.drew
    replace N := N.drew
    replace I := Lib.hid I.out.drew
    replace J := Lib.hid J.out.drew
    replace H := Lib.hid (bl_drew1 H.out)
    refine wpAnyH_take (i := 0) (oi := _) (v := .agg (lvs i t x y A n c G m kk p q s z b).toArray) rfl (by kernel_rfl) (by kernel_rfl) (by kernel_rfl) (fun _ _ _ h => h) (yieldsIf_load_mid (by rfl) 55 (.tmp 3) rfl w.heap.size 0 rfl (lvs i t x y A n c G m kk p q s z b) _ (fun W hS => hS.1.range) Tryd.underlying55 rfl lawlevel_size) hHeld ?_
    try simp only [Act.put, List.getElem_toArray, List.getElem_cons_zero, List.setIfInBounds_toArray, List.set_cons_zero, List.set_cons_succ]
    refine wpAnyH_take (i := 2) (oi := _) (v := .agg (stv sk sa sb sc sd su sg sx sy).toArray) rfl (by kernel_rfl) (by kernel_rfl) (by kernel_rfl) (fun _ _ _ h => h) (yieldsIf_load_mid (by rfl) 57 (.tmp 4) rfl (w.heap.size + 1) 0 rfl (stv sk sa sb sc sd su sg sx sy) _ (fun W hS => hS.2.1.range) Tryd.underlying57 rfl lawst_size) hHeld ?_
    try simp only [Act.put, List.getElem_toArray, List.getElem_cons_succ, List.getElem_cons_zero, List.setIfInBounds_toArray, List.set_cons_zero, List.set_cons_succ]
    refine wpAnyH_take (i := 4) (oi := _) (v := .agg (ins is ip iz).toArray) rfl (by kernel_rfl) (by kernel_rfl) (by kernel_rfl) (fun _ _ _ h => h) (yieldsIf_load_mid (by rfl) 58 (.tmp 5) rfl (w.heap.size + 1 + 1) 0 rfl (ins is ip iz) _ (fun W hS => hS.2.2.range) Tryd.underlying58 rfl lawin_size) hHeld ?_
    try simp only [Act.put, List.getElem_toArray, List.getElem_cons_succ, List.getElem_cons_zero, List.setIfInBounds_toArray, List.set_cons_zero, List.set_cons_succ]
    refine wpAnyH_ready (rs := [1, 10]) (by kernel_rfl) (by simp) ?_
    refine (AllReadyH.cons (o := _) rfl (fun K hK => ?_) (AllReadyH.cons (o := _) rfl (fun K hK => ?_) AllReadyH.nil))
    · skip
      rw [if_pos (by rfl)]
      refine wp_call_fn ⟨_, Tryd.func34, by kernel_rfl, by rfl⟩ _ _ rfl #[lev i t x y A n c G m kk p q s z b] (by simp only [List.map_toArray, List.map_cons, List.map_nil]; rfl) (toLevel_any i t x y A n c G m kk p q s z b ws gs _ I.out J.out h1 h2) ?_
      rintro e wa1 ⟨u1, v1, rfl, I1, J1, B⟩
      refine ⟨_, rfl, ?_⟩
      replace I1 := Lib.hid I1
      replace J1 := Lib.hid J1
      replace P := P.step B
      replace Q := Q.step B
      replace N := N.step B
      replace I := Lib.hid (I.out.step B)
      replace J := Lib.hid (J.out.step B)
      replace H := Lib.hid (bl_trans H.out B)
      clear B hHeld
      refine hK.out _ _ ⟨P, Q, N⟩ (fun hHeld => ?_)
      clear hK K
      try simp only [Act.put, List.getElem_toArray, List.getElem_cons_succ, List.getElem_cons_zero, List.setIfInBounds_toArray, List.set_cons_zero, List.set_cons_succ]
      refine wpAnyH_ready (rs := [3, 10]) (by kernel_rfl) (by simp) ?_
      refine (AllReadyH.cons (o := _) rfl (fun K hK => ?_) (AllReadyH.cons (o := _) rfl (fun K hK => ?_) AllReadyH.nil))
      · skip
        rw [if_pos (by rfl)]
        refine wp_call_fn ⟨_, Tryd.func35, by kernel_rfl, by rfl⟩ _ _ rfl #[sta sk sa sb sc sd su sg sx sy] (by simp only [List.map_toArray, List.map_cons, List.map_nil]; rfl) (toState_any sk sa sb sc sd su sg sx sy _) (bel_back fun wa2 B => ?_)
        replace P := P.step B
        replace Q := Q.step B
        replace N := N.step B
        replace I := Lib.hid (I.out.step B)
        replace J := Lib.hid (J.out.step B)
        replace I1 := Lib.hid (I1.out.step B)
        replace J1 := Lib.hid (J1.out.step B)
        replace H := Lib.hid (bl_trans H.out B)
        clear B hHeld
        refine hK.out _ _ ⟨P, Q, N⟩ (fun hHeld => ?_)
        clear hK K
        try simp only [Act.put, List.getElem_toArray, List.getElem_cons_succ, List.getElem_cons_zero, List.setIfInBounds_toArray, List.set_cons_zero, List.set_cons_succ]
        refine wpAnyH_ready (rs := [5, 10]) (by kernel_rfl) (by simp) ?_
        refine (AllReadyH.cons (o := _) rfl (fun K hK => ?_) (AllReadyH.cons (o := _) rfl (fun K hK => ?_) AllReadyH.nil))
        · skip
          rw [if_pos (by rfl)]
          refine wp_call_fn ⟨_, Tryd.func36, by kernel_rfl, by rfl⟩ _ _ rfl #[inp is ip iz] (by simp only [List.map_toArray, List.map_cons, List.map_nil]; rfl) (toInput_any is ip iz _) (bel_back fun wa3 B => ?_)
          replace P := P.step B
          replace Q := Q.step B
          replace N := N.step B
          replace I := Lib.hid (I.out.step B)
          replace J := Lib.hid (J.out.step B)
          replace I1 := Lib.hid (I1.out.step B)
          replace J1 := Lib.hid (J1.out.step B)
          replace H := Lib.hid (bl_trans H.out B)
          clear B hHeld
          refine hK.out _ _ ⟨P, Q, N⟩ (fun hHeld => ?_)
          clear hK K
          try simp only [Act.put, List.getElem_toArray, List.getElem_cons_succ, List.getElem_cons_zero, List.setIfInBounds_toArray, List.set_cons_zero, List.set_cons_succ]
          refine wpAnyH_ready (rs := [6, 10]) (by kernel_rfl) (by simp) ?_
          refine (AllReadyH.cons (o := _) rfl (fun K hK => ?_) (AllReadyH.cons (o := _) rfl (fun K hK => ?_) AllReadyH.nil))
          · skip
            rw [if_pos (by rfl)]
            refine wp_call_fn ⟨_, Tryd.func21, by kernel_rfl, by rfl⟩ _ _ rfl #[lev i t x y (some ⟨u1, 0, none⟩) n n (some ⟨v1, 0, none⟩) m m p q s z b, sta sk sa sb sc sd su sg sx sy, inp is ip iz] (by simp only [List.map_toArray, List.map_cons, List.map_nil]; rfl) (CS.out u1 v1 _ I1.out J1.out) (bel_back fun wa4 B => ?_)
            replace P := P.step B
            replace Q := Q.step B
            replace N := N.step B
            replace I := Lib.hid (I.out.step B)
            replace J := Lib.hid (J.out.step B)
            replace I1 := Lib.hid (I1.out.step B)
            replace J1 := Lib.hid (J1.out.step B)
            replace H := Lib.hid (bl_trans H.out B)
            clear B hHeld
            refine hK.out _ _ ⟨P, Q, N⟩ (fun hHeld => ?_)
            clear hK K
            try simp only [Act.put, List.getElem_toArray, List.getElem_cons_succ, List.getElem_cons_zero, List.setIfInBounds_toArray, List.set_cons_zero, List.set_cons_succ]
            refine wpAnyH_take (i := 7) (oi := _) (v := ?_) rfl (by kernel_rfl) (by kernel_rfl) (by kernel_rfl) (fun _ _ _ h => h) (Or.inl ⟨by rfl, ?_⟩) hHeld ?_
            rotate_left
            · intro w hSw
              try dsimp only at hSw
              go_simp
              all_goals with_reducible rfl
            try simp only [Act.put, List.getElem_toArray, List.getElem_cons_succ, List.getElem_cons_zero, List.setIfInBounds_toArray, List.set_cons_zero, List.set_cons_succ]
            refine wpAnyH_take (i := 8) (oi := _) (v := ?_) rfl (by kernel_rfl) (by kernel_rfl) (by kernel_rfl) (fun _ _ _ h => h) (Or.inl ⟨by rfl, ?_⟩) hHeld ?_
            rotate_left
            · intro w hSw
              try dsimp only at hSw
              go_simp
              all_goals with_reducible rfl
            try simp only [Act.put, List.getElem_toArray, List.getElem_cons_succ, List.getElem_cons_zero, List.setIfInBounds_toArray, List.set_cons_zero, List.set_cons_succ]
            refine wpAnyH_take (i := 9) (oi := _) (v := ?_) rfl (by kernel_rfl) (by kernel_rfl) (by kernel_rfl) (fun _ _ _ h => h) (Or.inl ⟨by rfl, ?_⟩) hHeld ?_
            rotate_left
            · intro w hSw
              try dsimp only at hSw
              go_simp
              all_goals with_reducible rfl
            try simp only [Act.put, List.getElem_toArray, List.getElem_cons_succ, List.getElem_cons_zero, List.setIfInBounds_toArray, List.set_cons_zero, List.set_cons_succ]
            refine wpAnyH_ready (rs := [10]) (by kernel_rfl) (by simp) ?_
            apply AllReadyH.cons rfl ?_ AllReadyH.nil
            intro K hK
            rw [if_pos (by rfl)]
            refine wp_allocS rfl ?_
            intro g9 wa5 B hg0 T9
            have hgn := Nat.lt_of_lt_of_le N.lt hg0
            clear hg0
            replace P := P.step B
            replace Q := Q.step B
            replace N := N.step B
            replace I := Lib.hid (I.out.step B)
            replace J := Lib.hid (J.out.step B)
            replace I1 := Lib.hid (I1.out.step B)
            replace J1 := Lib.hid (J1.out.step B)
            replace H := Lib.hid (bl_trans H.out B)
            clear B hHeld
            refine hK.out _ _ ⟨P, Q, N⟩ (fun hHeld => ?_)
            clear hK K
            try simp only [Act.put, List.getElem_toArray, List.getElem_cons_succ, List.getElem_cons_zero, List.setIfInBounds_toArray, List.set_cons_zero, List.set_cons_succ]
            refine wpAnyH_ready (rs := [11]) (by kernel_rfl) (by simp) ?_
            apply AllReadyH.cons rfl ?_ AllReadyH.nil
            intro K hK
            rw [if_pos (by rfl)]
            refine wp_store_new 31 (.tmp 8) (.tmp 26) rfl g9 rfl (stv K' X' Y' P' Q' U' V' D' O') rfl _ T9 (by simp) state_size rfl ?_
            intro w9 K9 N9
            replace T9 := N9
            replace P := P.kept K9 (by omega)
            replace Q := Q.kept K9 (by omega)
            replace N := N.kept K9 (by omega)
            replace I := Lib.hid (I.out.kept K9 (fun h0 g off e => by have := nA.out h0 g off e; omega))
            replace J := Lib.hid (J.out.kept K9 (fun h0 g off e => by have := nG.out h0 g off e; omega))
            replace H := Lib.hid (kp_below H.out K9 (by omega))
            clear K9 hHeld
            refine hK.out _ _ ⟨P, Q, N⟩ (fun hHeld => ?_)
            clear hK K
            try simp only [Act.put, List.getElem_toArray, List.getElem_cons_succ, List.getElem_cons_zero]
            refine wpAnyH_take (i := 12) (oi := _) (v := ?_) rfl (by kernel_rfl) (by kernel_rfl) (by kernel_rfl) (fun _ _ _ h => h) (Or.inl ⟨by rfl, ?_⟩) hHeld ?_
            rotate_left
            · intro w hSw
              try dsimp only at hSw
              go_simp
              all_goals with_reducible rfl
            try simp only [Act.put, List.getElem_toArray, List.getElem_cons_succ, List.getElem_cons_zero, List.setIfInBounds_toArray, List.set_cons_zero, List.set_cons_succ]
            refine wpAnyH_done (by kernel_rfl) ?_ _
            go_wp2_with fail
            go_meet
            exact ⟨g9, hgn, rfl, rfl, T9, P, Q, N, I.out, J.out, H.out⟩
          · skip
            rw [if_pos (by rfl)]
            refine wp_allocS rfl ?_
            intro g9 wa6 B hg0 T9
            have hgn := Nat.lt_of_lt_of_le N.lt hg0
            clear hg0
            replace P := P.step B
            replace Q := Q.step B
            replace N := N.step B
            replace I := Lib.hid (I.out.step B)
            replace J := Lib.hid (J.out.step B)
            replace I1 := Lib.hid (I1.out.step B)
            replace J1 := Lib.hid (J1.out.step B)
            replace H := Lib.hid (bl_trans H.out B)
            clear B hHeld
            refine hK.out _ _ ⟨P, Q, N⟩ (fun hHeld => ?_)
            clear hK K
            try simp only [Act.put, List.getElem_toArray, List.getElem_cons_succ, List.getElem_cons_zero, List.setIfInBounds_toArray, List.set_cons_zero, List.set_cons_succ]
            refine wpAnyH_ready (rs := [6]) (by kernel_rfl) (by simp) ?_
            apply AllReadyH.cons rfl ?_ AllReadyH.nil
            intro K hK
            rw [if_pos (by rfl)]
            refine wp_call_fn ⟨_, Tryd.func21, by kernel_rfl, by rfl⟩ _ _ rfl #[lev i t x y (some ⟨u1, 0, none⟩) n n (some ⟨v1, 0, none⟩) m m p q s z b, sta sk sa sb sc sd su sg sx sy, inp is ip iz] (by simp only [List.map_toArray, List.map_cons, List.map_nil]; rfl) (CS.out u1 v1 _ I1.out J1.out) (bel_back fun wa7 B => ?_)
            replace P := P.step B
            replace Q := Q.step B
            replace N := N.step B
            replace T9 := T9.step B
            replace I := Lib.hid (I.out.step B)
            replace J := Lib.hid (J.out.step B)
            replace I1 := Lib.hid (I1.out.step B)
            replace J1 := Lib.hid (J1.out.step B)
            replace H := Lib.hid (bl_trans H.out B)
            clear B hHeld
            refine hK.out _ _ ⟨P, Q, N⟩ (fun hHeld => ?_)
            clear hK K
            try simp only [Act.put, List.getElem_toArray, List.getElem_cons_succ, List.getElem_cons_zero, List.setIfInBounds_toArray, List.set_cons_zero, List.set_cons_succ]
            refine wpAnyH_take (i := 7) (oi := _) (v := ?_) rfl (by kernel_rfl) (by kernel_rfl) (by kernel_rfl) (fun _ _ _ h => h) (Or.inl ⟨by rfl, ?_⟩) hHeld ?_
            rotate_left
            · intro w hSw
              try dsimp only at hSw
              go_simp
              all_goals with_reducible rfl
            try simp only [Act.put, List.getElem_toArray, List.getElem_cons_succ, List.getElem_cons_zero, List.setIfInBounds_toArray, List.set_cons_zero, List.set_cons_succ]
            refine wpAnyH_take (i := 8) (oi := _) (v := ?_) rfl (by kernel_rfl) (by kernel_rfl) (by kernel_rfl) (fun _ _ _ h => h) (Or.inl ⟨by rfl, ?_⟩) hHeld ?_
            rotate_left
            · intro w hSw
              try dsimp only at hSw
              go_simp
              all_goals with_reducible rfl
            try simp only [Act.put, List.getElem_toArray, List.getElem_cons_succ, List.getElem_cons_zero, List.setIfInBounds_toArray, List.set_cons_zero, List.set_cons_succ]
            refine wpAnyH_take (i := 9) (oi := _) (v := ?_) rfl (by kernel_rfl) (by kernel_rfl) (by kernel_rfl) (fun _ _ _ h => h) (Or.inl ⟨by rfl, ?_⟩) hHeld ?_
            rotate_left
            · intro w hSw
              try dsimp only at hSw
              go_simp
              all_goals with_reducible rfl
            try simp only [Act.put, List.getElem_toArray, List.getElem_cons_succ, List.getElem_cons_zero, List.setIfInBounds_toArray, List.set_cons_zero, List.set_cons_succ]
            refine wpAnyH_ready (rs := [11]) (by kernel_rfl) (by simp) ?_
            apply AllReadyH.cons rfl ?_ AllReadyH.nil
            intro K hK
            rw [if_pos (by rfl)]
            refine wp_store_new 31 (.tmp 8) (.tmp 26) rfl g9 rfl (stv K' X' Y' P' Q' U' V' D' O') rfl _ T9 (by simp) state_size rfl ?_
            intro w9 K9 N9
            replace T9 := N9
            replace P := P.kept K9 (by omega)
            replace Q := Q.kept K9 (by omega)
            replace N := N.kept K9 (by omega)
            replace I := Lib.hid (I.out.kept K9 (fun h0 g off e => by have := nA.out h0 g off e; omega))
            replace J := Lib.hid (J.out.kept K9 (fun h0 g off e => by have := nG.out h0 g off e; omega))
            replace H := Lib.hid (kp_below H.out K9 (by omega))
            clear K9 hHeld
            refine hK.out _ _ ⟨P, Q, N⟩ (fun hHeld => ?_)
            clear hK K
            try simp only [Act.put, List.getElem_toArray, List.getElem_cons_succ, List.getElem_cons_zero]
            refine wpAnyH_take (i := 12) (oi := _) (v := ?_) rfl (by kernel_rfl) (by kernel_rfl) (by kernel_rfl) (fun _ _ _ h => h) (Or.inl ⟨by rfl, ?_⟩) hHeld ?_
            rotate_left
            · intro w hSw
              try dsimp only at hSw
              go_simp
              all_goals with_reducible rfl
            try simp only [Act.put, List.getElem_toArray, List.getElem_cons_succ, List.getElem_cons_zero, List.setIfInBounds_toArray, List.set_cons_zero, List.set_cons_succ]
            refine wpAnyH_done (by kernel_rfl) ?_ _
            go_wp2_with fail
            go_meet
            exact ⟨g9, hgn, rfl, rfl, T9, P, Q, N, I.out, J.out, H.out⟩
        · skip
          rw [if_pos (by rfl)]
          refine wp_allocS rfl ?_
          intro g9 wa8 B hg0 T9
          have hgn := Nat.lt_of_lt_of_le N.lt hg0
          clear hg0
          replace P := P.step B
          replace Q := Q.step B
          replace N := N.step B
          replace I := Lib.hid (I.out.step B)
          replace J := Lib.hid (J.out.step B)
          replace I1 := Lib.hid (I1.out.step B)
          replace J1 := Lib.hid (J1.out.step B)
          replace H := Lib.hid (bl_trans H.out B)
          clear B hHeld
          refine hK.out _ _ ⟨P, Q, N⟩ (fun hHeld => ?_)
          clear hK K
          try simp only [Act.put, List.getElem_toArray, List.getElem_cons_succ, List.getElem_cons_zero, List.setIfInBounds_toArray, List.set_cons_zero, List.set_cons_succ]
          refine wpAnyH_ready (rs := [5]) (by kernel_rfl) (by simp) ?_
          apply AllReadyH.cons rfl ?_ AllReadyH.nil
          intro K hK
          rw [if_pos (by rfl)]
          refine wp_call_fn ⟨_, Tryd.func36, by kernel_rfl, by rfl⟩ _ _ rfl #[inp is ip iz] (by simp only [List.map_toArray, List.map_cons, List.map_nil]; rfl) (toInput_any is ip iz _) (bel_back fun wa9 B => ?_)
          replace P := P.step B
          replace Q := Q.step B
          replace N := N.step B
          replace T9 := T9.step B
          replace I := Lib.hid (I.out.step B)
          replace J := Lib.hid (J.out.step B)
          replace I1 := Lib.hid (I1.out.step B)
          replace J1 := Lib.hid (J1.out.step B)
          replace H := Lib.hid (bl_trans H.out B)
          clear B hHeld
          refine hK.out _ _ ⟨P, Q, N⟩ (fun hHeld => ?_)
          clear hK K
          try simp only [Act.put, List.getElem_toArray, List.getElem_cons_succ, List.getElem_cons_zero, List.setIfInBounds_toArray, List.set_cons_zero, List.set_cons_succ]
          refine wpAnyH_ready (rs := [6]) (by kernel_rfl) (by simp) ?_
          apply AllReadyH.cons rfl ?_ AllReadyH.nil
          intro K hK
          rw [if_pos (by rfl)]
          refine wp_call_fn ⟨_, Tryd.func21, by kernel_rfl, by rfl⟩ _ _ rfl #[lev i t x y (some ⟨u1, 0, none⟩) n n (some ⟨v1, 0, none⟩) m m p q s z b, sta sk sa sb sc sd su sg sx sy, inp is ip iz] (by simp only [List.map_toArray, List.map_cons, List.map_nil]; rfl) (CS.out u1 v1 _ I1.out J1.out) (bel_back fun wa10 B => ?_)
          replace P := P.step B
          replace Q := Q.step B
          replace N := N.step B
          replace T9 := T9.step B
          replace I := Lib.hid (I.out.step B)
          replace J := Lib.hid (J.out.step B)
          replace I1 := Lib.hid (I1.out.step B)
          replace J1 := Lib.hid (J1.out.step B)
          replace H := Lib.hid (bl_trans H.out B)
          clear B hHeld
          refine hK.out _ _ ⟨P, Q, N⟩ (fun hHeld => ?_)
          clear hK K
          try simp only [Act.put, List.getElem_toArray, List.getElem_cons_succ, List.getElem_cons_zero, List.setIfInBounds_toArray, List.set_cons_zero, List.set_cons_succ]
          refine wpAnyH_take (i := 7) (oi := _) (v := ?_) rfl (by kernel_rfl) (by kernel_rfl) (by kernel_rfl) (fun _ _ _ h => h) (Or.inl ⟨by rfl, ?_⟩) hHeld ?_
          rotate_left
          · intro w hSw
            try dsimp only at hSw
            go_simp
            all_goals with_reducible rfl
          try simp only [Act.put, List.getElem_toArray, List.getElem_cons_succ, List.getElem_cons_zero, List.setIfInBounds_toArray, List.set_cons_zero, List.set_cons_succ]
          refine wpAnyH_take (i := 8) (oi := _) (v := ?_) rfl (by kernel_rfl) (by kernel_rfl) (by kernel_rfl) (fun _ _ _ h => h) (Or.inl ⟨by rfl, ?_⟩) hHeld ?_
          rotate_left
          · intro w hSw
            try dsimp only at hSw
            go_simp
            all_goals with_reducible rfl
          try simp only [Act.put, List.getElem_toArray, List.getElem_cons_succ, List.getElem_cons_zero, List.setIfInBounds_toArray, List.set_cons_zero, List.set_cons_succ]
          refine wpAnyH_take (i := 9) (oi := _) (v := ?_) rfl (by kernel_rfl) (by kernel_rfl) (by kernel_rfl) (fun _ _ _ h => h) (Or.inl ⟨by rfl, ?_⟩) hHeld ?_
          rotate_left
          · intro w hSw
            try dsimp only at hSw
            go_simp
            all_goals with_reducible rfl
          try simp only [Act.put, List.getElem_toArray, List.getElem_cons_succ, List.getElem_cons_zero, List.setIfInBounds_toArray, List.set_cons_zero, List.set_cons_succ]
          refine wpAnyH_ready (rs := [11]) (by kernel_rfl) (by simp) ?_
          apply AllReadyH.cons rfl ?_ AllReadyH.nil
          intro K hK
          rw [if_pos (by rfl)]
          refine wp_store_new 31 (.tmp 8) (.tmp 26) rfl g9 rfl (stv K' X' Y' P' Q' U' V' D' O') rfl _ T9 (by simp) state_size rfl ?_
          intro w9 K9 N9
          replace T9 := N9
          replace P := P.kept K9 (by omega)
          replace Q := Q.kept K9 (by omega)
          replace N := N.kept K9 (by omega)
          replace I := Lib.hid (I.out.kept K9 (fun h0 g off e => by have := nA.out h0 g off e; omega))
          replace J := Lib.hid (J.out.kept K9 (fun h0 g off e => by have := nG.out h0 g off e; omega))
          replace H := Lib.hid (kp_below H.out K9 (by omega))
          clear K9 hHeld
          refine hK.out _ _ ⟨P, Q, N⟩ (fun hHeld => ?_)
          clear hK K
          try simp only [Act.put, List.getElem_toArray, List.getElem_cons_succ, List.getElem_cons_zero]
          refine wpAnyH_take (i := 12) (oi := _) (v := ?_) rfl (by kernel_rfl) (by kernel_rfl) (by kernel_rfl) (fun _ _ _ h => h) (Or.inl ⟨by rfl, ?_⟩) hHeld ?_
          rotate_left
          · intro w hSw
            try dsimp only at hSw
            go_simp
            all_goals with_reducible rfl
          try simp only [Act.put, List.getElem_toArray, List.getElem_cons_succ, List.getElem_cons_zero, List.setIfInBounds_toArray, List.set_cons_zero, List.set_cons_succ]
          refine wpAnyH_done (by kernel_rfl) ?_ _
          go_wp2_with fail
          go_meet
          exact ⟨g9, hgn, rfl, rfl, T9, P, Q, N, I.out, J.out, H.out⟩
      · skip
        rw [if_pos (by rfl)]
        refine wp_allocS rfl ?_
        intro g9 wa11 B hg0 T9
        have hgn := Nat.lt_of_lt_of_le N.lt hg0
        clear hg0
        replace P := P.step B
        replace Q := Q.step B
        replace N := N.step B
        replace I := Lib.hid (I.out.step B)
        replace J := Lib.hid (J.out.step B)
        replace I1 := Lib.hid (I1.out.step B)
        replace J1 := Lib.hid (J1.out.step B)
        replace H := Lib.hid (bl_trans H.out B)
        clear B hHeld
        refine hK.out _ _ ⟨P, Q, N⟩ (fun hHeld => ?_)
        clear hK K
        try simp only [Act.put, List.getElem_toArray, List.getElem_cons_succ, List.getElem_cons_zero, List.setIfInBounds_toArray, List.set_cons_zero, List.set_cons_succ]
        refine wpAnyH_ready (rs := [3]) (by kernel_rfl) (by simp) ?_
        apply AllReadyH.cons rfl ?_ AllReadyH.nil
        intro K hK
        rw [if_pos (by rfl)]
        refine wp_call_fn ⟨_, Tryd.func35, by kernel_rfl, by rfl⟩ _ _ rfl #[sta sk sa sb sc sd su sg sx sy] (by simp only [List.map_toArray, List.map_cons, List.map_nil]; rfl) (toState_any sk sa sb sc sd su sg sx sy _) (bel_back fun wa12 B => ?_)
        replace P := P.step B
        replace Q := Q.step B
        replace N := N.step B
        replace T9 := T9.step B
        replace I := Lib.hid (I.out.step B)
        replace J := Lib.hid (J.out.step B)
        replace I1 := Lib.hid (I1.out.step B)
        replace J1 := Lib.hid (J1.out.step B)
        replace H := Lib.hid (bl_trans H.out B)
        clear B hHeld
        refine hK.out _ _ ⟨P, Q, N⟩ (fun hHeld => ?_)
        clear hK K
        try simp only [Act.put, List.getElem_toArray, List.getElem_cons_succ, List.getElem_cons_zero, List.setIfInBounds_toArray, List.set_cons_zero, List.set_cons_succ]
        refine wpAnyH_ready (rs := [5]) (by kernel_rfl) (by simp) ?_
        apply AllReadyH.cons rfl ?_ AllReadyH.nil
        intro K hK
        rw [if_pos (by rfl)]
        refine wp_call_fn ⟨_, Tryd.func36, by kernel_rfl, by rfl⟩ _ _ rfl #[inp is ip iz] (by simp only [List.map_toArray, List.map_cons, List.map_nil]; rfl) (toInput_any is ip iz _) (bel_back fun wa13 B => ?_)
        replace P := P.step B
        replace Q := Q.step B
        replace N := N.step B
        replace T9 := T9.step B
        replace I := Lib.hid (I.out.step B)
        replace J := Lib.hid (J.out.step B)
        replace I1 := Lib.hid (I1.out.step B)
        replace J1 := Lib.hid (J1.out.step B)
        replace H := Lib.hid (bl_trans H.out B)
        clear B hHeld
        refine hK.out _ _ ⟨P, Q, N⟩ (fun hHeld => ?_)
        clear hK K
        try simp only [Act.put, List.getElem_toArray, List.getElem_cons_succ, List.getElem_cons_zero, List.setIfInBounds_toArray, List.set_cons_zero, List.set_cons_succ]
        refine wpAnyH_ready (rs := [6]) (by kernel_rfl) (by simp) ?_
        apply AllReadyH.cons rfl ?_ AllReadyH.nil
        intro K hK
        rw [if_pos (by rfl)]
        refine wp_call_fn ⟨_, Tryd.func21, by kernel_rfl, by rfl⟩ _ _ rfl #[lev i t x y (some ⟨u1, 0, none⟩) n n (some ⟨v1, 0, none⟩) m m p q s z b, sta sk sa sb sc sd su sg sx sy, inp is ip iz] (by simp only [List.map_toArray, List.map_cons, List.map_nil]; rfl) (CS.out u1 v1 _ I1.out J1.out) (bel_back fun wa14 B => ?_)
        replace P := P.step B
        replace Q := Q.step B
        replace N := N.step B
        replace T9 := T9.step B
        replace I := Lib.hid (I.out.step B)
        replace J := Lib.hid (J.out.step B)
        replace I1 := Lib.hid (I1.out.step B)
        replace J1 := Lib.hid (J1.out.step B)
        replace H := Lib.hid (bl_trans H.out B)
        clear B hHeld
        refine hK.out _ _ ⟨P, Q, N⟩ (fun hHeld => ?_)
        clear hK K
        try simp only [Act.put, List.getElem_toArray, List.getElem_cons_succ, List.getElem_cons_zero, List.setIfInBounds_toArray, List.set_cons_zero, List.set_cons_succ]
        refine wpAnyH_take (i := 7) (oi := _) (v := ?_) rfl (by kernel_rfl) (by kernel_rfl) (by kernel_rfl) (fun _ _ _ h => h) (Or.inl ⟨by rfl, ?_⟩) hHeld ?_
        rotate_left
        · intro w hSw
          try dsimp only at hSw
          go_simp
          all_goals with_reducible rfl
        try simp only [Act.put, List.getElem_toArray, List.getElem_cons_succ, List.getElem_cons_zero, List.setIfInBounds_toArray, List.set_cons_zero, List.set_cons_succ]
        refine wpAnyH_take (i := 8) (oi := _) (v := ?_) rfl (by kernel_rfl) (by kernel_rfl) (by kernel_rfl) (fun _ _ _ h => h) (Or.inl ⟨by rfl, ?_⟩) hHeld ?_
        rotate_left
        · intro w hSw
          try dsimp only at hSw
          go_simp
          all_goals with_reducible rfl
        try simp only [Act.put, List.getElem_toArray, List.getElem_cons_succ, List.getElem_cons_zero, List.setIfInBounds_toArray, List.set_cons_zero, List.set_cons_succ]
        refine wpAnyH_take (i := 9) (oi := _) (v := ?_) rfl (by kernel_rfl) (by kernel_rfl) (by kernel_rfl) (fun _ _ _ h => h) (Or.inl ⟨by rfl, ?_⟩) hHeld ?_
        rotate_left
        · intro w hSw
          try dsimp only at hSw
          go_simp
          all_goals with_reducible rfl
        try simp only [Act.put, List.getElem_toArray, List.getElem_cons_succ, List.getElem_cons_zero, List.setIfInBounds_toArray, List.set_cons_zero, List.set_cons_succ]
        refine wpAnyH_ready (rs := [11]) (by kernel_rfl) (by simp) ?_
        apply AllReadyH.cons rfl ?_ AllReadyH.nil
        intro K hK
        rw [if_pos (by rfl)]
        refine wp_store_new 31 (.tmp 8) (.tmp 26) rfl g9 rfl (stv K' X' Y' P' Q' U' V' D' O') rfl _ T9 (by simp) state_size rfl ?_
        intro w9 K9 N9
        replace T9 := N9
        replace P := P.kept K9 (by omega)
        replace Q := Q.kept K9 (by omega)
        replace N := N.kept K9 (by omega)
        replace I := Lib.hid (I.out.kept K9 (fun h0 g off e => by have := nA.out h0 g off e; omega))
        replace J := Lib.hid (J.out.kept K9 (fun h0 g off e => by have := nG.out h0 g off e; omega))
        replace H := Lib.hid (kp_below H.out K9 (by omega))
        clear K9 hHeld
        refine hK.out _ _ ⟨P, Q, N⟩ (fun hHeld => ?_)
        clear hK K
        try simp only [Act.put, List.getElem_toArray, List.getElem_cons_succ, List.getElem_cons_zero]
        refine wpAnyH_take (i := 12) (oi := _) (v := ?_) rfl (by kernel_rfl) (by kernel_rfl) (by kernel_rfl) (fun _ _ _ h => h) (Or.inl ⟨by rfl, ?_⟩) hHeld ?_
        rotate_left
        · intro w hSw
          try dsimp only at hSw
          go_simp
          all_goals with_reducible rfl
        try simp only [Act.put, List.getElem_toArray, List.getElem_cons_succ, List.getElem_cons_zero, List.setIfInBounds_toArray, List.set_cons_zero, List.set_cons_succ]
        refine wpAnyH_done (by kernel_rfl) ?_ _
        go_wp2_with fail
        go_meet
        exact ⟨g9, hgn, rfl, rfl, T9, P, Q, N, I.out, J.out, H.out⟩
    · skip
      rw [if_pos (by rfl)]
      refine wp_allocS rfl ?_
      intro g9 wa15 B hg0 T9
      have hgn := Nat.lt_of_lt_of_le N.lt hg0
      clear hg0
      replace P := P.step B
      replace Q := Q.step B
      replace N := N.step B
      replace I := Lib.hid (I.out.step B)
      replace J := Lib.hid (J.out.step B)
      replace H := Lib.hid (bl_trans H.out B)
      clear B hHeld
      refine hK.out _ _ ⟨P, Q, N⟩ (fun hHeld => ?_)
      clear hK K
      try simp only [Act.put, List.getElem_toArray, List.getElem_cons_succ, List.getElem_cons_zero, List.setIfInBounds_toArray, List.set_cons_zero, List.set_cons_succ]
      refine wpAnyH_ready (rs := [1]) (by kernel_rfl) (by simp) ?_
      apply AllReadyH.cons rfl ?_ AllReadyH.nil
      intro K hK
      rw [if_pos (by rfl)]
      refine wp_call_fn ⟨_, Tryd.func34, by kernel_rfl, by rfl⟩ _ _ rfl #[lev i t x y A n c G m kk p q s z b] (by simp only [List.map_toArray, List.map_cons, List.map_nil]; rfl) (toLevel_any i t x y A n c G m kk p q s z b ws gs _ I.out J.out h1 h2) ?_
      rintro e wa16 ⟨u1, v1, rfl, I1, J1, B⟩
      refine ⟨_, rfl, ?_⟩
      replace I1 := Lib.hid I1
      replace J1 := Lib.hid J1
      replace P := P.step B
      replace Q := Q.step B
      replace N := N.step B
      replace T9 := T9.step B
      replace I := Lib.hid (I.out.step B)
      replace J := Lib.hid (J.out.step B)
      replace H := Lib.hid (bl_trans H.out B)
      clear B hHeld
      refine hK.out _ _ ⟨P, Q, N⟩ (fun hHeld => ?_)
      clear hK K
      try simp only [Act.put, List.getElem_toArray, List.getElem_cons_succ, List.getElem_cons_zero, List.setIfInBounds_toArray, List.set_cons_zero, List.set_cons_succ]
      refine wpAnyH_ready (rs := [3]) (by kernel_rfl) (by simp) ?_
      apply AllReadyH.cons rfl ?_ AllReadyH.nil
      intro K hK
      rw [if_pos (by rfl)]
      refine wp_call_fn ⟨_, Tryd.func35, by kernel_rfl, by rfl⟩ _ _ rfl #[sta sk sa sb sc sd su sg sx sy] (by simp only [List.map_toArray, List.map_cons, List.map_nil]; rfl) (toState_any sk sa sb sc sd su sg sx sy _) (bel_back fun wa17 B => ?_)
      replace P := P.step B
      replace Q := Q.step B
      replace N := N.step B
      replace T9 := T9.step B
      replace I := Lib.hid (I.out.step B)
      replace J := Lib.hid (J.out.step B)
      replace I1 := Lib.hid (I1.out.step B)
      replace J1 := Lib.hid (J1.out.step B)
      replace H := Lib.hid (bl_trans H.out B)
      clear B hHeld
      refine hK.out _ _ ⟨P, Q, N⟩ (fun hHeld => ?_)
      clear hK K
      try simp only [Act.put, List.getElem_toArray, List.getElem_cons_succ, List.getElem_cons_zero, List.setIfInBounds_toArray, List.set_cons_zero, List.set_cons_succ]
      refine wpAnyH_ready (rs := [5]) (by kernel_rfl) (by simp) ?_
      apply AllReadyH.cons rfl ?_ AllReadyH.nil
      intro K hK
      rw [if_pos (by rfl)]
      refine wp_call_fn ⟨_, Tryd.func36, by kernel_rfl, by rfl⟩ _ _ rfl #[inp is ip iz] (by simp only [List.map_toArray, List.map_cons, List.map_nil]; rfl) (toInput_any is ip iz _) (bel_back fun wa18 B => ?_)
      replace P := P.step B
      replace Q := Q.step B
      replace N := N.step B
      replace T9 := T9.step B
      replace I := Lib.hid (I.out.step B)
      replace J := Lib.hid (J.out.step B)
      replace I1 := Lib.hid (I1.out.step B)
      replace J1 := Lib.hid (J1.out.step B)
      replace H := Lib.hid (bl_trans H.out B)
      clear B hHeld
      refine hK.out _ _ ⟨P, Q, N⟩ (fun hHeld => ?_)
      clear hK K
      try simp only [Act.put, List.getElem_toArray, List.getElem_cons_succ, List.getElem_cons_zero, List.setIfInBounds_toArray, List.set_cons_zero, List.set_cons_succ]
      refine wpAnyH_ready (rs := [6]) (by kernel_rfl) (by simp) ?_
      apply AllReadyH.cons rfl ?_ AllReadyH.nil
      intro K hK
      rw [if_pos (by rfl)]
      refine wp_call_fn ⟨_, Tryd.func21, by kernel_rfl, by rfl⟩ _ _ rfl #[lev i t x y (some ⟨u1, 0, none⟩) n n (some ⟨v1, 0, none⟩) m m p q s z b, sta sk sa sb sc sd su sg sx sy, inp is ip iz] (by simp only [List.map_toArray, List.map_cons, List.map_nil]; rfl) (CS.out u1 v1 _ I1.out J1.out) (bel_back fun wa19 B => ?_)
      replace P := P.step B
      replace Q := Q.step B
      replace N := N.step B
      replace T9 := T9.step B
      replace I := Lib.hid (I.out.step B)
      replace J := Lib.hid (J.out.step B)
      replace I1 := Lib.hid (I1.out.step B)
      replace J1 := Lib.hid (J1.out.step B)
      replace H := Lib.hid (bl_trans H.out B)
      clear B hHeld
      refine hK.out _ _ ⟨P, Q, N⟩ (fun hHeld => ?_)
      clear hK K
      try simp only [Act.put, List.getElem_toArray, List.getElem_cons_succ, List.getElem_cons_zero, List.setIfInBounds_toArray, List.set_cons_zero, List.set_cons_succ]
      refine wpAnyH_take (i := 7) (oi := _) (v := ?_) rfl (by kernel_rfl) (by kernel_rfl) (by kernel_rfl) (fun _ _ _ h => h) (Or.inl ⟨by rfl, ?_⟩) hHeld ?_
      rotate_left
      · intro w hSw
        try dsimp only at hSw
        go_simp
        all_goals with_reducible rfl
      try simp only [Act.put, List.getElem_toArray, List.getElem_cons_succ, List.getElem_cons_zero, List.setIfInBounds_toArray, List.set_cons_zero, List.set_cons_succ]
      refine wpAnyH_take (i := 8) (oi := _) (v := ?_) rfl (by kernel_rfl) (by kernel_rfl) (by kernel_rfl) (fun _ _ _ h => h) (Or.inl ⟨by rfl, ?_⟩) hHeld ?_
      rotate_left
      · intro w hSw
        try dsimp only at hSw
        go_simp
        all_goals with_reducible rfl
      try simp only [Act.put, List.getElem_toArray, List.getElem_cons_succ, List.getElem_cons_zero, List.setIfInBounds_toArray, List.set_cons_zero, List.set_cons_succ]
      refine wpAnyH_take (i := 9) (oi := _) (v := ?_) rfl (by kernel_rfl) (by kernel_rfl) (by kernel_rfl) (fun _ _ _ h => h) (Or.inl ⟨by rfl, ?_⟩) hHeld ?_
      rotate_left
      · intro w hSw
        try dsimp only at hSw
        go_simp
        all_goals with_reducible rfl
      try simp only [Act.put, List.getElem_toArray, List.getElem_cons_succ, List.getElem_cons_zero, List.setIfInBounds_toArray, List.set_cons_zero, List.set_cons_succ]
      refine wpAnyH_ready (rs := [11]) (by kernel_rfl) (by simp) ?_
      apply AllReadyH.cons rfl ?_ AllReadyH.nil
      intro K hK
      rw [if_pos (by rfl)]
      refine wp_store_new 31 (.tmp 8) (.tmp 26) rfl g9 rfl (stv K' X' Y' P' Q' U' V' D' O') rfl _ T9 (by simp) state_size rfl ?_
      intro w9 K9 N9
      replace T9 := N9
      replace P := P.kept K9 (by omega)
      replace Q := Q.kept K9 (by omega)
      replace N := N.kept K9 (by omega)
      replace I := Lib.hid (I.out.kept K9 (fun h0 g off e => by have := nA.out h0 g off e; omega))
      replace J := Lib.hid (J.out.kept K9 (fun h0 g off e => by have := nG.out h0 g off e; omega))
      replace H := Lib.hid (kp_below H.out K9 (by omega))
      clear K9 hHeld
      refine hK.out _ _ ⟨P, Q, N⟩ (fun hHeld => ?_)
      clear hK K
      try simp only [Act.put, List.getElem_toArray, List.getElem_cons_succ, List.getElem_cons_zero]
      refine wpAnyH_take (i := 12) (oi := _) (v := ?_) rfl (by kernel_rfl) (by kernel_rfl) (by kernel_rfl) (fun _ _ _ h => h) (Or.inl ⟨by rfl, ?_⟩) hHeld ?_
      rotate_left
      · intro w hSw
        try dsimp only at hSw
        go_simp
        all_goals with_reducible rfl
      try simp only [Act.put, List.getElem_toArray, List.getElem_cons_succ, List.getElem_cons_zero, List.setIfInBounds_toArray, List.set_cons_zero, List.set_cons_succ]
      refine wpAnyH_done (by kernel_rfl) ?_ _
      go_wp2_with fail
      go_meet
      exact ⟨g9, hgn, rfl, rfl, T9, P, Q, N, I.out, J.out, H.out⟩
  case rest =>
    obtain ⟨g, hg, rfl, rfl, T, P, Q, N, I, J, H⟩ := hcut
    clear CS
    replace I := Lib.hid I
    replace J := Lib.hid J
    replace H := Lib.hid H
    have Pc0 := P.cell 0 _ rfl
    have Pc1 := P.cell 1 _ rfl
    have Pc2 := P.cell 2 _ rfl
    have Pc3 := P.cell 3 _ rfl
    have Pc4 := P.cell 4 _ rfl
    have Pc5 := P.cell 5 _ rfl
    have Pc6 := P.cell 6 _ rfl
    have Pc7 := P.cell 7 _ rfl
    have Pc8 := P.cell 8 _ rfl
    have Pc9 := P.cell 9 _ rfl
    have Pc10 := P.cell 10 _ rfl
    have Pl := P.lt
    have Qc0 := Q.cell 0 _ rfl
    have Qc1 := Q.cell 1 _ rfl
    have Qc2 := Q.cell 2 _ rfl
    have Qc3 := Q.cell 3 _ rfl
    have Qc4 := Q.cell 4 _ rfl
    have Qc5 := Q.cell 5 _ rfl
    have Qc6 := Q.cell 6 _ rfl
    have Qc7 := Q.cell 7 _ rfl
    have Qc8 := Q.cell 8 _ rfl
    have Ql := Q.lt
    have Nc0 := N.cell 0 _ rfl
    have Nc1 := N.cell 1 _ rfl
    have Nc2 := N.cell 2 _ rfl
    have Nl := N.lt
    have Tc0 := T.cell 0 _ rfl
    have Tc1 := T.cell 1 _ rfl
    have Tc2 := T.cell 2 _ rfl
    have Tc3 := T.cell 3 _ rfl
    have Tc4 := T.cell 4 _ rfl
    have Tc5 := T.cell 5 _ rfl
    have Tc6 := T.cell 6 _ rfl
    have Tc7 := T.cell 7 _ rfl
    have Tc8 := T.cell 8 _ rfl
    have Tl := T.lt
    go_wp2_with fail
    refine (toLevel_any i t x y A n c G m kk p q s z b ws gs _ I.out J.out h1 h2).mono ?_
    rintro e w6 ⟨u2, v2, rfl, I2, J2, B⟩
    clear Pc0 Pc1 Pc2 Pc3 Pc4 Pc5 Pc6 Pc7 Pc8 Pc9 Pc10 Pl Qc0 Qc1 Qc2 Qc3 Qc4 Qc5 Qc6 Qc7 Qc8 Ql Nc0 Nc1 Nc2 Nl Tc0 Tc1 Tc2 Tc3 Tc4 Tc5 Tc6 Tc7 Tc8 Tl
    replace P := P.step B
    replace Q := Q.step B
    replace N := N.step B
    replace T := T.step B
    replace I := Lib.hid (I.out.step B)
    replace J := Lib.hid (J.out.step B)
    replace H := Lib.hid (bl_trans H.out B)
    clear B
    replace I2 := Lib.hid I2
    replace J2 := Lib.hid J2
    have Pc0 := P.cell 0 _ rfl
    have Pc1 := P.cell 1 _ rfl
    have Pc2 := P.cell 2 _ rfl
    have Pc3 := P.cell 3 _ rfl
    have Pc4 := P.cell 4 _ rfl
    have Pc5 := P.cell 5 _ rfl
    have Pc6 := P.cell 6 _ rfl
    have Pc7 := P.cell 7 _ rfl
    have Pc8 := P.cell 8 _ rfl
    have Pc9 := P.cell 9 _ rfl
    have Pc10 := P.cell 10 _ rfl
    have Pl := P.lt
    have Qc0 := Q.cell 0 _ rfl
    have Qc1 := Q.cell 1 _ rfl
    have Qc2 := Q.cell 2 _ rfl
    have Qc3 := Q.cell 3 _ rfl
    have Qc4 := Q.cell 4 _ rfl
    have Qc5 := Q.cell 5 _ rfl
    have Qc6 := Q.cell 6 _ rfl
    have Qc7 := Q.cell 7 _ rfl
    have Qc8 := Q.cell 8 _ rfl
    have Ql := Q.lt
    have Nc0 := N.cell 0 _ rfl
    have Nc1 := N.cell 1 _ rfl
    have Nc2 := N.cell 2 _ rfl
    have Nl := N.lt
    have Tc0 := T.cell 0 _ rfl
    have Tc1 := T.cell 1 _ rfl
    have Tc2 := T.cell 2 _ rfl
    have Tc3 := T.cell 3 _ rfl
    have Tc4 := T.cell 4 _ rfl
    have Tc5 := T.cell 5 _ rfl
    have Tc6 := T.cell 6 _ rfl
    have Tc7 := T.cell 7 _ rfl
    have Tc8 := T.cell 8 _ rfl
    have Tl := T.lt
    go_upto_region 7 with fail
    clear Pc0 Pc1 Pc2 Pc3 Pc4 Pc5 Pc6 Pc7 Pc8 Pc9 Pc10 Pl Qc0 Qc1 Qc2 Qc3 Qc4 Qc5 Qc6 Qc7 Qc8 Ql Nc0 Nc1 Nc2 Nl Tc0 Tc1 Tc2 Tc3 Tc4 Tc5 Tc6 Tc7 Tc8 Tl
    have X : CellsAt (w6.alloc (.cells #[.int .i64 i, .int .i64 t, .int .i64 x, .int .i64 y, .slice (some ⟨u2, 0, none⟩) n n, .slice (some ⟨v2, 0, none⟩) m m, .int .i64 p, .int .i64 q, .int .i64 s, .int .i64 z, .int .i64 b] 29)) w6.heap.size (lvs i t x y (some ⟨u2, 0, none⟩) n n (some ⟨v2, 0, none⟩) m m p q s z b) := CellsAt.new _ _ _ _ rfl
    replace P := P.alloc (.cells #[.int .i64 i, .int .i64 t, .int .i64 x, .int .i64 y, .slice (some ⟨u2, 0, none⟩) n n, .slice (some ⟨v2, 0, none⟩) m m, .int .i64 p, .int .i64 q, .int .i64 s, .int .i64 z, .int .i64 b] 29)
    replace Q := Q.alloc (.cells #[.int .i64 i, .int .i64 t, .int .i64 x, .int .i64 y, .slice (some ⟨u2, 0, none⟩) n n, .slice (some ⟨v2, 0, none⟩) m m, .int .i64 p, .int .i64 q, .int .i64 s, .int .i64 z, .int .i64 b] 29)
    replace N := N.alloc (.cells #[.int .i64 i, .int .i64 t, .int .i64 x, .int .i64 y, .slice (some ⟨u2, 0, none⟩) n n, .slice (some ⟨v2, 0, none⟩) m m, .int .i64 p, .int .i64 q, .int .i64 s, .int .i64 z, .int .i64 b] 29)
    replace T := T.alloc (.cells #[.int .i64 i, .int .i64 t, .int .i64 x, .int .i64 y, .slice (some ⟨u2, 0, none⟩) n n, .slice (some ⟨v2, 0, none⟩) m m, .int .i64 p, .int .i64 q, .int .i64 s, .int .i64 z, .int .i64 b] 29)
    replace I := Lib.hid (I.out.alloc (.cells #[.int .i64 i, .int .i64 t, .int .i64 x, .int .i64 y, .slice (some ⟨u2, 0, none⟩) n n, .slice (some ⟨v2, 0, none⟩) m m, .int .i64 p, .int .i64 q, .int .i64 s, .int .i64 z, .int .i64 b] 29))
    replace J := Lib.hid (J.out.alloc (.cells #[.int .i64 i, .int .i64 t, .int .i64 x, .int .i64 y, .slice (some ⟨u2, 0, none⟩) n n, .slice (some ⟨v2, 0, none⟩) m m, .int .i64 p, .int .i64 q, .int .i64 s, .int .i64 z, .int .i64 b] 29))
    replace I2 := Lib.hid (I2.out.alloc (.cells #[.int .i64 i, .int .i64 t, .int .i64 x, .int .i64 y, .slice (some ⟨u2, 0, none⟩) n n, .slice (some ⟨v2, 0, none⟩) m m, .int .i64 p, .int .i64 q, .int .i64 s, .int .i64 z, .int .i64 b] 29))
    replace J2 := Lib.hid (J2.out.alloc (.cells #[.int .i64 i, .int .i64 t, .int .i64 x, .int .i64 y, .slice (some ⟨u2, 0, none⟩) n n, .slice (some ⟨v2, 0, none⟩) m m, .int .i64 p, .int .i64 q, .int .i64 s, .int .i64 z, .int .i64 b] 29))
    replace H := Lib.hid (bl_alloc H.out (.cells #[.int .i64 i, .int .i64 t, .int .i64 x, .int .i64 y, .slice (some ⟨u2, 0, none⟩) n n, .slice (some ⟨v2, 0, none⟩) m m, .int .i64 p, .int .i64 q, .int .i64 s, .int .i64 z, .int .i64 b] 29))
    have hgx := T.lt
    have hxx := X.lt
    go_cut [11, 12] (StepEnd w g w6.heap.size u2 v2 i t x y A n c G m kk p q s z b ws gs sk sa sb sc sd su sg sx sy is ip iz K' X' Y' P' Q' U' V' D' O' rr)
    case first =>
      refine wp_region_held_drew (S := fun w' => CellsAt w' w6.heap.size (lvs i t x y (some ⟨u2, 0, none⟩) n n (some ⟨v2, 0, none⟩) m m p q s z b) ∧ CellsAt w' (w.heap.size + 1) (stv sk sa sb sc sd su sg sx sy) ∧ CellsAt w' (w.heap.size + 1 + 1) (ins is ip iz)) (by kernel_rfl) ⟨X.drew, Q.drew, N.drew⟩ (fun hHeld => ?_)
      replace P := P.drew
      replace Q := Q.drew
      replace N := N.drew
      replace T := T.drew
      replace X := X.drew
      replace I := Lib.hid I.out.drew
      replace J := Lib.hid J.out.drew
      replace I2 := Lib.hid I2.out.drew
      replace J2 := Lib.hid J2.out.drew
      replace H := Lib.hid (bl_drew1 H.out)
      refine wpAnyH_take (i := 0) (oi := _) (v := .agg (lvs i t x y (some ⟨u2, 0, none⟩) n n (some ⟨v2, 0, none⟩) m m p q s z b).toArray) rfl (by kernel_rfl) (by kernel_rfl) (by kernel_rfl) (fun _ _ _ h => h) (yieldsIf_load_mid (by rfl) 29 (.tmp 10) rfl w6.heap.size 0 rfl (lvs i t x y (some ⟨u2, 0, none⟩) n n (some ⟨v2, 0, none⟩) m m p q s z b) _ (fun W hS => hS.1.range) Tryd.underlying29 rfl level_size) hHeld ?_
      try simp only [Act.put, List.getElem_toArray, List.getElem_cons_zero, List.setIfInBounds_toArray, List.set_cons_zero, List.set_cons_succ]
      refine wpAnyH_take (i := 1) (oi := _) (v := .agg (stv sk sa sb sc sd su sg sx sy).toArray) rfl (by kernel_rfl) (by kernel_rfl) (by kernel_rfl) (fun _ _ _ h => h) (yieldsIf_load_mid (by rfl) 57 (.tmp 4) rfl (w.heap.size + 1) 0 rfl (stv sk sa sb sc sd su sg sx sy) _ (fun W hS => hS.2.1.range) Tryd.underlying57 rfl lawst_size) hHeld ?_
      try simp only [Act.put, List.getElem_toArray, List.getElem_cons_succ, List.getElem_cons_zero, List.setIfInBounds_toArray, List.set_cons_zero, List.set_cons_succ]
      refine wpAnyH_take (i := 3) (oi := _) (v := .agg (ins is ip iz).toArray) rfl (by kernel_rfl) (by kernel_rfl) (by kernel_rfl) (fun _ _ _ h => h) (yieldsIf_load_mid (by rfl) 58 (.tmp 5) rfl (w.heap.size + 1 + 1) 0 rfl (ins is ip iz) _ (fun W hS => hS.2.2.range) Tryd.underlying58 rfl lawin_size) hHeld ?_
      try simp only [Act.put, List.getElem_toArray, List.getElem_cons_succ, List.getElem_cons_zero, List.setIfInBounds_toArray, List.set_cons_zero, List.set_cons_succ]
      refine wpAnyH_ready (rs := [2, 9]) (by kernel_rfl) (by simp) ?_
      refine (AllReadyH.cons (o := _) rfl (fun K hK => ?_) (AllReadyH.cons (o := _) rfl (fun K hK => ?_) AllReadyH.nil))
      · skip
        rw [if_pos (by rfl)]
        refine wp_call_fn ⟨_, Tryd.func35, by kernel_rfl, by rfl⟩ _ _ rfl #[sta sk sa sb sc sd su sg sx sy] (by simp only [List.map_toArray, List.map_cons, List.map_nil]; rfl) (toState_any sk sa sb sc sd su sg sx sy _) (bel_back fun wa1 B => ?_)
        replace P := P.step B
        replace Q := Q.step B
        replace N := N.step B
        replace T := T.step B
        replace X := X.step B
        replace I := Lib.hid (I.out.step B)
        replace J := Lib.hid (J.out.step B)
        replace I2 := Lib.hid (I2.out.step B)
        replace J2 := Lib.hid (J2.out.step B)
        replace H := Lib.hid (bl_trans H.out B)
        clear B hHeld
        refine hK.out _ _ ⟨X, Q, N⟩ (fun hHeld => ?_)
        clear hK K
        try simp only [Act.put, List.getElem_toArray, List.getElem_cons_succ, List.getElem_cons_zero, List.setIfInBounds_toArray, List.set_cons_zero, List.set_cons_succ]
        refine wpAnyH_ready (rs := [4, 9]) (by kernel_rfl) (by simp) ?_
        refine (AllReadyH.cons (o := _) rfl (fun K hK => ?_) (AllReadyH.cons (o := _) rfl (fun K hK => ?_) AllReadyH.nil))
        · skip
          rw [if_pos (by rfl)]
          refine wp_call_fn ⟨_, Tryd.func36, by kernel_rfl, by rfl⟩ _ _ rfl #[inp is ip iz] (by simp only [List.map_toArray, List.map_cons, List.map_nil]; rfl) (toInput_any is ip iz _) (bel_back fun wa2 B => ?_)
          replace P := P.step B
          replace Q := Q.step B
          replace N := N.step B
          replace T := T.step B
          replace X := X.step B
          replace I := Lib.hid (I.out.step B)
          replace J := Lib.hid (J.out.step B)
          replace I2 := Lib.hid (I2.out.step B)
          replace J2 := Lib.hid (J2.out.step B)
          replace H := Lib.hid (bl_trans H.out B)
          clear B hHeld
          refine hK.out _ _ ⟨X, Q, N⟩ (fun hHeld => ?_)
          clear hK K
          try simp only [Act.put, List.getElem_toArray, List.getElem_cons_succ, List.getElem_cons_zero, List.setIfInBounds_toArray, List.set_cons_zero, List.set_cons_succ]
          refine wpAnyH_ready (rs := [5, 9]) (by kernel_rfl) (by simp) ?_
          refine (AllReadyH.cons (o := _) rfl (fun K hK => ?_) (AllReadyH.cons (o := _) rfl (fun K hK => ?_) AllReadyH.nil))
          · skip
            rw [if_pos (by rfl)]
            refine wp_call_fn ⟨_, Tryd.func20, by kernel_rfl, by rfl⟩ _ _ rfl #[lev i t x y (some ⟨u2, 0, none⟩) n n (some ⟨v2, 0, none⟩) m m p q s z b, sta sk sa sb sc sd su sg sx sy, inp is ip iz] (by simp only [List.map_toArray, List.map_cons, List.map_nil]; rfl) (CV.out u2 v2 _ I2.out J2.out (hQ.out.step H.out)) (bel_back fun wa3 B => ?_)
            replace P := P.step B
            replace Q := Q.step B
            replace N := N.step B
            replace T := T.step B
            replace X := X.step B
            replace I := Lib.hid (I.out.step B)
            replace J := Lib.hid (J.out.step B)
            replace I2 := Lib.hid (I2.out.step B)
            replace J2 := Lib.hid (J2.out.step B)
            replace H := Lib.hid (bl_trans H.out B)
            clear B hHeld
            refine hK.out _ _ ⟨X, Q, N⟩ (fun hHeld => ?_)
            clear hK K
            try simp only [Act.put, List.getElem_toArray, List.getElem_cons_succ, List.getElem_cons_zero, List.setIfInBounds_toArray, List.set_cons_zero, List.set_cons_succ]
            refine wpAnyH_take (i := 6) (oi := _) (v := ?_) rfl (by kernel_rfl) (by kernel_rfl) (by kernel_rfl) (fun _ _ _ h => h) (Or.inl ⟨by rfl, ?_⟩) hHeld ?_
            rotate_left
            · intro w hSw
              try dsimp only at hSw
              go_simp
              all_goals with_reducible rfl
            try simp only [Act.put, List.getElem_toArray, List.getElem_cons_succ, List.getElem_cons_zero, List.setIfInBounds_toArray, List.set_cons_zero, List.set_cons_succ]
            refine wpAnyH_take (i := 7) (oi := _) (v := ?_) rfl (by kernel_rfl) (by kernel_rfl) (by kernel_rfl) (fun _ _ _ h => h) (Or.inl ⟨by rfl, ?_⟩) hHeld ?_
            rotate_left
            · intro w hSw
              try dsimp only at hSw
              go_simp
              all_goals with_reducible rfl
            try simp only [Act.put, List.getElem_toArray, List.getElem_cons_succ, List.getElem_cons_zero, List.setIfInBounds_toArray, List.set_cons_zero, List.set_cons_succ]
            refine wpAnyH_take (i := 8) (oi := _) (v := ?_) rfl (by kernel_rfl) (by kernel_rfl) (by kernel_rfl) (fun _ _ _ h => h) (Or.inl ⟨by rfl, ?_⟩) hHeld ?_
            rotate_left
            · intro w hSw
              try dsimp only at hSw
              go_simp
              all_goals with_reducible rfl
            try simp only [Act.put, List.getElem_toArray, List.getElem_cons_succ, List.getElem_cons_zero, List.setIfInBounds_toArray, List.set_cons_zero, List.set_cons_succ]
            refine wpAnyH_ready (rs := [9]) (by kernel_rfl) (by simp) ?_
            apply AllReadyH.cons rfl ?_ AllReadyH.nil
            intro K hK
            rw [if_pos (by rfl)]
            refine wp_allocS rfl ?_
            intro g9 wa4 B hg0 T9
            have hgn := Nat.lt_of_lt_of_le N.lt hg0
            have hgt := Nat.lt_of_lt_of_le T.lt hg0
            have hgq := Nat.lt_of_lt_of_le X.lt hg0
            have hgu := Lib.hid (fun h0 => Nat.lt_of_lt_of_le (lt_boxesZ I2.out h0 rfl) hg0)
            have hgv := Lib.hid (fun h0 => Nat.lt_of_lt_of_le (lt_boxesZ J2.out h0 rfl) hg0)
            clear hg0
            replace P := P.step B
            replace Q := Q.step B
            replace N := N.step B
            replace T := T.step B
            replace X := X.step B
            replace I := Lib.hid (I.out.step B)
            replace J := Lib.hid (J.out.step B)
            replace I2 := Lib.hid (I2.out.step B)
            replace J2 := Lib.hid (J2.out.step B)
            replace H := Lib.hid (bl_trans H.out B)
            clear B hHeld
            refine hK.out _ _ ⟨X, Q, N⟩ (fun hHeld => ?_)
            clear hK K
            try simp only [Act.put, List.getElem_toArray, List.getElem_cons_succ, List.getElem_cons_zero, List.setIfInBounds_toArray, List.set_cons_zero, List.set_cons_succ]
            refine wpAnyH_ready (rs := [10]) (by kernel_rfl) (by simp) ?_
            apply AllReadyH.cons rfl ?_ AllReadyH.nil
            intro K hK
            rw [if_pos (by rfl)]
            refine wp_store_new 31 (.tmp 11) (.tmp 37) rfl g9 rfl (stv K' X' Y' P' Q' U' V' D' O') rfl _ T9 (by simp) state_size rfl ?_
            intro w9 K9 N9
            replace T9 := N9
            replace P := P.kept K9 (by omega)
            replace Q := Q.kept K9 (by omega)
            replace N := N.kept K9 (by omega)
            replace T := T.kept K9 (by omega)
            replace X := X.kept K9 (by omega)
            replace I := Lib.hid (I.out.kept K9 (fun h0 g off e => by have := nA.out h0 g off e; omega))
            replace J := Lib.hid (J.out.kept K9 (fun h0 g off e => by have := nG.out h0 g off e; omega))
            replace I2 := Lib.hid (I2.out.kept K9 (fun h0 g off e => by cases e; have := hgu.out h0; omega))
            replace J2 := Lib.hid (J2.out.kept K9 (fun h0 g off e => by cases e; have := hgv.out h0; omega))
            replace H := Lib.hid (kp_below H.out K9 (by omega))
            clear K9 hHeld
            refine hK.out _ _ ⟨X, Q, N⟩ (fun hHeld => ?_)
            clear hK K
            try simp only [Act.put, List.getElem_toArray, List.getElem_cons_succ, List.getElem_cons_zero]
            refine wpAnyH_take (i := 11) (oi := _) (v := ?_) rfl (by kernel_rfl) (by kernel_rfl) (by kernel_rfl) (fun _ _ _ h => h) (Or.inl ⟨by rfl, ?_⟩) hHeld ?_
            rotate_left
            · intro w hSw
              try dsimp only at hSw
              go_simp
              all_goals with_reducible rfl
            try simp only [Act.put, List.getElem_toArray, List.getElem_cons_succ, List.getElem_cons_zero, List.setIfInBounds_toArray, List.set_cons_zero, List.set_cons_succ]
            refine wpAnyH_done (by kernel_rfl) ?_ _
            go_wp2_with fail
            go_meet
            exact ⟨g9, rfl, rfl, T9, T, X, P, Q, N, I.out, J.out, I2.out, J2.out, H.out⟩
          · skip
            rw [if_pos (by rfl)]
            refine wp_allocS rfl ?_
            intro g9 wa5 B hg0 T9
            have hgn := Nat.lt_of_lt_of_le N.lt hg0
            have hgt := Nat.lt_of_lt_of_le T.lt hg0
            have hgq := Nat.lt_of_lt_of_le X.lt hg0
            have hgu := Lib.hid (fun h0 => Nat.lt_of_lt_of_le (lt_boxesZ I2.out h0 rfl) hg0)
            have hgv := Lib.hid (fun h0 => Nat.lt_of_lt_of_le (lt_boxesZ J2.out h0 rfl) hg0)
            clear hg0
            replace P := P.step B
            replace Q := Q.step B
            replace N := N.step B
            replace T := T.step B
            replace X := X.step B
            replace I := Lib.hid (I.out.step B)
            replace J := Lib.hid (J.out.step B)
            replace I2 := Lib.hid (I2.out.step B)
            replace J2 := Lib.hid (J2.out.step B)
            replace H := Lib.hid (bl_trans H.out B)
            clear B hHeld
            refine hK.out _ _ ⟨X, Q, N⟩ (fun hHeld => ?_)
            clear hK K
            try simp only [Act.put, List.getElem_toArray, List.getElem_cons_succ, List.getElem_cons_zero, List.setIfInBounds_toArray, List.set_cons_zero, List.set_cons_succ]
            refine wpAnyH_ready (rs := [5]) (by kernel_rfl) (by simp) ?_
            apply AllReadyH.cons rfl ?_ AllReadyH.nil
            intro K hK
            rw [if_pos (by rfl)]
            refine wp_call_fn ⟨_, Tryd.func20, by kernel_rfl, by rfl⟩ _ _ rfl #[lev i t x y (some ⟨u2, 0, none⟩) n n (some ⟨v2, 0, none⟩) m m p q s z b, sta sk sa sb sc sd su sg sx sy, inp is ip iz] (by simp only [List.map_toArray, List.map_cons, List.map_nil]; rfl) (CV.out u2 v2 _ I2.out J2.out (hQ.out.step H.out)) (bel_back fun wa6 B => ?_)
            replace P := P.step B
            replace Q := Q.step B
            replace N := N.step B
            replace T := T.step B
            replace X := X.step B
            replace T9 := T9.step B
            replace I := Lib.hid (I.out.step B)
            replace J := Lib.hid (J.out.step B)
            replace I2 := Lib.hid (I2.out.step B)
            replace J2 := Lib.hid (J2.out.step B)
            replace H := Lib.hid (bl_trans H.out B)
            clear B hHeld
            refine hK.out _ _ ⟨X, Q, N⟩ (fun hHeld => ?_)
            clear hK K
            try simp only [Act.put, List.getElem_toArray, List.getElem_cons_succ, List.getElem_cons_zero, List.setIfInBounds_toArray, List.set_cons_zero, List.set_cons_succ]
            refine wpAnyH_take (i := 6) (oi := _) (v := ?_) rfl (by kernel_rfl) (by kernel_rfl) (by kernel_rfl) (fun _ _ _ h => h) (Or.inl ⟨by rfl, ?_⟩) hHeld ?_
            rotate_left
            · intro w hSw
              try dsimp only at hSw
              go_simp
              all_goals with_reducible rfl
            try simp only [Act.put, List.getElem_toArray, List.getElem_cons_succ, List.getElem_cons_zero, List.setIfInBounds_toArray, List.set_cons_zero, List.set_cons_succ]
            refine wpAnyH_take (i := 7) (oi := _) (v := ?_) rfl (by kernel_rfl) (by kernel_rfl) (by kernel_rfl) (fun _ _ _ h => h) (Or.inl ⟨by rfl, ?_⟩) hHeld ?_
            rotate_left
            · intro w hSw
              try dsimp only at hSw
              go_simp
              all_goals with_reducible rfl
            try simp only [Act.put, List.getElem_toArray, List.getElem_cons_succ, List.getElem_cons_zero, List.setIfInBounds_toArray, List.set_cons_zero, List.set_cons_succ]
            refine wpAnyH_take (i := 8) (oi := _) (v := ?_) rfl (by kernel_rfl) (by kernel_rfl) (by kernel_rfl) (fun _ _ _ h => h) (Or.inl ⟨by rfl, ?_⟩) hHeld ?_
            rotate_left
            · intro w hSw
              try dsimp only at hSw
              go_simp
              all_goals with_reducible rfl
            try simp only [Act.put, List.getElem_toArray, List.getElem_cons_succ, List.getElem_cons_zero, List.setIfInBounds_toArray, List.set_cons_zero, List.set_cons_succ]
            refine wpAnyH_ready (rs := [10]) (by kernel_rfl) (by simp) ?_
            apply AllReadyH.cons rfl ?_ AllReadyH.nil
            intro K hK
            rw [if_pos (by rfl)]
            refine wp_store_new 31 (.tmp 11) (.tmp 37) rfl g9 rfl (stv K' X' Y' P' Q' U' V' D' O') rfl _ T9 (by simp) state_size rfl ?_
            intro w9 K9 N9
            replace T9 := N9
            replace P := P.kept K9 (by omega)
            replace Q := Q.kept K9 (by omega)
            replace N := N.kept K9 (by omega)
            replace T := T.kept K9 (by omega)
            replace X := X.kept K9 (by omega)
            replace I := Lib.hid (I.out.kept K9 (fun h0 g off e => by have := nA.out h0 g off e; omega))
            replace J := Lib.hid (J.out.kept K9 (fun h0 g off e => by have := nG.out h0 g off e; omega))
            replace I2 := Lib.hid (I2.out.kept K9 (fun h0 g off e => by cases e; have := hgu.out h0; omega))
            replace J2 := Lib.hid (J2.out.kept K9 (fun h0 g off e => by cases e; have := hgv.out h0; omega))
            replace H := Lib.hid (kp_below H.out K9 (by omega))
            clear K9 hHeld
            refine hK.out _ _ ⟨X, Q, N⟩ (fun hHeld => ?_)
            clear hK K
            try simp only [Act.put, List.getElem_toArray, List.getElem_cons_succ, List.getElem_cons_zero]
            refine wpAnyH_take (i := 11) (oi := _) (v := ?_) rfl (by kernel_rfl) (by kernel_rfl) (by kernel_rfl) (fun _ _ _ h => h) (Or.inl ⟨by rfl, ?_⟩) hHeld ?_
            rotate_left
            · intro w hSw
              try dsimp only at hSw
              go_simp
              all_goals with_reducible rfl
            try simp only [Act.put, List.getElem_toArray, List.getElem_cons_succ, List.getElem_cons_zero, List.setIfInBounds_toArray, List.set_cons_zero, List.set_cons_succ]
            refine wpAnyH_done (by kernel_rfl) ?_ _
            go_wp2_with fail
            go_meet
            exact ⟨g9, rfl, rfl, T9, T, X, P, Q, N, I.out, J.out, I2.out, J2.out, H.out⟩
        · skip
          rw [if_pos (by rfl)]
          refine wp_allocS rfl ?_
          intro g9 wa7 B hg0 T9
          have hgn := Nat.lt_of_lt_of_le N.lt hg0
          have hgt := Nat.lt_of_lt_of_le T.lt hg0
          have hgq := Nat.lt_of_lt_of_le X.lt hg0
          have hgu := Lib.hid (fun h0 => Nat.lt_of_lt_of_le (lt_boxesZ I2.out h0 rfl) hg0)
          have hgv := Lib.hid (fun h0 => Nat.lt_of_lt_of_le (lt_boxesZ J2.out h0 rfl) hg0)
          clear hg0
          replace P := P.step B
          replace Q := Q.step B
          replace N := N.step B
          replace T := T.step B
          replace X := X.step B
          replace I := Lib.hid (I.out.step B)
          replace J := Lib.hid (J.out.step B)
          replace I2 := Lib.hid (I2.out.step B)
          replace J2 := Lib.hid (J2.out.step B)
          replace H := Lib.hid (bl_trans H.out B)
          clear B hHeld
          refine hK.out _ _ ⟨X, Q, N⟩ (fun hHeld => ?_)
          clear hK K
          try simp only [Act.put, List.getElem_toArray, List.getElem_cons_succ, List.getElem_cons_zero, List.setIfInBounds_toArray, List.set_cons_zero, List.set_cons_succ]
          refine wpAnyH_ready (rs := [4]) (by kernel_rfl) (by simp) ?_
          apply AllReadyH.cons rfl ?_ AllReadyH.nil
          intro K hK
          rw [if_pos (by rfl)]
          refine wp_call_fn ⟨_, Tryd.func36, by kernel_rfl, by rfl⟩ _ _ rfl #[inp is ip iz] (by simp only [List.map_toArray, List.map_cons, List.map_nil]; rfl) (toInput_any is ip iz _) (bel_back fun wa8 B => ?_)
          replace P := P.step B
          replace Q := Q.step B
          replace N := N.step B
          replace T := T.step B
          replace X := X.step B
          replace T9 := T9.step B
          replace I := Lib.hid (I.out.step B)
          replace J := Lib.hid (J.out.step B)
          replace I2 := Lib.hid (I2.out.step B)
          replace J2 := Lib.hid (J2.out.step B)
          replace H := Lib.hid (bl_trans H.out B)
          clear B hHeld
          refine hK.out _ _ ⟨X, Q, N⟩ (fun hHeld => ?_)
          clear hK K
          try simp only [Act.put, List.getElem_toArray, List.getElem_cons_succ, List.getElem_cons_zero, List.setIfInBounds_toArray, List.set_cons_zero, List.set_cons_succ]
          refine wpAnyH_ready (rs := [5]) (by kernel_rfl) (by simp) ?_
          apply AllReadyH.cons rfl ?_ AllReadyH.nil
          intro K hK
          rw [if_pos (by rfl)]
          refine wp_call_fn ⟨_, Tryd.func20, by kernel_rfl, by rfl⟩ _ _ rfl #[lev i t x y (some ⟨u2, 0, none⟩) n n (some ⟨v2, 0, none⟩) m m p q s z b, sta sk sa sb sc sd su sg sx sy, inp is ip iz] (by simp only [List.map_toArray, List.map_cons, List.map_nil]; rfl) (CV.out u2 v2 _ I2.out J2.out (hQ.out.step H.out)) (bel_back fun wa9 B => ?_)
          replace P := P.step B
          replace Q := Q.step B
          replace N := N.step B
          replace T := T.step B
          replace X := X.step B
          replace T9 := T9.step B
          replace I := Lib.hid (I.out.step B)
          replace J := Lib.hid (J.out.step B)
          replace I2 := Lib.hid (I2.out.step B)
          replace J2 := Lib.hid (J2.out.step B)
          replace H := Lib.hid (bl_trans H.out B)
          clear B hHeld
          refine hK.out _ _ ⟨X, Q, N⟩ (fun hHeld => ?_)
          clear hK K
          try simp only [Act.put, List.getElem_toArray, List.getElem_cons_succ, List.getElem_cons_zero, List.setIfInBounds_toArray, List.set_cons_zero, List.set_cons_succ]
          refine wpAnyH_take (i := 6) (oi := _) (v := ?_) rfl (by kernel_rfl) (by kernel_rfl) (by kernel_rfl) (fun _ _ _ h => h) (Or.inl ⟨by rfl, ?_⟩) hHeld ?_
          rotate_left
          · intro w hSw
            try dsimp only at hSw
            go_simp
            all_goals with_reducible rfl
          try simp only [Act.put, List.getElem_toArray, List.getElem_cons_succ, List.getElem_cons_zero, List.setIfInBounds_toArray, List.set_cons_zero, List.set_cons_succ]
          refine wpAnyH_take (i := 7) (oi := _) (v := ?_) rfl (by kernel_rfl) (by kernel_rfl) (by kernel_rfl) (fun _ _ _ h => h) (Or.inl ⟨by rfl, ?_⟩) hHeld ?_
          rotate_left
          · intro w hSw
            try dsimp only at hSw
            go_simp
            all_goals with_reducible rfl
          try simp only [Act.put, List.getElem_toArray, List.getElem_cons_succ, List.getElem_cons_zero, List.setIfInBounds_toArray, List.set_cons_zero, List.set_cons_succ]
          refine wpAnyH_take (i := 8) (oi := _) (v := ?_) rfl (by kernel_rfl) (by kernel_rfl) (by kernel_rfl) (fun _ _ _ h => h) (Or.inl ⟨by rfl, ?_⟩) hHeld ?_
          rotate_left
          · intro w hSw
            try dsimp only at hSw
            go_simp
            all_goals with_reducible rfl
          try simp only [Act.put, List.getElem_toArray, List.getElem_cons_succ, List.getElem_cons_zero, List.setIfInBounds_toArray, List.set_cons_zero, List.set_cons_succ]
          refine wpAnyH_ready (rs := [10]) (by kernel_rfl) (by simp) ?_
          apply AllReadyH.cons rfl ?_ AllReadyH.nil
          intro K hK
          rw [if_pos (by rfl)]
          refine wp_store_new 31 (.tmp 11) (.tmp 37) rfl g9 rfl (stv K' X' Y' P' Q' U' V' D' O') rfl _ T9 (by simp) state_size rfl ?_
          intro w9 K9 N9
          replace T9 := N9
          replace P := P.kept K9 (by omega)
          replace Q := Q.kept K9 (by omega)
          replace N := N.kept K9 (by omega)
          replace T := T.kept K9 (by omega)
          replace X := X.kept K9 (by omega)
          replace I := Lib.hid (I.out.kept K9 (fun h0 g off e => by have := nA.out h0 g off e; omega))
          replace J := Lib.hid (J.out.kept K9 (fun h0 g off e => by have := nG.out h0 g off e; omega))
          replace I2 := Lib.hid (I2.out.kept K9 (fun h0 g off e => by cases e; have := hgu.out h0; omega))
          replace J2 := Lib.hid (J2.out.kept K9 (fun h0 g off e => by cases e; have := hgv.out h0; omega))
          replace H := Lib.hid (kp_below H.out K9 (by omega))
          clear K9 hHeld
          refine hK.out _ _ ⟨X, Q, N⟩ (fun hHeld => ?_)
          clear hK K
          try simp only [Act.put, List.getElem_toArray, List.getElem_cons_succ, List.getElem_cons_zero]
          refine wpAnyH_take (i := 11) (oi := _) (v := ?_) rfl (by kernel_rfl) (by kernel_rfl) (by kernel_rfl) (fun _ _ _ h => h) (Or.inl ⟨by rfl, ?_⟩) hHeld ?_
          rotate_left
          · intro w hSw
            try dsimp only at hSw
            go_simp
            all_goals with_reducible rfl
          try simp only [Act.put, List.getElem_toArray, List.getElem_cons_succ, List.getElem_cons_zero, List.setIfInBounds_toArray, List.set_cons_zero, List.set_cons_succ]
          refine wpAnyH_done (by kernel_rfl) ?_ _
          go_wp2_with fail
          go_meet
          exact ⟨g9, rfl, rfl, T9, T, X, P, Q, N, I.out, J.out, I2.out, J2.out, H.out⟩
      · skip
        rw [if_pos (by rfl)]
        refine wp_allocS rfl ?_
        intro g9 wa10 B hg0 T9
        have hgn := Nat.lt_of_lt_of_le N.lt hg0
        have hgt := Nat.lt_of_lt_of_le T.lt hg0
        have hgq := Nat.lt_of_lt_of_le X.lt hg0
        have hgu := Lib.hid (fun h0 => Nat.lt_of_lt_of_le (lt_boxesZ I2.out h0 rfl) hg0)
        have hgv := Lib.hid (fun h0 => Nat.lt_of_lt_of_le (lt_boxesZ J2.out h0 rfl) hg0)
        clear hg0
        replace P := P.step B
        replace Q := Q.step B
        replace N := N.step B
        replace T := T.step B
        replace X := X.step B
        replace I := Lib.hid (I.out.step B)
        replace J := Lib.hid (J.out.step B)
        replace I2 := Lib.hid (I2.out.step B)
        replace J2 := Lib.hid (J2.out.step B)
        replace H := Lib.hid (bl_trans H.out B)
        clear B hHeld
        refine hK.out _ _ ⟨X, Q, N⟩ (fun hHeld => ?_)
        clear hK K
        try simp only [Act.put, List.getElem_toArray, List.getElem_cons_succ, List.getElem_cons_zero, List.setIfInBounds_toArray, List.set_cons_zero, List.set_cons_succ]
        refine wpAnyH_ready (rs := [2]) (by kernel_rfl) (by simp) ?_
        apply AllReadyH.cons rfl ?_ AllReadyH.nil
        intro K hK
        rw [if_pos (by rfl)]
        refine wp_call_fn ⟨_, Tryd.func35, by kernel_rfl, by rfl⟩ _ _ rfl #[sta sk sa sb sc sd su sg sx sy] (by simp only [List.map_toArray, List.map_cons, List.map_nil]; rfl) (toState_any sk sa sb sc sd su sg sx sy _) (bel_back fun wa11 B => ?_)
        replace P := P.step B
        replace Q := Q.step B
        replace N := N.step B
        replace T := T.step B
        replace X := X.step B
        replace T9 := T9.step B
        replace I := Lib.hid (I.out.step B)
        replace J := Lib.hid (J.out.step B)
        replace I2 := Lib.hid (I2.out.step B)
        replace J2 := Lib.hid (J2.out.step B)
        replace H := Lib.hid (bl_trans H.out B)
        clear B hHeld
        refine hK.out _ _ ⟨X, Q, N⟩ (fun hHeld => ?_)
        clear hK K
        try simp only [Act.put, List.getElem_toArray, List.getElem_cons_succ, List.getElem_cons_zero, List.setIfInBounds_toArray, List.set_cons_zero, List.set_cons_succ]
        refine wpAnyH_ready (rs := [4]) (by kernel_rfl) (by simp) ?_
        apply AllReadyH.cons rfl ?_ AllReadyH.nil
        intro K hK
        rw [if_pos (by rfl)]
        refine wp_call_fn ⟨_, Tryd.func36, by kernel_rfl, by rfl⟩ _ _ rfl #[inp is ip iz] (by simp only [List.map_toArray, List.map_cons, List.map_nil]; rfl) (toInput_any is ip iz _) (bel_back fun wa12 B => ?_)
        replace P := P.step B
        replace Q := Q.step B
        replace N := N.step B
        replace T := T.step B
        replace X := X.step B
        replace T9 := T9.step B
        replace I := Lib.hid (I.out.step B)
        replace J := Lib.hid (J.out.step B)
        replace I2 := Lib.hid (I2.out.step B)
        replace J2 := Lib.hid (J2.out.step B)
        replace H := Lib.hid (bl_trans H.out B)
        clear B hHeld
        refine hK.out _ _ ⟨X, Q, N⟩ (fun hHeld => ?_)
        clear hK K
        try simp only [Act.put, List.getElem_toArray, List.getElem_cons_succ, List.getElem_cons_zero, List.setIfInBounds_toArray, List.set_cons_zero, List.set_cons_succ]
        refine wpAnyH_ready (rs := [5]) (by kernel_rfl) (by simp) ?_
        apply AllReadyH.cons rfl ?_ AllReadyH.nil
        intro K hK
        rw [if_pos (by rfl)]
        refine wp_call_fn ⟨_, Tryd.func20, by kernel_rfl, by rfl⟩ _ _ rfl #[lev i t x y (some ⟨u2, 0, none⟩) n n (some ⟨v2, 0, none⟩) m m p q s z b, sta sk sa sb sc sd su sg sx sy, inp is ip iz] (by simp only [List.map_toArray, List.map_cons, List.map_nil]; rfl) (CV.out u2 v2 _ I2.out J2.out (hQ.out.step H.out)) (bel_back fun wa13 B => ?_)
        replace P := P.step B
        replace Q := Q.step B
        replace N := N.step B
        replace T := T.step B
        replace X := X.step B
        replace T9 := T9.step B
        replace I := Lib.hid (I.out.step B)
        replace J := Lib.hid (J.out.step B)
        replace I2 := Lib.hid (I2.out.step B)
        replace J2 := Lib.hid (J2.out.step B)
        replace H := Lib.hid (bl_trans H.out B)
        clear B hHeld
        refine hK.out _ _ ⟨X, Q, N⟩ (fun hHeld => ?_)
        clear hK K
        try simp only [Act.put, List.getElem_toArray, List.getElem_cons_succ, List.getElem_cons_zero, List.setIfInBounds_toArray, List.set_cons_zero, List.set_cons_succ]
        refine wpAnyH_take (i := 6) (oi := _) (v := ?_) rfl (by kernel_rfl) (by kernel_rfl) (by kernel_rfl) (fun _ _ _ h => h) (Or.inl ⟨by rfl, ?_⟩) hHeld ?_
        rotate_left
        · intro w hSw
          try dsimp only at hSw
          go_simp
          all_goals with_reducible rfl
        try simp only [Act.put, List.getElem_toArray, List.getElem_cons_succ, List.getElem_cons_zero, List.setIfInBounds_toArray, List.set_cons_zero, List.set_cons_succ]
        refine wpAnyH_take (i := 7) (oi := _) (v := ?_) rfl (by kernel_rfl) (by kernel_rfl) (by kernel_rfl) (fun _ _ _ h => h) (Or.inl ⟨by rfl, ?_⟩) hHeld ?_
        rotate_left
        · intro w hSw
          try dsimp only at hSw
          go_simp
          all_goals with_reducible rfl
        try simp only [Act.put, List.getElem_toArray, List.getElem_cons_succ, List.getElem_cons_zero, List.setIfInBounds_toArray, List.set_cons_zero, List.set_cons_succ]
        refine wpAnyH_take (i := 8) (oi := _) (v := ?_) rfl (by kernel_rfl) (by kernel_rfl) (by kernel_rfl) (fun _ _ _ h => h) (Or.inl ⟨by rfl, ?_⟩) hHeld ?_
        rotate_left
        · intro w hSw
          try dsimp only at hSw
          go_simp
          all_goals with_reducible rfl
        try simp only [Act.put, List.getElem_toArray, List.getElem_cons_succ, List.getElem_cons_zero, List.setIfInBounds_toArray, List.set_cons_zero, List.set_cons_succ]
        refine wpAnyH_ready (rs := [10]) (by kernel_rfl) (by simp) ?_
        apply AllReadyH.cons rfl ?_ AllReadyH.nil
        intro K hK
        rw [if_pos (by rfl)]
        refine wp_store_new 31 (.tmp 11) (.tmp 37) rfl g9 rfl (stv K' X' Y' P' Q' U' V' D' O') rfl _ T9 (by simp) state_size rfl ?_
        intro w9 K9 N9
        replace T9 := N9
        replace P := P.kept K9 (by omega)
        replace Q := Q.kept K9 (by omega)
        replace N := N.kept K9 (by omega)
        replace T := T.kept K9 (by omega)
        replace X := X.kept K9 (by omega)
        replace I := Lib.hid (I.out.kept K9 (fun h0 g off e => by have := nA.out h0 g off e; omega))
        replace J := Lib.hid (J.out.kept K9 (fun h0 g off e => by have := nG.out h0 g off e; omega))
        replace I2 := Lib.hid (I2.out.kept K9 (fun h0 g off e => by cases e; have := hgu.out h0; omega))
        replace J2 := Lib.hid (J2.out.kept K9 (fun h0 g off e => by cases e; have := hgv.out h0; omega))
        replace H := Lib.hid (kp_below H.out K9 (by omega))
        clear K9 hHeld
        refine hK.out _ _ ⟨X, Q, N⟩ (fun hHeld => ?_)
        clear hK K
        try simp only [Act.put, List.getElem_toArray, List.getElem_cons_succ, List.getElem_cons_zero]
        refine wpAnyH_take (i := 11) (oi := _) (v := ?_) rfl (by kernel_rfl) (by kernel_rfl) (by kernel_rfl) (fun _ _ _ h => h) (Or.inl ⟨by rfl, ?_⟩) hHeld ?_
        rotate_left
        · intro w hSw
          try dsimp only at hSw
          go_simp
          all_goals with_reducible rfl
        try simp only [Act.put, List.getElem_toArray, List.getElem_cons_succ, List.getElem_cons_zero, List.setIfInBounds_toArray, List.set_cons_zero, List.set_cons_succ]
        refine wpAnyH_done (by kernel_rfl) ?_ _
        go_wp2_with fail
        go_meet
        exact ⟨g9, rfl, rfl, T9, T, X, P, Q, N, I.out, J.out, I2.out, J2.out, H.out⟩
    case rest =>
      clear P Q N T X I J I2 J2 H hgx hxx
      obtain ⟨h9, rfl, rfl, T9, T, X, P, Q, N, I, J, I2, J2, H⟩ := hcut
      replace I := Lib.hid I
      replace J := Lib.hid J
      replace I2 := Lib.hid I2
      replace J2 := Lib.hid J2
      replace H := Lib.hid H
      clear Q N CV hQ nA nG
      have Pc0 := P.cell 0 _ rfl
      have Pc1 := P.cell 1 _ rfl
      have Pc2 := P.cell 2 _ rfl
      have Pc3 := P.cell 3 _ rfl
      have Pc4 := P.cell 4 _ rfl
      have Pc5 := P.cell 5 _ rfl
      have Pc6 := P.cell 6 _ rfl
      have Pc7 := P.cell 7 _ rfl
      have Pc8 := P.cell 8 _ rfl
      have Pc9 := P.cell 9 _ rfl
      have Pc10 := P.cell 10 _ rfl
      have Pl := P.lt
      have T9c0 := T9.cell 0 _ rfl
      have T9c1 := T9.cell 1 _ rfl
      have T9c2 := T9.cell 2 _ rfl
      have T9c3 := T9.cell 3 _ rfl
      have T9c4 := T9.cell 4 _ rfl
      have T9c5 := T9.cell 5 _ rfl
      have T9c6 := T9.cell 6 _ rfl
      have T9c7 := T9.cell 7 _ rfl
      have T9c8 := T9.cell 8 _ rfl
      have T9l := T9.lt
      have Tc0 := T.cell 0 _ rfl
      have Tc1 := T.cell 1 _ rfl
      have Tc2 := T.cell 2 _ rfl
      have Tc3 := T.cell 3 _ rfl
      have Tc4 := T.cell 4 _ rfl
      have Tc5 := T.cell 5 _ rfl
      have Tc6 := T.cell 6 _ rfl
      have Tc7 := T.cell 7 _ rfl
      have Tc8 := T.cell 8 _ rfl
      have Tl := T.lt
      have Xc0 := X.cell 0 _ rfl
      have Xc1 := X.cell 1 _ rfl
      have Xc2 := X.cell 2 _ rfl
      have Xc3 := X.cell 3 _ rfl
      have Xc4 := X.cell 4 _ rfl
      have Xc5 := X.cell 5 _ rfl
      have Xc6 := X.cell 6 _ rfl
      have Xc7 := X.cell 7 _ rfl
      have Xc8 := X.cell 8 _ rfl
      have Xc9 := X.cell 9 _ rfl
      have Xc10 := X.cell 10 _ rfl
      have Xl := X.lt
      go_wp2_with fail
      refine (eqState_same K' X' Y' P' Q' U' V' D' O' _).mono ?_
      rintro e w8 ⟨rfl, B⟩
      clear Pc0 Pc1 Pc2 Pc3 Pc4 Pc5 Pc6 Pc7 Pc8 Pc9 Pc10 Pl T9c0 T9c1 T9c2 T9c3 T9c4 T9c5 T9c6 T9c7 T9c8 T9l Tc0 Tc1 Tc2 Tc3 Tc4 Tc5 Tc6 Tc7 Tc8 Tl Xc0 Xc1 Xc2 Xc3 Xc4 Xc5 Xc6 Xc7 Xc8 Xc9 Xc10 Xl
      replace P := P.step B
      replace T9 := T9.step B
      replace T := T.step B
      replace X := X.step B
      replace I := Lib.hid (I.out.step B)
      replace J := Lib.hid (J.out.step B)
      replace I2 := Lib.hid (I2.out.step B)
      replace J2 := Lib.hid (J2.out.step B)
      replace H := Lib.hid (bl_trans H.out B)
      clear B
      have Pc0 := P.cell 0 _ rfl
      have Pc1 := P.cell 1 _ rfl
      have Pc2 := P.cell 2 _ rfl
      have Pc3 := P.cell 3 _ rfl
      have Pc4 := P.cell 4 _ rfl
      have Pc5 := P.cell 5 _ rfl
      have Pc6 := P.cell 6 _ rfl
      have Pc7 := P.cell 7 _ rfl
      have Pc8 := P.cell 8 _ rfl
      have Pc9 := P.cell 9 _ rfl
      have Pc10 := P.cell 10 _ rfl
      have Pl := P.lt
      have T9c0 := T9.cell 0 _ rfl
      have T9c1 := T9.cell 1 _ rfl
      have T9c2 := T9.cell 2 _ rfl
      have T9c3 := T9.cell 3 _ rfl
      have T9c4 := T9.cell 4 _ rfl
      have T9c5 := T9.cell 5 _ rfl
      have T9c6 := T9.cell 6 _ rfl
      have T9c7 := T9.cell 7 _ rfl
      have T9c8 := T9.cell 8 _ rfl
      have T9l := T9.lt
      have Tc0 := T.cell 0 _ rfl
      have Tc1 := T.cell 1 _ rfl
      have Tc2 := T.cell 2 _ rfl
      have Tc3 := T.cell 3 _ rfl
      have Tc4 := T.cell 4 _ rfl
      have Tc5 := T.cell 5 _ rfl
      have Tc6 := T.cell 6 _ rfl
      have Tc7 := T.cell 7 _ rfl
      have Tc8 := T.cell 8 _ rfl
      have Tl := T.lt
      have Xc0 := X.cell 0 _ rfl
      have Xc1 := X.cell 1 _ rfl
      have Xc2 := X.cell 2 _ rfl
      have Xc3 := X.cell 3 _ rfl
      have Xc4 := X.cell 4 _ rfl
      have Xc5 := X.cell 5 _ rfl
      have Xc6 := X.cell 6 _ rfl
      have Xc7 := X.cell 7 _ rfl
      have Xc8 := X.cell 8 _ rfl
      have Xc9 := X.cell 9 _ rfl
      have Xc10 := X.cell 10 _ rfl
      have Xl := X.lt
      go_wp2_with fail
      clear Pc0 Pc1 Pc2 Pc3 Pc4 Pc5 Pc6 Pc7 Pc8 Pc9 Pc10 Pl T9c0 T9c1 T9c2 T9c3 T9c4 T9c5 T9c6 T9c7 T9c8 T9l Tc0 Tc1 Tc2 Tc3 Tc4 Tc5 Tc6 Tc7 Tc8 Tl Xc0 Xc1 Xc2 Xc3 Xc4 Xc5 Xc6 Xc7 Xc8 Xc9 Xc10 Xl
      refine wp_region_held_drew (S := fun w' => CellsAt w' w.heap.size (lvs i t x y A n c G m kk p q s z b) ∧ CellsAt w' w6.heap.size (lvs i t x y (some ⟨u2, 0, none⟩) n n (some ⟨v2, 0, none⟩) m m p q s z b)) (by kernel_rfl) ⟨(by repeat (first | with_reducible exact Pn | with_reducible exact P | with_reducible refine CellsAt.alloc ?_ _ | with_reducible refine CellsAt.drew ?_)), (by repeat (first | with_reducible exact Xn | with_reducible exact X | with_reducible refine CellsAt.alloc ?_ _ | with_reducible refine CellsAt.drew ?_))⟩ (fun hHeld => ?_)
      refine wpAnyH_take (i := 0) (oi := _) (v := .agg (lvs i t x y (some ⟨u2, 0, none⟩) n n (some ⟨v2, 0, none⟩) m m p q s z b).toArray) rfl (by kernel_rfl) (by kernel_rfl) (by kernel_rfl) (fun _ _ _ h => h) (yieldsIf_load_mid (by rfl) 29 (.tmp 10) rfl w6.heap.size 0 rfl (lvs i t x y (some ⟨u2, 0, none⟩) n n (some ⟨v2, 0, none⟩) m m p q s z b) _ (fun W hS => hS.2.range) Tryd.underlying29 rfl level_size) hHeld ?_
      try simp only [Act.put, List.getElem_toArray, List.getElem_cons_zero, List.setIfInBounds_toArray, List.set_cons_zero, List.set_cons_succ]
      refine wpAnyH_take (i := 1) (oi := _) (v := .agg (lvs i t x y A n c G m kk p q s z b).toArray) rfl (by kernel_rfl) (by kernel_rfl) (by kernel_rfl) (fun _ _ _ h => h) (yieldsIf_load_mid (by rfl) 55 (.tmp 3) rfl w.heap.size 0 rfl (lvs i t x y A n c G m kk p q s z b) _ (fun W hS => hS.1.range) Tryd.underlying55 rfl lawlevel_size) hHeld ?_
      try simp only [Act.put, List.getElem_toArray, List.getElem_cons_succ, List.getElem_cons_zero, List.setIfInBounds_toArray, List.set_cons_zero, List.set_cons_succ]
      refine wpAnyH_ready (rs := [2]) (by kernel_rfl) (by simp) ?_
      apply AllReadyH.cons rfl ?_ AllReadyH.nil
      intro K hK
      go_simp
      go_at_call 34
      refine (toLevel_any i t x y A n c G m kk p q s z b ws gs _ I.out.drew J.out.drew h1 h2).mono ?_
      rintro e wn ⟨u3, v3, rfl, I3, J3, B⟩
      have Pn := CellsAt.step (by first | with_reducible exact P.drew | with_reducible exact P) B
      have Xn := CellsAt.step (by first | with_reducible exact X.drew | with_reducible exact X) B
      have I2n := Lib.hid (Boxes.step (by first | with_reducible exact I2.out.drew | with_reducible exact I2.out) B)
      have J2n := Lib.hid (Boxes.step (by first | with_reducible exact J2.out.drew | with_reducible exact J2.out) B)
      have Hn := Lib.hid (bl_trans (by first | with_reducible exact bl_drew1 H.out | with_reducible exact H.out) B)
      replace I3 := Lib.hid I3
      replace J3 := Lib.hid J3
      clear B
      clear hHeld
      go_wp2_with fail
      refine hK.out _ _ ⟨(by repeat (first | with_reducible exact Pn | with_reducible exact P | with_reducible refine CellsAt.alloc ?_ _ | with_reducible refine CellsAt.drew ?_)), (by repeat (first | with_reducible exact Xn | with_reducible exact X | with_reducible refine CellsAt.alloc ?_ _ | with_reducible refine CellsAt.drew ?_))⟩ (fun hHeld => ?_)
      clear hK K
      try simp only [Act.put, List.getElem_toArray, List.getElem_cons_succ, List.getElem_cons_zero, List.setIfInBounds_toArray, List.set_cons_zero, List.set_cons_succ]
      refine wpAnyH_ready (rs := [3]) (by kernel_rfl) (by simp) ?_
      apply AllReadyH.cons rfl ?_ AllReadyH.nil
      intro K hK
      go_simp
      go_at_call 38
      refine (eqLevel_same i t x y n m p q s z b ws gs u2 v2 u3 v3 _ I2n.out J2n.out I3.out J3.out h1 h2).mono ?_
      rintro e wm ⟨rfl, B⟩
      have Pn := CellsAt.step (by first | with_reducible exact Pn.drew | with_reducible exact Pn) B
      have Xn := CellsAt.step (by first | with_reducible exact Xn.drew | with_reducible exact Xn) B
      have Hn := Lib.hid (bl_trans (by first | with_reducible exact bl_drew1 Hn.out | with_reducible exact Hn.out) B)
      clear B
      clear hHeld
      go_wp2_with fail
      refine hK.out _ _ ⟨(by repeat (first | with_reducible exact Pn | with_reducible exact P | with_reducible refine CellsAt.alloc ?_ _ | with_reducible refine CellsAt.drew ?_)), (by repeat (first | with_reducible exact Xn | with_reducible exact X | with_reducible refine CellsAt.alloc ?_ _ | with_reducible refine CellsAt.drew ?_))⟩ (fun hHeld => ?_)
      clear hK K
      try simp only [Act.put, List.getElem_toArray, List.getElem_cons_succ, List.getElem_cons_zero, List.setIfInBounds_toArray, List.set_cons_zero, List.set_cons_succ]
      refine wpAnyH_take (i := 4) (oi := _) (v := ?_) rfl (by kernel_rfl) (by kernel_rfl) (by kernel_rfl) (fun _ _ _ h => h) (Or.inl ⟨by rfl, ?_⟩) hHeld ?_
      rotate_left
      · intro w hSw
        try dsimp only at hSw
        go_simp
        all_goals with_reducible rfl
      try simp only [Act.put, List.getElem_toArray, List.getElem_cons_succ, List.getElem_cons_zero, List.setIfInBounds_toArray, List.set_cons_zero, List.set_cons_succ]
      refine wpAnyH_done (by kernel_rfl) ?_ _
      go_wp2
      go_ret
      exact ⟨rfl, Hn.out⟩

end Go.Proofs.YtnoenjociioffaaDoor
