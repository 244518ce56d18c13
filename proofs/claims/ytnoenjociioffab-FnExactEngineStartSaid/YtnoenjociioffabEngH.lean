/-
  What the program's own EngineStart and EngineHash return.
-/
import Derived.Test.YtnoenjociioffabEngP
import Derived.Test.YtnoenjociioffabEngHash
import Derived.Test.YtnoenjociioffabEngLaws
import Derived.Test.YtnoenjociioffabHashImpl
import Derived.Test.YtnoenjociioffabRegN
namespace Go.Proofs.Ytnoenjociioffab
open Go.RowKit
open M

set_option maxRecDepth 100000 in
set_option maxHeartbeats 1000000 in
theorem implEStart (i t x y : Int) (A : Option Addr) (n c : Nat) (G : Option Addr) (m kk : Nat) (fp fq fs fz b : Int) (ws gs : List Bx) (w : World) (I : Boxes w A n ws) (J : Boxes w G m gs) (hn : n ≤ 281474976710656) (hm : m ≤ 281474976710656) : Calls Try.prog 12 #[lev i t x y A n c G m kk fp fq fs fz b] w fun e w' => e = .returned (.tuple #[(if lvB i t x y ws gs fp fq fs fz b then sta 0 x y 0 0 0 0 false false else sta 0 0 0 0 0 0 0 false false), .bool (lvB i t x y ws gs fp fq fs fz b)]) ∧ Below w.heap.size w w' := by
  have V := fun (W : World) (Z : Boxes W A n ws) (Y : Boxes W G m gs) => implLvValid i t x y A n c G m kk fp fq fs fz b ws gs W Z Y hn hm
  have I := Lib.hid I
  have J := Lib.hid J
  have P : CellsAt ((w.alloc (.cells #[.int .i64 i, .int .i64 t, .int .i64 x, .int .i64 y, .slice A n c, .slice G m kk, .int .i64 fp, .int .i64 fq, .int .i64 fs, .int .i64 fz, .int .i64 b] 29)).alloc (.cells #[.int .i64 0, .int .i64 0, .int .i64 0, .int .i64 0, .int .i64 0, .int .i64 0, .int .i64 0, .bool false, .bool false] 32)) w.heap.size (lvs i t x y A n c G m kk fp fq fs fz b) := (CellsAt.new w _ _ _ rfl).alloc _
  have D : CellsAt ((w.alloc (.cells #[.int .i64 i, .int .i64 t, .int .i64 x, .int .i64 y, .slice A n c, .slice G m kk, .int .i64 fp, .int .i64 fq, .int .i64 fs, .int .i64 fz, .int .i64 b] 29)).alloc (.cells #[.int .i64 0, .int .i64 0, .int .i64 0, .int .i64 0, .int .i64 0, .int .i64 0, .int .i64 0, .bool false, .bool false] 32)) (w.heap.size + 1) (stv 0 0 0 0 0 0 0 false false) := CellsAt.new _ _ _ _ (by simp)
  have H := Lib.hid (bl_alloc (bl_alloc (bl_refl w) (.cells #[.int .i64 i, .int .i64 t, .int .i64 x, .int .i64 y, .slice A n c, .slice G m kk, .int .i64 fp, .int .i64 fq, .int .i64 fs, .int .i64 fz, .int .i64 b] 29)) (.cells #[.int .i64 0, .int .i64 0, .int .i64 0, .int .i64 0, .int .i64 0, .int .i64 0, .int .i64 0, .bool false, .bool false] 32))
  cases hv : lvB i t x y ws gs fp fq fs fz b
  · rw [hv] at V
    have V := Lib.hid V
    clear hv
    go_enter Try.func12, Try.ntmps12
    go_wp2_with fail
    refine (V.out _ (I.out.step H.out) (J.out.step H.out)).mono ?_
    rintro e w1 ⟨rfl, B⟩
    replace P := P.step B
    replace D := D.step B
    replace H := Lib.hid (bl_trans H.out B)
    clear B
    go_wp2_with (refine store_new rfl 32 (.tmp 2) (.tmp 7) rfl (w.heap.size + 1) rfl (stv 0 0 0 0 0 0 0 false false) rfl _ D (by simp) state_size rfl ?_)
    intro w2 K N
    go_wp2
    exact bodyPost_ret (v := .tuple #[sta 0 0 0 0 0 0 0 false false, .bool false]) (res_cells_tmp rfl (w.heap.size + 1) rfl (stv 0 0 0 0 0 0 0 false false) N (.bool false) rfl Try.underlying32 rfl state_size) rfl ⟨rfl, kp_below H.out K (by omega)⟩
  · rw [hv] at V
    have V := Lib.hid V
    clear hv
    go_enter Try.func12, Try.ntmps12
    go_wp2_with fail
    refine (V.out _ (I.out.step H.out) (J.out.step H.out)).mono ?_
    rintro e w1 ⟨rfl, B⟩
    replace P := P.step B
    replace D := D.step B
    replace H := Lib.hid (bl_trans H.out B)
    clear B
    have Pc0 := P.cell 0 _ rfl
    have Pc1 := P.cell 1 _ rfl
    have Pc2 := P.cell 2 _ rfl
    have Pc3 := P.cell 3 _ rfl
    have Pc4 := P.cell 4 _ rfl
    have Pc5 := P.cell 5 _ rfl
    have Pc6 := P.cell 6 _ rfl
    have Pc7 := P.cell 7 _ rfl
    have Pc8 := P.cell 8 _ rfl
    have Pc9 := P.cell 9 _ rfl
    have Pc10 := P.cell 10 _ rfl
    have Pl := P.lt
    go_wp2_with (refine store_new rfl 32 (.tmp 2) (.tmp 10) rfl (w.heap.size + 1) rfl (stv 0 x y 0 0 0 0 false false) rfl _ D (by simp) state_size rfl ?_)
    intro w2 K N
    go_wp2
    exact bodyPost_ret (v := .tuple #[sta 0 x y 0 0 0 0 false false, .bool true]) (res_cells_tmp rfl (w.heap.size + 1) rfl (stv 0 x y 0 0 0 0 false false) N (.bool true) rfl Try.underlying32 rfl state_size) rfl ⟨rfl, kp_below H.out K (by omega)⟩

def M.enI (d o : Bool) : Int := if d then 1 else if o then 2 else 0
theorem M.end_flg {k ax ay fx fy u g : Int} {d o : Bool} (h : ownB k ax ay fx fy u g d o = true) : enI d o = flg d o := by
  have q := ((own_iff ..).1 h).2.2.2.2.2.2
  cases d <;> cases o <;> first | rfl | cases q
set_option maxRecDepth 100000 in
theorem implEnding (k ax ay fx fy u g : Int) (d o : Bool) (w : World) : Calls Try.prog 38 #[sta k ax ay fx fy u g d o] w fun e w' => e = .returned (.int .i64 (enI d o)) ∧ Below w.heap.size w w' := by
  cases d <;> cases o
  · go_enter Try.func38, Try.ntmps38
    go_wp2
    go_ret
    exact ⟨rfl, bl_alloc (bl_refl w) _⟩
  · go_enter Try.func38, Try.ntmps38
    go_wp2
    go_ret
    exact ⟨rfl, bl_alloc (bl_refl w) _⟩
  · go_enter Try.func38, Try.ntmps38
    go_wp2
    go_ret
    exact ⟨rfl, bl_alloc (bl_refl w) _⟩
  · go_enter Try.func38, Try.ntmps38
    go_wp2
    go_ret
    exact ⟨rfl, bl_alloc (bl_refl w) _⟩

set_option maxRecDepth 100000 in
set_option maxHeartbeats 4000000 in
theorem implEHash (k ax ay fx fy u g : Int) (d o : Bool) (w : World) : Calls Try.prog 16 #[sta k ax ay fx fy u g d o] w fun e w' => e = .returned (.int .i64 (ehI k ax ay fx fy u g d o)) ∧ Below w.heap.size w w' := by
  have V := fun W => implPoss k ax ay fx fy u g d o W
  cases hv : ownB k ax ay fx fy u g d o
  · rw [hv] at V
    have V := Lib.hid V
    have E := Lib.hid (show ehI k ax ay fx fy u g d o = -1 by simp [ehI, hv])
    clear hv
    go_enter Try.func16, Try.ntmps16
    go_wp2_with fail
    refine (V.out _).mono ?_
    rintro e w1 ⟨rfl, B⟩
    have H := Lib.hid (bl_trans (bl_alloc (bl_refl w) _) B)
    clear B
    go_wp2
    go_ret
    exact ⟨ret_int (by rw [E.out]), H.out⟩
  rw [hv] at V
  have V := Lib.hid V
  have E := Lib.hid (show ehI k ax ay fx fy u g d o = hsh 17 [k, ax, ay, fx, fy, u, g, enI d o] by rw [end_flg hv]; simp [ehI, hv, stL])
  have C := fun W => implEnding k ax ay fx fy u g d o W
  generalize enI d o = ee at *
  have C := Lib.hid C
  clear hv
  go_enter Try.func16, Try.ntmps16
  go_wp2_with fail
  refine (V.out _).mono ?_
  rintro e w1 ⟨rfl, B⟩
  have P : CellsAt w1 w.heap.size (stv k ax ay fx fy u g d o) := (CellsAt.new w _ _ _ rfl).step B
  have H := Lib.hid (bl_trans (bl_alloc (bl_refl w) _) B)
  clear B V
  go_wp2_with fail
  refine (implStart _).mono ?_
  rintro e w2 ⟨rfl, D, B⟩
  have hz := H.out.size
  have p1 := P.lt
  replace P := P.step B
  replace H := Lib.hid (bl_trans H.out B)
  clear B
  go_wp2_with fail
  refine wp_region_held_drew (S := fun w' => CellsAt w' w.heap.size (stv k ax ay fx fy u g d o)) (by kernel_rfl) P.drew (fun hHeld => ?_)
  replace P := P.drew
  replace D := D.drew
  replace H := Lib.hid (bl_drew1 H.out)
  refine wpAnyH_take (i := 0) (oi := _) (v := ?_) rfl (by kernel_rfl) (by kernel_rfl) (by kernel_rfl) (fun _ _ _ h => h) (Or.inl ⟨by rfl, ?_⟩) hHeld ?_
  rotate_left
  · intro w hSw
    try dsimp only at hSw
    go_simp
    all_goals with_reducible rfl
  try simp only [Act.put, List.getElem_toArray, List.getElem_cons_zero, List.setIfInBounds_toArray, List.set_cons_zero, List.set_cons_succ]
  refine wpAnyH_take (i := 1) (oi := _) (v := ?_) rfl (by kernel_rfl) (by kernel_rfl) (by kernel_rfl) (fun _ _ _ h => h) (Or.inl ⟨by rfl, ?_⟩) hHeld ?_
  rotate_left
  · intro w hSw
    try dsimp only at hSw
    go_simp
    all_goals with_reducible rfl
  try simp only [Act.put, List.getElem_toArray, List.getElem_cons_succ, List.getElem_cons_zero, List.setIfInBounds_toArray, List.set_cons_zero, List.set_cons_succ]
  refine wpAnyH_take (i := 2) (oi := _) (v := ?_) rfl (by kernel_rfl) (by kernel_rfl) (by kernel_rfl) (fun _ _ _ h => h) (Or.inl ⟨by rfl, ?_⟩) hHeld ?_
  rotate_left
  · intro w hSw
    have d0 := hSw.cell 0 _ rfl
    go_simp
    all_goals with_reducible rfl
  try simp only [Act.put, List.getElem_toArray, List.getElem_cons_succ, List.getElem_cons_zero, List.setIfInBounds_toArray, List.set_cons_zero, List.set_cons_succ]
  refine wpAnyH_take (i := 3) (oi := _) (v := ?_) rfl (by kernel_rfl) (by kernel_rfl) (by kernel_rfl) (fun _ _ _ h => h) (Or.inl ⟨by rfl, ?_⟩) hHeld ?_
  rotate_left
  · intro w hSw
    try dsimp only at hSw
    go_simp
    all_goals with_reducible rfl
  try simp only [Act.put, List.getElem_toArray, List.getElem_cons_succ, List.getElem_cons_zero, List.setIfInBounds_toArray, List.set_cons_zero, List.set_cons_succ]
  refine wpAnyH_take (i := 4) (oi := _) (v := ?_) rfl (by kernel_rfl) (by kernel_rfl) (by kernel_rfl) (fun _ _ _ h => h) (Or.inl ⟨by rfl, ?_⟩) hHeld ?_
  rotate_left
  · intro w hSw
    try dsimp only at hSw
    go_simp
    all_goals with_reducible rfl
  try simp only [Act.put, List.getElem_toArray, List.getElem_cons_succ, List.getElem_cons_zero, List.setIfInBounds_toArray, List.set_cons_zero, List.set_cons_succ]
  refine wpAnyH_take (i := 5) (oi := _) (v := ?_) rfl (by kernel_rfl) (by kernel_rfl) (by kernel_rfl) (fun _ _ _ h => h) (Or.inl ⟨by rfl, ?_⟩) hHeld ?_
  rotate_left
  · intro w hSw
    have d1 := hSw.cell 1 _ rfl
    go_simp
    all_goals with_reducible rfl
  try simp only [Act.put, List.getElem_toArray, List.getElem_cons_succ, List.getElem_cons_zero, List.setIfInBounds_toArray, List.set_cons_zero, List.set_cons_succ]
  refine wpAnyH_take (i := 6) (oi := _) (v := ?_) rfl (by kernel_rfl) (by kernel_rfl) (by kernel_rfl) (fun _ _ _ h => h) (Or.inl ⟨by rfl, ?_⟩) hHeld ?_
  rotate_left
  · intro w hSw
    try dsimp only at hSw
    go_simp
    all_goals with_reducible rfl
  try simp only [Act.put, List.getElem_toArray, List.getElem_cons_succ, List.getElem_cons_zero, List.setIfInBounds_toArray, List.set_cons_zero, List.set_cons_succ]
  refine wpAnyH_take (i := 7) (oi := _) (v := ?_) rfl (by kernel_rfl) (by kernel_rfl) (by kernel_rfl) (fun _ _ _ h => h) (Or.inl ⟨by rfl, ?_⟩) hHeld ?_
  rotate_left
  · intro w hSw
    try dsimp only at hSw
    go_simp
    all_goals with_reducible rfl
  try simp only [Act.put, List.getElem_toArray, List.getElem_cons_succ, List.getElem_cons_zero, List.setIfInBounds_toArray, List.set_cons_zero, List.set_cons_succ]
  refine wpAnyH_take (i := 8) (oi := _) (v := ?_) rfl (by kernel_rfl) (by kernel_rfl) (by kernel_rfl) (fun _ _ _ h => h) (Or.inl ⟨by rfl, ?_⟩) hHeld ?_
  rotate_left
  · intro w hSw
    have d2 := hSw.cell 2 _ rfl
    go_simp
    all_goals with_reducible rfl
  try simp only [Act.put, List.getElem_toArray, List.getElem_cons_succ, List.getElem_cons_zero, List.setIfInBounds_toArray, List.set_cons_zero, List.set_cons_succ]
  refine wpAnyH_take (i := 9) (oi := _) (v := ?_) rfl (by kernel_rfl) (by kernel_rfl) (by kernel_rfl) (fun _ _ _ h => h) (Or.inl ⟨by rfl, ?_⟩) hHeld ?_
  rotate_left
  · intro w hSw
    try dsimp only at hSw
    go_simp
    all_goals with_reducible rfl
  try simp only [Act.put, List.getElem_toArray, List.getElem_cons_succ, List.getElem_cons_zero, List.setIfInBounds_toArray, List.set_cons_zero, List.set_cons_succ]
  refine wpAnyH_take (i := 10) (oi := _) (v := ?_) rfl (by kernel_rfl) (by kernel_rfl) (by kernel_rfl) (fun _ _ _ h => h) (Or.inl ⟨by rfl, ?_⟩) hHeld ?_
  rotate_left
  · intro w hSw
    try dsimp only at hSw
    go_simp
    all_goals with_reducible rfl
  try simp only [Act.put, List.getElem_toArray, List.getElem_cons_succ, List.getElem_cons_zero, List.setIfInBounds_toArray, List.set_cons_zero, List.set_cons_succ]
  refine wpAnyH_take (i := 11) (oi := _) (v := ?_) rfl (by kernel_rfl) (by kernel_rfl) (by kernel_rfl) (fun _ _ _ h => h) (Or.inl ⟨by rfl, ?_⟩) hHeld ?_
  rotate_left
  · intro w hSw
    have d3 := hSw.cell 3 _ rfl
    go_simp
    all_goals with_reducible rfl
  try simp only [Act.put, List.getElem_toArray, List.getElem_cons_succ, List.getElem_cons_zero, List.setIfInBounds_toArray, List.set_cons_zero, List.set_cons_succ]
  refine wpAnyH_take (i := 12) (oi := _) (v := ?_) rfl (by kernel_rfl) (by kernel_rfl) (by kernel_rfl) (fun _ _ _ h => h) (Or.inl ⟨by rfl, ?_⟩) hHeld ?_
  rotate_left
  · intro w hSw
    try dsimp only at hSw
    go_simp
    all_goals with_reducible rfl
  try simp only [Act.put, List.getElem_toArray, List.getElem_cons_succ, List.getElem_cons_zero, List.setIfInBounds_toArray, List.set_cons_zero, List.set_cons_succ]
  refine wpAnyH_take (i := 13) (oi := _) (v := ?_) rfl (by kernel_rfl) (by kernel_rfl) (by kernel_rfl) (fun _ _ _ h => h) (Or.inl ⟨by rfl, ?_⟩) hHeld ?_
  rotate_left
  · intro w hSw
    try dsimp only at hSw
    go_simp
    all_goals with_reducible rfl
  try simp only [Act.put, List.getElem_toArray, List.getElem_cons_succ, List.getElem_cons_zero, List.setIfInBounds_toArray, List.set_cons_zero, List.set_cons_succ]
  refine wpAnyH_take (i := 14) (oi := _) (v := ?_) rfl (by kernel_rfl) (by kernel_rfl) (by kernel_rfl) (fun _ _ _ h => h) (Or.inl ⟨by rfl, ?_⟩) hHeld ?_
  rotate_left
  · intro w hSw
    have d4 := hSw.cell 4 _ rfl
    go_simp
    all_goals with_reducible rfl
  try simp only [Act.put, List.getElem_toArray, List.getElem_cons_succ, List.getElem_cons_zero, List.setIfInBounds_toArray, List.set_cons_zero, List.set_cons_succ]
  refine wpAnyH_take (i := 15) (oi := _) (v := ?_) rfl (by kernel_rfl) (by kernel_rfl) (by kernel_rfl) (fun _ _ _ h => h) (Or.inl ⟨by rfl, ?_⟩) hHeld ?_
  rotate_left
  · intro w hSw
    try dsimp only at hSw
    go_simp
    all_goals with_reducible rfl
  try simp only [Act.put, List.getElem_toArray, List.getElem_cons_succ, List.getElem_cons_zero, List.setIfInBounds_toArray, List.set_cons_zero, List.set_cons_succ]
  refine wpAnyH_take (i := 16) (oi := _) (v := ?_) rfl (by kernel_rfl) (by kernel_rfl) (by kernel_rfl) (fun _ _ _ h => h) (Or.inl ⟨by rfl, ?_⟩) hHeld ?_
  rotate_left
  · intro w hSw
    have d5 := hSw.cell 5 _ rfl
    go_simp
    all_goals with_reducible rfl
  try simp only [Act.put, List.getElem_toArray, List.getElem_cons_succ, List.getElem_cons_zero, List.setIfInBounds_toArray, List.set_cons_zero, List.set_cons_succ]
  refine wpAnyH_take (i := 17) (oi := _) (v := ?_) rfl (by kernel_rfl) (by kernel_rfl) (by kernel_rfl) (fun _ _ _ h => h) (Or.inl ⟨by rfl, ?_⟩) hHeld ?_
  rotate_left
  · intro w hSw
    try dsimp only at hSw
    go_simp
    all_goals with_reducible rfl
  try simp only [Act.put, List.getElem_toArray, List.getElem_cons_succ, List.getElem_cons_zero, List.setIfInBounds_toArray, List.set_cons_zero, List.set_cons_succ]
  refine wpAnyH_take (i := 18) (oi := _) (v := ?_) rfl (by kernel_rfl) (by kernel_rfl) (by kernel_rfl) (fun _ _ _ h => h) (Or.inl ⟨by rfl, ?_⟩) hHeld ?_
  rotate_left
  · intro w hSw
    have d6 := hSw.cell 6 _ rfl
    go_simp
    all_goals with_reducible rfl
  try simp only [Act.put, List.getElem_toArray, List.getElem_cons_succ, List.getElem_cons_zero, List.setIfInBounds_toArray, List.set_cons_zero, List.set_cons_succ]
  refine wpAnyH_take (i := 19) (oi := _) (v := .agg (stv k ax ay fx fy u g d o).toArray) rfl (by kernel_rfl) (by kernel_rfl) (by kernel_rfl) (fun _ _ _ h => h) (yieldsIf_load_mid (by rfl) 32 (.tmp 1) rfl w.heap.size 0 rfl (stv k ax ay fx fy u g d o) _ (fun W hS => hS.range) Try.underlying32 rfl state_size) hHeld ?_
  try simp only [Act.put, List.getElem_toArray, List.getElem_cons_succ, List.getElem_cons_zero, List.setIfInBounds_toArray, List.set_cons_zero, List.set_cons_succ]
  refine wpAnyH_ready (rs := [20]) (by kernel_rfl) (by simp) ?_
  apply AllReadyH.cons rfl ?_ AllReadyH.nil
  intro K hK
  rw [if_pos (by rfl)]
  refine wp_call_fn ⟨_, Try.func38, by kernel_rfl, by rfl⟩ _ _ rfl #[sta k ax ay fx fy u g d o] (by simp only [List.map_toArray, List.map_cons, List.map_nil]; rfl) (C.out _) (bel_back fun w3 B => ?_)
  replace P := P.step B
  replace D := D.step B
  replace H := Lib.hid (bl_trans H.out B)
  clear B hHeld
  refine hK.out _ _ P (fun hHeld => ?_)
  clear hK K
  try simp only [Act.put, List.getElem_toArray, List.getElem_cons_succ, List.getElem_cons_zero, List.setIfInBounds_toArray, List.set_cons_zero, List.set_cons_succ]
  refine wpAnyH_ready (rs := [21]) (by kernel_rfl) (by simp) ?_
  apply AllReadyH.cons rfl ?_ AllReadyH.nil
  intro K hK
  go_simp
  have A8 := Ints.eight w3 w3.heap.size k ax ay fx fy u g ee 3 rfl
  have o8 : w1.heap.size < w3.heap.size := D.lt
  replace P := P.alloc (.cells #[.int .i64 k, .int .i64 ax, .int .i64 ay, .int .i64 fx, .int .i64 fy, .int .i64 u, .int .i64 g, .int .i64 ee] 3)
  replace D := D.alloc (.cells #[.int .i64 k, .int .i64 ax, .int .i64 ay, .int .i64 fx, .int .i64 fy, .int .i64 u, .int .i64 g, .int .i64 ee] 3)
  replace H := Lib.hid (bl_alloc H.out (.cells #[.int .i64 k, .int .i64 ax, .int .i64 ay, .int .i64 fx, .int .i64 fy, .int .i64 u, .int .i64 g, .int .i64 ee] 3))
  clear hHeld
  refine hK.out _ _ P (fun hHeld => ?_)
  clear hK K
  try simp only [Act.put, List.getElem_toArray, List.getElem_cons_succ, List.getElem_cons_zero, List.setIfInBounds_toArray, List.set_cons_zero, List.set_cons_succ]
  refine wpAnyH_ready (rs := [22]) (by kernel_rfl) (by simp) ?_
  apply AllReadyH.cons rfl ?_ AllReadyH.nil
  intro K hK
  go_simp
  go_at_call 65
  refine (implCont 17 _ 8 8 _ _ _ (by omega) (by omega) A8 (fun _ k off e => by cases e; omega) D (by omega)).mono ?_
  rintro e w4 ⟨rfl, _, K⟩
  replace P := P.kept K (by omega)
  replace H := Lib.hid (kp_below H.out K (by omega))
  clear K D A8 hHeld
  go_wp2_with fail
  refine hK.out _ _ P (fun hHeld => ?_)
  clear hK K
  try simp only [Act.put, List.getElem_toArray, List.getElem_cons_succ, List.getElem_cons_zero, List.setIfInBounds_toArray, List.set_cons_zero, List.set_cons_succ]
  refine wpAnyH_take (i := 23) (oi := _) (v := ?_) rfl (by kernel_rfl) (by kernel_rfl) (by kernel_rfl) (fun _ _ _ h => h) (Or.inl ⟨by rfl, ?_⟩) hHeld ?_
  rotate_left
  · intro w hSw
    try dsimp only at hSw
    go_simp
    all_goals with_reducible rfl
  try simp only [Act.put, List.getElem_toArray, List.getElem_cons_succ, List.getElem_cons_zero, List.setIfInBounds_toArray, List.set_cons_zero, List.set_cons_succ]
  refine wpAnyH_done (by kernel_rfl) ?_ _
  go_wp2
  go_ret
  exact ⟨ret_int (by rw [E.out]), H.out⟩

end Go.Proofs.Ytnoenjociioffab
