import Derived.Test.YtkpogcflgghfiaaDoorZLevS
set_option maxRecDepth 100000
set_option maxHeartbeats 8000000
open Go.Lib
namespace Go.Proofs.YtkpogcflgghfiaaDoor
open Go.RowKit
open M
theorem specBTouch2 (a b c d x y r:Int) (w:World) (hb:bvB a b c d=true) (x1:-2000000≤x) (x2:x≤2000000) (y1:-2000000≤y) (y2:y≤2000000) (r0:0≤r) (r1:r≤1000000):Calls Tryd.prog 76 #[box a b c d,vec x y,.int .i64 r] w fun e w'=>e=.returned (.bool (t0B a b c d x y r))∧Below w.heap.size w w':=by
 obtain ⟨⟨⟨a1,a2⟩,b1,b2⟩,⟨⟨c1,c2⟩,d1,d2⟩,ac,bd⟩:=(bv_iff a b c d).1 hb;have n1:-1000000≤max a (min x c)∧max a (min x c)≤1000000:=by omega
 have n2:-1000000≤max b (min y d)∧max b (min y d)≤1000000:=by omega
 have E:=hid (show t0B a b c d x y r=decide ((x-max a (min x c))*(x-max a (min x c))+(y-max b (min y d))*(y-max b (min y d))≤r*r) from rfl);have Q:=hid (fun W=>specBNear0 a b c d x y W);clear hb;generalize max a (min x c)=X at *;generalize max b (min y d)=Y at *;have m1:=mul_bd (a:=x-X) (b:=x-X) (by omega) (by omega) (by omega) (by omega);have m2:=mul_bd (a:=y-Y) (b:=y-Y) (by omega) (by omega) (by omega) (by omega);have m3:=mul_bd (a:=r) (b:=r) (by omega) (by omega) (by omega) (by omega);go_enter Tryd.func76,Tryd.ntmps76;go_wp2_with fail;refine (Q.out _).mono ?_;rintro e w1 ⟨rfl,B1⟩;obtain ⟨hc1,hf1⟩:=bcell B1
 have l0:w.heap.size<w1.heap.size:=by have:=B1.size; simp at this; omega
 have l1:w.heap.size+1<w1.heap.size:=by have:=B1.size; simp at this; omega
 have H1:=hid (bl_trans (bl_alloc (bl_alloc (bl_refl w) _) _) B1);clear B1 Q;go_wp2;go_ret;exact ⟨ret_b (by rw [E.out]),bl_alloc H1.out _⟩
theorem specFree2 (i t x y:Int) (A:Option Addr) (n c:Nat) (G:Option Addr) (m k:Nat) (p q r s b:Int) (ws:List Bx) (u v:Int) (w:World) (I:Boxes w A n ws) (ok:bxs ws=true) (u1:-2000000≤u) (u2:u≤2000000) (v1:-2000000≤v) (v2:v≤2000000) (hn:n≤281474976710656) :
 Calls Tryd.prog 56 #[lev i t x y A n c G m k p q r s b,vec u v] w fun e w'=>e=.returned (.bool (frB ws u v))∧Below w.heap.size w w':=by
 have hl:=hid I.1;have I:=hid I;have ok:=hid ok;go_enter Tryd.func56,Tryd.ntmps56;go_wp2
 go_loopw [5] (FreeRel w n ws u v (lvs i t x y A n c G m k p q r s b)) (fun i _=>n-(intOf i).toNat)
 case atStart=>exact ⟨0,Nat.zero_le _,rfl,rfl,(CellsAt.new w _ _ _ rfl).alloc _,PCell.new _ _ _ _ _ (by simp),bl_alloc (bl_alloc (bl_refl w) _) _⟩
 case round =>
  obtain ⟨j,hj,rfl,ha,L,P,B⟩:=hrel;have ha:=hid ha;have l4:=L.cell 4 _ rfl;have ll:=L.lt;have pl:=P.lt;by_cases hlt:j<n
  · obtain ⟨bb,off,rfl,hb,hcell⟩:=(I.out.step B).2 (by omega);have Z:=(hcell j hlt).lie hb;have hkl:j<ws.length:=by have:=hl.out; omega
    have HS:=all_next (f:=fun z=>!(z.hit u v)) hkl ha.out;have HN:=all_no (f:=fun z=>!(z.hit u v)) hkl;have HO:=all_mem (f:=Bx.ok) ok.out hkl;have Hb:=hid B;clear hcell hkl B;generalize ws.getD j bz=z at *;obtain ⟨za,zb,zc,zd⟩:=z;simp only at Z;have C:=hid (fun W:World=>specBTouch2 za zb zc zd u v 500 W HO u1 u2 v1 v2 (by omega) (by omega));cases hz:t0B za zb zc zd u v 500
    · have E:=hid (HS (show (!(t0B za zb zc zd u v 500))=true by rw [hz]; rfl));clear HN HS HO;rw [hz] at C;go_wp2_with fail
      go_region_held3 (fun w'=>(w'.cell? ⟨w.heap.size,4,none⟩=some (.slice (some ⟨bb,off,none⟩) n c))∧(w'.cell? ⟨bb,off+j*4,none⟩=some (.int .i64 za)∧w'.cell? ⟨bb,off+j*4+1,none⟩=some (.int .i64 zb)∧w'.cell? ⟨bb,off+j*4+2,none⟩=some (.int .i64 zc)∧w'.cell? ⟨bb,off+j*4+3,none⟩=some (.int .i64 zd))∧(w'.cell? ⟨w.heap.size+1,0,none⟩=some (.int .i64 u)∧w'.cell? ⟨w.heap.size+1,1,none⟩=some (.int .i64 v)))
       (exact ⟨lv_walls (by repeat (first | with_reducible exact L | with_reducible refine CellsAt.far ?_ (by omega) _ _ | with_reducible refine CellsAt.alloc ?_ _ | with_reducible refine CellsAt.drew ?_)),bi_four (by repeat (first | with_reducible exact Z | with_reducible refine BoxIn.far ?_ (by omega) _ _ | with_reducible refine BoxIn.alloc ?_ _ | with_reducible refine BoxIn.drew ?_)),pc_pair (by repeat (first | with_reducible exact P | with_reducible refine PCell.far ?_ (by omega) _ _ | with_reducible refine PCell.alloc ?_ _ | with_reducible refine PCell.drew ?_))⟩)
       ((go_at_call 76; (with_reducible refine (C.out _).mono ?_); rintro e wn ⟨rfl,Bn⟩; have L:=CellsAt.step (by first | with_reducible exact L | with_reducible exact L.drew) Bn; have P:=PCell.step (by first | with_reducible exact P | with_reducible exact P.drew) Bn; have Z:=BoxIn.step (by first | with_reducible exact Z | with_reducible exact Z.drew) Bn; have Hb:=hid (bl_trans (by first | with_reducible exact Hb.out | with_reducible exact bl_drew1 Hb.out) Bn); clear Bn))
      all_goals
       go_wp2
       go_roundw
       case rel=>exact ⟨j+1,by omega,by go_num,E.out,L,P,Hb.out⟩
       case measure=>simp [intOf]; omega
    · have E:=hid (HN (show (!(t0B za zb zc zd u v 500))=false by rw [hz]; rfl));clear HN HS HO;rw [hz] at C;go_wp2_with fail
      go_region_held3 (fun w'=>(w'.cell? ⟨w.heap.size,4,none⟩=some (.slice (some ⟨bb,off,none⟩) n c))∧(w'.cell? ⟨bb,off+j*4,none⟩=some (.int .i64 za)∧w'.cell? ⟨bb,off+j*4+1,none⟩=some (.int .i64 zb)∧w'.cell? ⟨bb,off+j*4+2,none⟩=some (.int .i64 zc)∧w'.cell? ⟨bb,off+j*4+3,none⟩=some (.int .i64 zd))∧(w'.cell? ⟨w.heap.size+1,0,none⟩=some (.int .i64 u)∧w'.cell? ⟨w.heap.size+1,1,none⟩=some (.int .i64 v)))
       (exact ⟨lv_walls (by repeat (first | with_reducible exact L | with_reducible refine CellsAt.far ?_ (by omega) _ _ | with_reducible refine CellsAt.alloc ?_ _ | with_reducible refine CellsAt.drew ?_)),bi_four (by repeat (first | with_reducible exact Z | with_reducible refine BoxIn.far ?_ (by omega) _ _ | with_reducible refine BoxIn.alloc ?_ _ | with_reducible refine BoxIn.drew ?_)),pc_pair (by repeat (first | with_reducible exact P | with_reducible refine PCell.far ?_ (by omega) _ _ | with_reducible refine PCell.alloc ?_ _ | with_reducible refine PCell.drew ?_))⟩)
       ((go_at_call 76; (with_reducible refine (C.out _).mono ?_); rintro e wn ⟨rfl,Bn⟩; have L:=CellsAt.step (by first | with_reducible exact L | with_reducible exact L.drew) Bn; have P:=PCell.step (by first | with_reducible exact P | with_reducible exact P.drew) Bn; have Z:=BoxIn.step (by first | with_reducible exact Z | with_reducible exact Z.drew) Bn; have Hb:=hid (bl_trans (by first | with_reducible exact Hb.out | with_reducible exact bl_drew1 Hb.out) Bn); clear Bn))
      all_goals
       go_wp2;go_ret;exact ⟨ret_b (by unfold frB; rw [E.out]),Hb.out⟩
  · have E:=hid (all_end (f:=fun z=>!(z.hit u v)) (by have:=hl.out; omega) ha.out);have B:=hid B;go_wp2;go_ret;exact ⟨ret_b (by unfold frB; rw [E.out]),B.out⟩
end Go.Proofs.YtkpogcflgghfiaaDoor
