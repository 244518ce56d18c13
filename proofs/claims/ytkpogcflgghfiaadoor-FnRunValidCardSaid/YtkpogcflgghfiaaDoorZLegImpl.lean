import Derived.Test.YtkpogcflgghfiaaDoorZLeg
import Derived.Test.YtkpogcflgghfiaaDoorZInImpl
set_option linter.all false
set_option maxRecDepth 100000
set_option maxHeartbeats 8000000
open Go.Lib
namespace Go.Proofs.YtkpogcflgghfiaaDoor
open Go.RowKit
open M
def Qy (w:World) (g bm k:Nat) (xs:List In) (t b:Int) (vs:List Value) (pv iv:Value) (W:World):Prop :=
 ∃ (j:Nat) (a s0 p0:Int) (z0:Bool),j≤k∧iv=.int .i64 j∧pv=.int .i64 a∧(0≤a∧a≤3)∧(-1≤s0∧s0≤1)∧JG t b xs=Hi t b (xs.drop j) j a s0∧CellsAt W w.heap.size vs∧CellsAt W g (ins s0 p0 z0)∧Bans W bm (Ip b 1) (Ip b 2)∧Below w.heap.size w W
theorem Bans.far {w:World} {b r:Nat} {x y:Bool} (h:Bans w b x y) (hne:b≠r) (o:Nat) (v:Value):Bans (w.setCell ⟨r,o,none⟩ v) b x y:=h.kept (NU (Kept.refl r w) o v) hne
theorem Bans.lt {w:World} {b:Nat} {x y:Bool} (h:Bans w b x y):b<w.heap.size:=World.ownsMap.lt h
theorem La (i t x y:Int) (A:Option Addr) (n c:Nat) (G:Option Addr) (m kk:Nat) (fp fq fs fz b:Int) (ws gs:List Bx) (D:Option Addr) (k cc:Nat) (xs:List In) (w:World) (I:Boxes w A n ws) (J:Boxes w G m gs) (hn:n≤281474976710656) (hm:m≤281474976710656) (Y:Inputs w D k xs) (hk:k≤281474976710656) :
 Calls Tryd.prog 32 #[CN i t x y A n c G m kk fp fq fs fz b,.slice D k cc] w fun e w'=>e=.returned (.int .i64 (JX i t x y ws gs fp fq fs fz b xs))∧Below w.heap.size w w':=by
 have V:=fun (W:World) (Z:Boxes W A n ws) (X:Boxes W G m gs)=>B0 i t x y A n c G m kk fp fq fs fz b ws gs W Z X hn hm;have T:=fun (W:World) (Z:Boxes W A n ws) (X:Boxes W G m gs)=>Ou i t x y A n c G m kk fp fq fs fz b ws gs W Z X hn hm;have hl:=hid Y.1;have I:=hid I;have J:=hid J;have Y:=hid Y;cases h:Ch i t x y ws gs fp fq fs fz b
 · rw [h] at V;have E:=hid (show JX i t x y ws gs fp fq fs fz b xs=0 by simp [JX,h]);have V:=hid V;clear h T;go_enter Tryd.func32,Tryd.ntmps32;go_wp2_with fail;refine (V.out _ (I.out.alloc _) (J.out.alloc _)).mono ?_;rintro e w1 ⟨rfl,B⟩;have H:=hid (Ab (Aa (Ac w) _) B);clear B;go_wp2;go_ret;exact ⟨BD (by rw [E.out]),H.out⟩
 have e1:Le i t x y ws gs fp fq fs fz b 1=Ip b 1:=by simp [Le,h,A9]
 have e2:Le i t x y ws gs fp fq fs fz b 2=Ip b 2:=by simp [Le,h,A9]
 rw [e1,e2] at T;rw [h] at V;have E0:=hid (show JX i t x y ws gs fp fq fs fz b xs=JG t b xs by simp [JX,h]);have V:=hid V;have T:=hid T;clear h e1 e2;go_enter Tryd.func32,Tryd.ntmps32;go_wp2_with fail;refine (V.out _ (I.out.alloc _) (J.out.alloc _)).mono ?_;rintro e w1 ⟨rfl,B⟩;have L:CellsAt w1 w.heap.size (AQ i t x y A n c G m kk fp fq fs fz b):=(CellsAt.new w _ _ _ rfl).step B;have H:=hid (Ab (Aa (Ac w) _) B);clear B V;obtain ⟨Lc0,Lc1,Lc2,Lc3,Lc4,Lc5,Lc6,Lc7,Lc8,Lc9,Lc10⟩:=AF L;have Ll:=L.lt;go_wp2_with fail;refine (T.out _ (I.out.step H.out) (J.out.step H.out)).mono ?_;rintro e w2 ⟨bm,rfl,MP,B⟩;replace L:=L.step B
 replace H:=hid (Ab H.out B);clear B T Lc0 Lc1 Lc2 Lc3 Lc4 Lc5 Lc6 Lc7 Lc8 Lc9 Lc10 Ll;have hg:=H.out.size;have hbm:=MP.lt;have L0:=L.alloc (.cells #[.int .i64 0,.int .i64 0,.bool false] 39);have Q0:CellsAt (w2.alloc (.cells #[.int .i64 0,.int .i64 0,.bool false] 39)) w2.heap.size (ins 0 0 false):=CellsAt.new _ _ _ _ rfl;have M0:=hid (MP.alloc (.cells #[.int .i64 0,.int .i64 0,.bool false] 39));have H0:=hid (Aa H.out (.cells #[.int .i64 0,.int .i64 0,.bool false] 39));have hLg:=L.lt;clear MP L H;go_wp2;generalize w2.heap.size=g at *
 go_loopw [6,17] (Qy w g bm k xs t b (AQ i t x y A n c G m kk fp fq fs fz b)) (fun _ i _=>k-(intOf i).toNat)
 case atStart=>exact ⟨0,0,0,0,false,Nat.zero_le _,rfl,rfl,by omega,by omega,rfl,L0,Q0,M0.out,H0.out⟩
 case round =>
  clear L0 Q0 M0 H0;obtain ⟨j,a,s0,p0,z0,hj,rfl,rfl,⟨a0,a3⟩,⟨s1,s2⟩,e0,L,Q,MP,B⟩:=hrel;have e0:=hid e0;have MP:=hid MP;by_cases hlt:j<k
  · obtain ⟨bb,off,rfl,hb,hcell⟩:=(Y.out.step B).2 (by omega);have Z:=(hcell j hlt).lie hb;have hjl:j<xs.length:=by have:=hl.out; omega
    have hd:=drop_at hjl;have Hb:=hid B;clear hcell hjl B;generalize xs.getD j iz=q at *;obtain ⟨s,p,z⟩:=q;simp only at Z;have e1:=hid (e0.out.trans (by rw [hd]));clear hd e0;have C:=fun (W:World) (U:Bans W bm (Ip b 1) (Ip b 2))=>Ov bm _ _ s0 p0 z0 s p z W U s1 s2;rw [flF_of] at C;cases z
    · by_cases g1:t≤(j:Int)
      · have E:=hid (e1.out.trans (BI (Qt g1)));clear C;have d0:=Z.c0;have d1:=Z.c1;have d2:=Z.c2;have Zl:=Z.lt;obtain ⟨Lc0,Lc1,Lc2,Lc3,Lc4,Lc5,Lc6,Lc7,Lc8,Lc9,Lc10⟩:=AF L;have Ll:=L.lt;obtain ⟨Qc0,Qc1,Qc2⟩:=BK Q;have Ql:=Q.lt;go_wp2;go_ret;exact ⟨BD (by rw [E0.out,E.out]),Aa Hb.out _⟩
      have g1:(j:Int)<t:=by omega
      have g1d:decide (t≤(j:Int))=false:=decide_eq_false (by omega);have g2d:decide (3<a)=false:=decide_eq_false (by omega);cases hf:FP b s0 s p false
      · have E:=hid (e1.out.trans (BI (Qu hf)));rw [hf] at C;replace C:=hid C;have d0:=Z.c0;have d1:=Z.c1;have d2:=Z.c2;have Zl:=Z.lt;obtain ⟨Lc0,Lc1,Lc2,Lc3,Lc4,Lc5,Lc6,Lc7,Lc8,Lc9,Lc10⟩:=AF L;have Ll:=L.lt;obtain ⟨Qc0,Qc1,Qc2⟩:=BK Q;have Ql:=Q.lt;go_wp2_with fail;refine (C.out _ (MP.out.alloc _)).mono ?_;rintro e wn ⟨rfl,B⟩;have X:CellsAt wn _ (ins s p false):=(CellsAt.new _ _ _ 39 rfl).step B;replace L:=(L.alloc _).step B;replace Q:=(Q.alloc _).step B;replace MP:=hid ((MP.out.alloc _).step B);replace Hb:=hid (Ab (Aa Hb.out _) B);have zn:=B.size;simp at zn
        clear B d0 d1 d2 Zl Lc0 Lc1 Lc2 Lc3 Lc4 Lc5 Lc6 Lc7 Lc8 Lc9 Lc10 Ll Qc0 Qc1 Qc2;clear Ql;go_wp2;go_ret;exact ⟨BD (by rw [E0.out,E.out]),Hb.out⟩
      have E:=hid (e1.out.trans (Dz (I9 g1 (show GP a false≤3 by simp only [GP]; simpa using a3) hf)));have hv:=(EN (FX hf)).1;rw [hf] at C;replace C:=hid C;have d0:=Z.c0;have d1:=Z.c1;have d2:=Z.c2;have Zl:=Z.lt;obtain ⟨Lc0,Lc1,Lc2,Lc3,Lc4,Lc5,Lc6,Lc7,Lc8,Lc9,Lc10⟩:=AF L;have Ll:=L.lt;obtain ⟨Qc0,Qc1,Qc2⟩:=BK Q;have Ql:=Q.lt;go_wp2_with fail;refine (C.out _ (MP.out.alloc _)).mono ?_;rintro e wn ⟨rfl,B⟩;have X:CellsAt wn _ (ins s p false):=(CellsAt.new _ _ _ 39 rfl).step B;replace L:=(L.alloc _).step B;replace Q:=(Q.alloc _).step B;replace MP:=hid ((MP.out.alloc _).step B);replace Hb:=hid (Ab (Aa Hb.out _) B)
      have zn:=B.size;simp at zn;clear B d0 d1 d2 Zl Lc0 Lc1 Lc2 Lc3 Lc4 Lc5 Lc6 Lc7 Lc8 Lc9 Lc10 Ll Qc0 Qc1 Qc2;have Qf0:=Q.fr 0;have Qf1:=Q.fr 1;have Qf2:=Q.fr 2;obtain ⟨Qc0,Qc1,Qc2⟩:=BK Q;obtain ⟨Xc0,Xc1,Xc2⟩:=BK X;have Xl:=X.lt;go_wp2
      go_roundw
      case rel=>exact ⟨j+1,a,s,p,false,by omega,by go_num,rfl,by omega,by omega,by rw [E.out]; simp [GP],((L.far (by omega) _ _).far (by omega) _ _).far (by omega) _ _,((Q.set 0 (by simp) _).set 1 (by simp) _).set 2 (by simp) _,((MP.out.far (by omega) _ _).far (by omega) _ _).far (by omega) _ _,Am (Am (Am Hb.out _ _ _ (by omega)) _ _ _ (by omega)) _ _ _ (by omega)⟩
      case measure=>simp [intOf]; omega
    · by_cases g1:t≤(j:Int)
      · have E:=hid (e1.out.trans (BI (Qt g1)));clear C;have d0:=Z.c0;have d1:=Z.c1;have d2:=Z.c2;have Zl:=Z.lt;obtain ⟨Lc0,Lc1,Lc2,Lc3,Lc4,Lc5,Lc6,Lc7,Lc8,Lc9,Lc10⟩:=AF L;have Ll:=L.lt;obtain ⟨Qc0,Qc1,Qc2⟩:=BK Q;have Ql:=Q.lt;go_wp2;go_ret;exact ⟨BD (by rw [E0.out,E.out]),Aa Hb.out _⟩
      have g1:(j:Int)<t:=by omega
      have g1d:decide (t≤(j:Int))=false:=decide_eq_false (by omega);by_cases g2:a=3
      · subst g2;have E:=hid (e1.out.trans (BI (TB (show 3<GP 3 true by decide))));clear C;have d0:=Z.c0;have d1:=Z.c1;have d2:=Z.c2;have Zl:=Z.lt;obtain ⟨Lc0,Lc1,Lc2,Lc3,Lc4,Lc5,Lc6,Lc7,Lc8,Lc9,Lc10⟩:=AF L;have Ll:=L.lt;obtain ⟨Qc0,Qc1,Qc2⟩:=BK Q;have Ql:=Q.lt;go_wp2;go_ret;exact ⟨BD (by rw [E0.out,E.out]),Aa Hb.out _⟩
      have g2:a+1≤3:=by omega
      have g2d:decide (3<a+1)=false:=decide_eq_false (by omega);cases hf:FP b s0 s p true
      · have E:=hid (e1.out.trans (BI (Qu hf)));rw [hf] at C;replace C:=hid C;have d0:=Z.c0;have d1:=Z.c1;have d2:=Z.c2;have Zl:=Z.lt;obtain ⟨Lc0,Lc1,Lc2,Lc3,Lc4,Lc5,Lc6,Lc7,Lc8,Lc9,Lc10⟩:=AF L;have Ll:=L.lt;obtain ⟨Qc0,Qc1,Qc2⟩:=BK Q;have Ql:=Q.lt;go_wp2_with fail;refine (C.out _ (MP.out.alloc _)).mono ?_;rintro e wn ⟨rfl,B⟩;have X:CellsAt wn _ (ins s p true):=(CellsAt.new _ _ _ 39 rfl).step B;replace L:=(L.alloc _).step B;replace Q:=(Q.alloc _).step B;replace MP:=hid ((MP.out.alloc _).step B);replace Hb:=hid (Ab (Aa Hb.out _) B);have zn:=B.size;simp at zn
        clear B d0 d1 d2 Zl Lc0 Lc1 Lc2 Lc3 Lc4 Lc5 Lc6 Lc7 Lc8 Lc9 Lc10 Ll Qc0 Qc1 Qc2;clear Ql;go_wp2;go_ret;exact ⟨BD (by rw [E0.out,E.out]),Hb.out⟩
      have E:=hid (e1.out.trans (Dz (I9 g1 (show GP a true≤3 by simp only [GP]; simpa using g2) hf)));have hv:=(EN (FX hf)).1;rw [hf] at C;replace C:=hid C;have d0:=Z.c0;have d1:=Z.c1;have d2:=Z.c2;have Zl:=Z.lt;obtain ⟨Lc0,Lc1,Lc2,Lc3,Lc4,Lc5,Lc6,Lc7,Lc8,Lc9,Lc10⟩:=AF L;have Ll:=L.lt;obtain ⟨Qc0,Qc1,Qc2⟩:=BK Q;have Ql:=Q.lt;go_wp2_with fail;refine (C.out _ (MP.out.alloc _)).mono ?_;rintro e wn ⟨rfl,B⟩;have X:CellsAt wn _ (ins s p true):=(CellsAt.new _ _ _ 39 rfl).step B;replace L:=(L.alloc _).step B;replace Q:=(Q.alloc _).step B;replace MP:=hid ((MP.out.alloc _).step B);replace Hb:=hid (Ab (Aa Hb.out _) B)
      have zn:=B.size;simp at zn;clear B d0 d1 d2 Zl Lc0 Lc1 Lc2 Lc3 Lc4 Lc5 Lc6 Lc7 Lc8 Lc9 Lc10 Ll Qc0 Qc1 Qc2;have Qf0:=Q.fr 0;have Qf1:=Q.fr 1;have Qf2:=Q.fr 2;obtain ⟨Qc0,Qc1,Qc2⟩:=BK Q;obtain ⟨Xc0,Xc1,Xc2⟩:=BK X;have Xl:=X.lt;go_wp2
      go_roundw
      case rel=>exact ⟨j+1,a+1,s,p,true,by omega,by go_num,by go_num,by omega,by omega,by rw [E.out]; simp [GP],((L.far (by omega) _ _).far (by omega) _ _).far (by omega) _ _,((Q.set 0 (by simp) _).set 1 (by simp) _).set 2 (by simp) _,((MP.out.far (by omega) _ _).far (by omega) _ _).far (by omega) _ _,Am (Am (Am Hb.out _ _ _ (by omega)) _ _ _ (by omega)) _ _ _ (by omega)⟩
      case measure=>simp [intOf]; omega
  · have E:=hid (Mf hl.out (by omega) e0.out);have B:=hid B;go_wp2;go_ret;exact ⟨BD (by rw [E0.out,E.out]),B.out⟩
end Go.Proofs.YtkpogcflgghfiaaDoor
