import Derived.Test.YtkpogcflgghfiaaDoorZLeg
import Derived.Test.YtkpogcflgghfiaaDoorZInImpl
import Derived.Test.YtkpogcflgghfiaaDoorZDrawRun
import Derived.Test.YtkpogcflgghfiaaDoorZDrawLevB
set_option linter.all false
set_option maxRecDepth 100000
set_option maxHeartbeats 8000000
open Go.Lib
namespace Go.Proofs.YtkpogcflgghfiaaDoor
open Go.RowKit
open M
def QE (w:World) (g bm k:Nat) (xs:List In) (t b:Int) (vs:List Value) (pv iv:Value) (W:World):Prop :=
 ∃ (j:Nat) (a s0 p0:Int) (z0:Bool),j≤k∧iv=.int .i64 j∧pv=.int .i64 a∧(0≤a∧a≤3)∧(-1≤s0∧s0≤1)∧JK t b xs=Ho t b (xs.drop j) j a s0∧CellsAt W w.heap.size vs∧CellsAt W g (ins s0 p0 z0)∧Bans W bm (Iu b 1) (Iu b 2)∧Below w.heap.size w W
theorem Bans.far {w:World} {b r:Nat} {x y:Bool} (h:Bans w b x y) (hne:b≠r) (o:Nat) (v:Value):Bans (w.setCell ⟨r,o,none⟩ v) b x y:=h.kept (N3 (Kept.refl r w) o v) hne
theorem Bans.lt {w:World} {b:Nat} {x y:Bool} (h:Bans w b x y):b<w.heap.size:=World.ownsMap.lt h
theorem Le (i t x y:Int) (A:Option Addr) (n c:Nat) (G:Option Addr) (m kk:Nat) (fp fq fs fz b:Int) (ws gs:List Bx) (D:Option Addr) (k cc:Nat) (xs:List In) (w:World) (I:Boxes w A n ws) (J:Boxes w G m gs) (hn:n≤281474976710656) (hm:m≤281474976710656) (Y:Inputs w D k xs) (hk:k≤281474976710656) :
 Calls Tryd.prog 32 #[CR i t x y A n c G m kk fp fq fs fz b,.slice D k cc] w fun e w'=>e=.returned (.int .i64 (Ka i t x y ws gs fp fq fs fz b xs))∧Below w.heap.size w w':=by
 have V:=fun (W:World) (Z:Boxes W A n ws) (X:Boxes W G m gs)=>Cb i t x y A n c G m kk fp fq fs fz b ws gs W Z X hn hm;have T:=fun (W:World) (Z:Boxes W A n ws) (X:Boxes W G m gs)=>OA i t x y A n c G m kk fp fq fs fz b ws gs W Z X hn hm;have hl:=hid Y.1;have I:=hid I;have J:=hid J;have Y:=hid Y;cases h:Cm i t x y ws gs fp fq fs fz b
 · rw [h] at V;have E:=hid (show Ka i t x y ws gs fp fq fs fz b xs=0 by simp [Ka,h]);have V:=hid V;clear h T;go_enter Tryd.func32,Tryd.ntmps32;go_wp2_with fail;refine (V.out _ (I.out.alloc _) (J.out.alloc _)).mono ?_;rintro e w1 ⟨rfl,B⟩;have H:=hid (Ab (Aa (Ac w) _) B);clear B;go_wp2;go_ret;exact ⟨BE (by rw [E.out]),H.out⟩
 have e1:Lj i t x y ws gs fp fq fs fz b 1=Iu b 1:=by simp [Lj,h,Ba]
 have e2:Lj i t x y ws gs fp fq fs fz b 2=Iu b 2:=by simp [Lj,h,Ba]
 rw [e1,e2] at T;rw [h] at V;have E0:=hid (show Ka i t x y ws gs fp fq fs fz b xs=JK t b xs by simp [Ka,h]);have V:=hid V;have T:=hid T;clear h e1 e2;go_enter Tryd.func32,Tryd.ntmps32;go_wp2_with fail;refine (V.out _ (I.out.alloc _) (J.out.alloc _)).mono ?_;rintro e w1 ⟨rfl,B⟩;have L:CellsAt w1 w.heap.size (AV i t x y A n c G m kk fp fq fs fz b):=(CellsAt.new w _ _ _ rfl).step B;have H:=hid (Ab (Aa (Ac w) _) B);clear B V;obtain ⟨Lc0,Lc1,Lc2,Lc3,Lc4,Lc5,Lc6,Lc7,Lc8,Lc9,Lc10⟩:=AG L;have Ll:=L.lt;go_wp2_with fail;refine (T.out _ (I.out.step H.out) (J.out.step H.out)).mono ?_;rintro e w2 ⟨bm,rfl,MP,B⟩;replace L:=L.step B
 replace H:=hid (Ab H.out B);clear B T Lc0 Lc1 Lc2 Lc3 Lc4 Lc5 Lc6 Lc7 Lc8 Lc9 Lc10 Ll;have hg:=H.out.size;have hbm:=MP.lt;have L0:=L.alloc (.cells #[.int .i64 0,.int .i64 0,.bool false] 39);have Q0:CellsAt (w2.alloc (.cells #[.int .i64 0,.int .i64 0,.bool false] 39)) w2.heap.size (ins 0 0 false):=CellsAt.new _ _ _ _ rfl;have M0:=hid (MP.alloc (.cells #[.int .i64 0,.int .i64 0,.bool false] 39));have H0:=hid (Aa H.out (.cells #[.int .i64 0,.int .i64 0,.bool false] 39));have hLg:=L.lt;clear MP L H;go_wp2;generalize w2.heap.size=g at *
 go_loopw [6,17] (QE w g bm k xs t b (AV i t x y A n c G m kk fp fq fs fz b)) (fun _ i _=>k-(intOf i).toNat)
 case atStart=>exact ⟨0,0,0,0,false,Nat.zero_le _,rfl,rfl,by omega,by omega,rfl,L0,Q0,M0.out,H0.out⟩
 case round =>
  clear L0 Q0 M0 H0;obtain ⟨j,a,s0,p0,z0,hj,rfl,rfl,⟨a0,a3⟩,⟨s1,s2⟩,e0,L,Q,MP,B⟩:=hrel;have e0:=hid e0;have MP:=hid MP;by_cases hlt:j<k
  · obtain ⟨bb,off,rfl,hb,hcell⟩:=(Y.out.step B).2 (by omega);have Z:=(hcell j hlt).lie hb;have hjl:j<xs.length:=by have:=hl.out; omega
    have hd:=drop_at hjl;have Hb:=hid B;clear hcell hjl B;generalize xs.getD j iz=q at *;obtain ⟨s,p,z⟩:=q;simp only at Z;have e1:=hid (e0.out.trans (by rw [hd]));clear hd e0;have C:=fun (W:World) (U:Bans W bm (Iu b 1) (Iu b 2))=>OB bm _ _ s0 p0 z0 s p z W U s1 s2;rw [flF_of] at C;cases z
    · by_cases g1:t≤(j:Int)
      · have E:=hid (e1.out.trans (BK (Qy g1)));clear C;have d0:=Z.c0;have d1:=Z.c1;have d2:=Z.c2;have Zl:=Z.lt;obtain ⟨Lc0,Lc1,Lc2,Lc3,Lc4,Lc5,Lc6,Lc7,Lc8,Lc9,Lc10⟩:=AG L;have Ll:=L.lt;obtain ⟨Qc0,Qc1,Qc2⟩:=BM Q;have Ql:=Q.lt;go_wp2;go_ret;exact ⟨BE (by rw [E0.out,E.out]),Aa Hb.out _⟩
      have g1:(j:Int)<t:=by omega
      have g1d:decide (t≤(j:Int))=false:=decide_eq_false (by omega);have g2d:decide (3<a)=false:=decide_eq_false (by omega);cases hf:FW b s0 s p false
      · have E:=hid (e1.out.trans (BK (Qz hf)));rw [hf] at C;replace C:=hid C;have d0:=Z.c0;have d1:=Z.c1;have d2:=Z.c2;have Zl:=Z.lt;obtain ⟨Lc0,Lc1,Lc2,Lc3,Lc4,Lc5,Lc6,Lc7,Lc8,Lc9,Lc10⟩:=AG L;have Ll:=L.lt;obtain ⟨Qc0,Qc1,Qc2⟩:=BM Q;have Ql:=Q.lt;go_wp2_with fail;refine (C.out _ (MP.out.alloc _)).mono ?_;rintro e wn ⟨rfl,B⟩;have X:CellsAt wn _ (ins s p false):=(CellsAt.new _ _ _ 39 rfl).step B;replace L:=(L.alloc _).step B;replace Q:=(Q.alloc _).step B;replace MP:=hid ((MP.out.alloc _).step B);replace Hb:=hid (Ab (Aa Hb.out _) B);have zn:=B.size;simp at zn
        clear B d0 d1 d2 Zl Lc0 Lc1 Lc2 Lc3 Lc4 Lc5 Lc6 Lc7 Lc8 Lc9 Lc10 Ll Qc0 Qc1 Qc2;clear Ql;go_wp2;go_ret;exact ⟨BE (by rw [E0.out,E.out]),Hb.out⟩
      have E:=hid (e1.out.trans (DG (Je g1 (show GW a false≤3 by simp only [GW]; simpa using a3) hf)));have hv:=(EY (F6 hf)).1;rw [hf] at C;replace C:=hid C;have d0:=Z.c0;have d1:=Z.c1;have d2:=Z.c2;have Zl:=Z.lt;obtain ⟨Lc0,Lc1,Lc2,Lc3,Lc4,Lc5,Lc6,Lc7,Lc8,Lc9,Lc10⟩:=AG L;have Ll:=L.lt;obtain ⟨Qc0,Qc1,Qc2⟩:=BM Q;have Ql:=Q.lt;go_wp2_with fail;refine (C.out _ (MP.out.alloc _)).mono ?_;rintro e wn ⟨rfl,B⟩;have X:CellsAt wn _ (ins s p false):=(CellsAt.new _ _ _ 39 rfl).step B;replace L:=(L.alloc _).step B;replace Q:=(Q.alloc _).step B;replace MP:=hid ((MP.out.alloc _).step B);replace Hb:=hid (Ab (Aa Hb.out _) B)
      have zn:=B.size;simp at zn;clear B d0 d1 d2 Zl Lc0 Lc1 Lc2 Lc3 Lc4 Lc5 Lc6 Lc7 Lc8 Lc9 Lc10 Ll Qc0 Qc1 Qc2;have Qf0:=Q.fr 0;have Qf1:=Q.fr 1;have Qf2:=Q.fr 2;obtain ⟨Qc0,Qc1,Qc2⟩:=BM Q;obtain ⟨Xc0,Xc1,Xc2⟩:=BM X;have Xl:=X.lt;go_wp2
      go_roundw
      case rel=>exact ⟨j+1,a,s,p,false,by omega,by go_num,rfl,by omega,by omega,by rw [E.out]; simp [GW],((L.far (by omega) _ _).far (by omega) _ _).far (by omega) _ _,((Q.set 0 (by simp) _).set 1 (by simp) _).set 2 (by simp) _,((MP.out.far (by omega) _ _).far (by omega) _ _).far (by omega) _ _,Am (Am (Am Hb.out _ _ _ (by omega)) _ _ _ (by omega)) _ _ _ (by omega)⟩
      case measure=>simp [intOf]; omega
    · by_cases g1:t≤(j:Int)
      · have E:=hid (e1.out.trans (BK (Qy g1)));clear C;have d0:=Z.c0;have d1:=Z.c1;have d2:=Z.c2;have Zl:=Z.lt;obtain ⟨Lc0,Lc1,Lc2,Lc3,Lc4,Lc5,Lc6,Lc7,Lc8,Lc9,Lc10⟩:=AG L;have Ll:=L.lt;obtain ⟨Qc0,Qc1,Qc2⟩:=BM Q;have Ql:=Q.lt;go_wp2;go_ret;exact ⟨BE (by rw [E0.out,E.out]),Aa Hb.out _⟩
      have g1:(j:Int)<t:=by omega
      have g1d:decide (t≤(j:Int))=false:=decide_eq_false (by omega);by_cases g2:a=3
      · subst g2;have E:=hid (e1.out.trans (BK (TF (show 3<GW 3 true by decide))));clear C;have d0:=Z.c0;have d1:=Z.c1;have d2:=Z.c2;have Zl:=Z.lt;obtain ⟨Lc0,Lc1,Lc2,Lc3,Lc4,Lc5,Lc6,Lc7,Lc8,Lc9,Lc10⟩:=AG L;have Ll:=L.lt;obtain ⟨Qc0,Qc1,Qc2⟩:=BM Q;have Ql:=Q.lt;go_wp2;go_ret;exact ⟨BE (by rw [E0.out,E.out]),Aa Hb.out _⟩
      have g2:a+1≤3:=by omega
      have g2d:decide (3<a+1)=false:=decide_eq_false (by omega);cases hf:FW b s0 s p true
      · have E:=hid (e1.out.trans (BK (Qz hf)));rw [hf] at C;replace C:=hid C;have d0:=Z.c0;have d1:=Z.c1;have d2:=Z.c2;have Zl:=Z.lt;obtain ⟨Lc0,Lc1,Lc2,Lc3,Lc4,Lc5,Lc6,Lc7,Lc8,Lc9,Lc10⟩:=AG L;have Ll:=L.lt;obtain ⟨Qc0,Qc1,Qc2⟩:=BM Q;have Ql:=Q.lt;go_wp2_with fail;refine (C.out _ (MP.out.alloc _)).mono ?_;rintro e wn ⟨rfl,B⟩;have X:CellsAt wn _ (ins s p true):=(CellsAt.new _ _ _ 39 rfl).step B;replace L:=(L.alloc _).step B;replace Q:=(Q.alloc _).step B;replace MP:=hid ((MP.out.alloc _).step B);replace Hb:=hid (Ab (Aa Hb.out _) B);have zn:=B.size;simp at zn
        clear B d0 d1 d2 Zl Lc0 Lc1 Lc2 Lc3 Lc4 Lc5 Lc6 Lc7 Lc8 Lc9 Lc10 Ll Qc0 Qc1 Qc2;clear Ql;go_wp2;go_ret;exact ⟨BE (by rw [E0.out,E.out]),Hb.out⟩
      have E:=hid (e1.out.trans (DG (Je g1 (show GW a true≤3 by simp only [GW]; simpa using g2) hf)));have hv:=(EY (F6 hf)).1;rw [hf] at C;replace C:=hid C;have d0:=Z.c0;have d1:=Z.c1;have d2:=Z.c2;have Zl:=Z.lt;obtain ⟨Lc0,Lc1,Lc2,Lc3,Lc4,Lc5,Lc6,Lc7,Lc8,Lc9,Lc10⟩:=AG L;have Ll:=L.lt;obtain ⟨Qc0,Qc1,Qc2⟩:=BM Q;have Ql:=Q.lt;go_wp2_with fail;refine (C.out _ (MP.out.alloc _)).mono ?_;rintro e wn ⟨rfl,B⟩;have X:CellsAt wn _ (ins s p true):=(CellsAt.new _ _ _ 39 rfl).step B;replace L:=(L.alloc _).step B;replace Q:=(Q.alloc _).step B;replace MP:=hid ((MP.out.alloc _).step B);replace Hb:=hid (Ab (Aa Hb.out _) B)
      have zn:=B.size;simp at zn;clear B d0 d1 d2 Zl Lc0 Lc1 Lc2 Lc3 Lc4 Lc5 Lc6 Lc7 Lc8 Lc9 Lc10 Ll Qc0 Qc1 Qc2;have Qf0:=Q.fr 0;have Qf1:=Q.fr 1;have Qf2:=Q.fr 2;obtain ⟨Qc0,Qc1,Qc2⟩:=BM Q;obtain ⟨Xc0,Xc1,Xc2⟩:=BM X;have Xl:=X.lt;go_wp2
      go_roundw
      case rel=>exact ⟨j+1,a+1,s,p,true,by omega,by go_num,by go_num,by omega,by omega,by rw [E.out]; simp [GW],((L.far (by omega) _ _).far (by omega) _ _).far (by omega) _ _,((Q.set 0 (by simp) _).set 1 (by simp) _).set 2 (by simp) _,((MP.out.far (by omega) _ _).far (by omega) _ _).far (by omega) _ _,Am (Am (Am Hb.out _ _ _ (by omega)) _ _ _ (by omega)) _ _ _ (by omega)⟩
      case measure=>simp [intOf]; omega
  · have E:=hid (Mk hl.out (by omega) e0.out);have B:=hid B;go_wp2;go_ret;exact ⟨BE (by rw [E0.out,E.out]),B.out⟩
end Go.Proofs.YtkpogcflgghfiaaDoor
namespace Go.Proofs.YtkpogcflgghfiaaDoor
open Go.RowKit
open M
theorem Ml:∀ (xs:List In) (i:Nat) (q:In),i<xs.length→(((EX xs).set (i*3) (.int .i64 q.s)).set (i*3+1) (.int .i64 q.p)).set (i*3+2) (.bool q.z)=EX (xs.set i q)
 | [],i,q,h=>absurd h (by simp)
 | a::xs,0,q,_=>rfl
 | a::xs,i+1,q,h=>by
  have e:(i+1)*3=i*3+1+1+1:=by omega
  have t:=Ml xs i q (by simpa using h);rw [e];simp only [EX,List.set_cons_succ];rw [t]
def TH (B:Nat) (r:Nat) (k:Int) (w:World) (e:Ending) (w':World):Prop :=
 ∃ (A:Option Addr) (n c:Nat) (xs:List In),e=.returned (.slice A n c)∧(n≤63∧n≤c)∧Inputs w' A n xs∧CU w.heap.size A∧RdU B w' r (k+230)∧Kept r w w'
def IF (B:Nat) (r:Nat) (k:Int) (w:World) (e:Ending) (w':World):Prop :=
 ∃ (A:Option Addr) (n c:Nat) (xs:List In),Cel w' A∧e=.returned (.slice A n c)∧(n≤63∧n≤c)∧Inputs w' A n xs∧CU w.heap.size A∧RdU B w' r (k+230)∧Kept r w w'
theorem Fy {B r:Nat} {k k':Int} {w W:World} {v:Value} {N:Nat} {ys:List In} (O:W.ownsRow w.heap.size 39 3 v N (EX ys)) (hN:N≤63) (R:RdU B W r k') (hk:k'≤k+230) (K:Kept r w W):IF B r k w (.returned v) W:=by
 obtain ⟨A,c,rfl,I,M⟩:=Inputs.of_own O;exact ⟨A,N,c,ys,Cel.of_own O,rfl,⟨hN,EH O⟩,I,M,R.mono hk,K⟩
theorem Inputs.two (w:World) (B:Nat) (a b:Int) (c:Bool) (d e:Int) (f:Bool) (t:TypeId) (hB:B=w.heap.size):Inputs (w.alloc (.cells #[.int .i64 a,.int .i64 b,.bool c,.int .i64 d,.int .i64 e,.bool f] t)) (some ⟨B,0,none⟩) 2 [⟨a,b,c⟩,⟨d,e,f⟩] :=
 hB▸⟨rfl,fun _=>⟨w.heap.size,0,rfl,by simp,fun k hk=>by
  match k,hk with
  | 0,_=>exact ⟨by simp,by simp,by simp⟩
  | 1,_=>exact ⟨by simp,by simp,by simp⟩⟩⟩
theorem Inputs.three (w:World) (B:Nat) (a b:Int) (c:Bool) (d e:Int) (f:Bool) (g h:Int) (i:Bool) (t:TypeId) (hB:B=w.heap.size):Inputs (w.alloc (.cells #[.int .i64 a,.int .i64 b,.bool c,.int .i64 d,.int .i64 e,.bool f,.int .i64 g,.int .i64 h,.bool i] t)) (some ⟨B,0,none⟩) 3 [⟨a,b,c⟩,⟨d,e,f⟩,⟨g,h,i⟩] :=
 hB▸⟨rfl,fun _=>⟨w.heap.size,0,rfl,by simp,fun k hk=>by
  match k,hk with
  | 0,_=>exact ⟨by simp,by simp,by simp⟩
  | 1,_=>exact ⟨by simp,by simp,by simp⟩
  | 2,_=>exact ⟨by simp,by simp,by simp⟩⟩⟩
theorem Lf {B:Nat} (r:Nat) (k:Int) (i t x y:Int) (A:Option Addr) (n c:Nat) (G:Option Addr) (m kk:Nat) (fp fq fs fz b:Int) (ws gs:List Bx) (w:World) (R:RdU B w r k) (k0:0≤k) (hk:k≤50000) (I:Boxes w A n ws) (J:Boxes w G m gs) (MA:CU B A) (MG:CU B G) (ok:Dn ws=true) (hn:n≤10) (hm:m≤10) (hL:KY t x y b) :
 Calls Tryd.prog 14 #[.pointer (some ⟨r,0,none⟩),CR i t x y A n c G m kk fp fq fs fz b] w (IF B r k w):=by
 have hr:=R.here;have hB:=R.base;go_enter Tryd.func14,Tryd.ntmps14;go_wp2_with fail
 refine (M4 r k i t x y A n c G m kk fp fq fs fz b ws gs _ (R.alloc (.cells #[.int .i64 i,.int .i64 t,.int .i64 x,.int .i64 y,.slice A n c,.slice G m kk,.int .i64 fp,.int .i64 fq,.int .i64 fs,.int .i64 fz,.int .i64 b] 29)) k0 (by omega) (I.alloc (.cells #[.int .i64 i,.int .i64 t,.int .i64 x,.int .i64 y,.slice A n c,.slice G m kk,.int .i64 fp,.int .i64 fq,.int .i64 fs,.int .i64 fz,.int .i64 b] 29)) (J.alloc (.cells #[.int .i64 i,.int .i64 t,.int .i64 x,.int .i64 y,.slice A n c,.slice G m kk,.int .i64 fp,.int .i64 fq,.int .i64 fs,.int .i64 fz,.int .i64 b] 29)) MA MG ok hn hm hL).mono ?_;rintro e w1 ⟨v,N,xs,rfl,hN,_,O,R1,K⟩
 replace O:=hid (Mi O (show w.heap.size≤(w.alloc (.cells #[.int .i64 i,.int .i64 t,.int .i64 x,.int .i64 y,.slice A n c,.slice G m kk,.int .i64 fp,.int .i64 fq,.int .i64 fs,.int .i64 fz,.int .i64 b] 29)).heap.size+1 by simp; omega));replace K:=hid (((Kept.refl r w).alloc (.cells #[.int .i64 i,.int .i64 t,.int .i64 x,.int .i64 y,.slice A n c,.slice G m kk,.int .i64 fp,.int .i64 fq,.int .i64 fs,.int .i64 fz,.int .i64 b] 29)).trans K);have RR:=hid R1;clear R1 R I J MA MG ok hL;go_wp2_with fail;refine (Av r 12 _ _ RR.out (by omega) (by omega) (by omega)).mono ?_;rintro e w2 ⟨c0,⟨c1,c2⟩,rfl,R1,K1⟩
 replace O:=hid (O.out.kept K1.grows (.inr fun he=>by have:=(O.out.lt r he).1; omega));replace K:=hid (K.out.trans K1);replace RR:=hid R1;clear K1 R1;obtain ⟨A1,ca,hv,_,_⟩:=Inputs.of_own O.out;subst hv;by_cases e0:c0=0
 · subst e0;have hz:=K.out.size;go_wp2_with (at_builtin; refine CL _ rfl (.tmp 13) (.tmp 16) rfl w.heap.size (.slice A1 N ca) N xs rfl (O.out.alloc _) (some ⟨w2.heap.size,0,none⟩) 2 2 [⟨0,0,false⟩,⟨0,1,false⟩] rfl (Inputs.two w2 w2.heap.size 0 0 false 0 1 false _ rfl) (by omega) (by simp; omega) ?_);intro v' w9 O9 G9 _;replace O9:=hid O9;have K9:=hid ((K.out.alloc _).grown G9 (fun g e=>(O.out.lt g e).1));have R9:=hid ((RR.out.alloc _).grown G9 (fun g e=>by have:=(O.out.lt g e).1; omega));clear G9 O K RR;go_wp2;go_ret;exact Fy O9.out (by omega) R9.out (by omega) K9.out
 by_cases e1:c0=1
 · subst e1;by_cases h0:N=0
   · subst h0;go_wp2;go_ret;exact Fy O.out (by omega) RR.out (by omega) K.out
   have hpos:(0:Int)<(N:Int):=by omega
   go_wp2_with fail;refine (Av r N _ _ RR.out (by omega) (by omega) (by omega)).mono ?_;rintro e w3 ⟨ix,⟨ix0,ix1⟩,rfl,R1,K1⟩;replace O:=hid (O.out.kept K1.grows (.inr fun he=>by have:=(O.out.lt r he).1; omega));replace K:=hid (K.out.trans K1);replace RR:=hid R1;clear K1 R1;obtain ⟨ix,rfl⟩:=Int.eq_ofNat_of_zero_le ix0;have hix:ix<N:=by omega
   go_wp2_with fail;refine (Dp r _ _ RR.out (by omega)).mono ?_;rintro e w4 ⟨a,p,z,_,rfl,R1,K1⟩;replace O:=hid (O.out.kept K1.grows (.inr fun he=>by have:=(O.out.lt r he).1; omega));replace K:=hid (K.out.trans K1);replace RR:=hid R1;clear K1 R1;obtain ⟨gb,rfl⟩:∃ gb,A1=some ⟨gb,0,none⟩:=by
    rcases O.out.2 with ⟨_,h⟩ | ⟨g,cap,cur,h,_⟩
    · omega
    · cases h
      exact ⟨g,rfl⟩
   have hl:xs.length=N:=by have:=O.out.1; rw [Fx] at this; omega
   have gB:=(O.out.lt gb rfl).1;have gl:=(O.out.lt gb rfl).2;have ci0:=O.out.cellAt (ix*3) (by omega);have ci1:=O.out.cellAt (ix*3+1) (by omega);have ci2:=O.out.cellAt (ix*3+2) (by omega);have j0:=F5 xs ix 0 (by omega) (by omega);rw [Nat.add_zero] at j0;rw [j0] at ci0;rw [F5 xs ix 1 (by omega) (by omega)] at ci1;rw [F5 xs ix 2 (by omega) (by omega)] at ci2;have fi0:=O.out.frozenAt (ix*3);have fi1:=O.out.frozenAt (ix*3+1);have fi2:=O.out.frozenAt (ix*3+2)
   have O5:=hid (show ((((w4.setCell ⟨gb,ix*3,none⟩ (.int .i64 a)).setCell ⟨gb,ix*3+1,none⟩ (.int .i64 p)).setCell ⟨gb,ix*3+2,none⟩ (.bool z))).ownsRow w.heap.size 39 3 (.slice (some ⟨gb,0,none⟩) N ca) N (EX (xs.set ix ⟨a,p,z⟩)) from (Ml xs ix ⟨a,p,z⟩ (by omega))▸((((O.out.stored (ix*3) _).1.stored (ix*3+1) _).1.stored (ix*3+2) _).1));have K5:=hid (((K.out.set gb (ix*3) (.int .i64 a) gB).set gb (ix*3+1) (.int .i64 p) gB).set gb (ix*3+2) (.bool z) gB);have R5:=hid (((RR.out.set gb (ix*3) (.int .i64 a) (by omega)).set gb (ix*3+1) (.int .i64 p) (by omega)).set gb (ix*3+2) (.bool z) (by omega));clear j0 O K RR
   generalize ID (xs.getD ix iz) 0=q0 at *;generalize ID (xs.getD ix iz) 1=q1 at *;generalize ID (xs.getD ix iz) 2=q2 at *;go_wp2;go_ret;exact Fy O5.out (by omega) R5.out (by omega) K5.out
 by_cases e2:c0=2
 · subst e2;go_wp2_with fail;refine (Dp r _ _ RR.out (by omega)).mono ?_;rintro e w3 ⟨a,p,z,_,rfl,R1,K1⟩;replace O:=hid (O.out.kept K1.grows (.inr fun he=>by have:=(O.out.lt r he).1; omega));replace K:=hid (K.out.trans K1);replace RR:=hid R1;clear K1 R1;go_wp2_with fail;refine (Dp r _ _ RR.out (by omega)).mono ?_;rintro e w4 ⟨a2,p2,z2,_,rfl,R1,K1⟩;replace O:=hid (O.out.kept K1.grows (.inr fun he=>by have:=(O.out.lt r he).1; omega));replace K:=hid (K.out.trans K1);replace RR:=hid R1;clear K1 R1;go_wp2_with fail;refine (Dp r _ _ RR.out (by omega)).mono ?_;rintro e w5 ⟨a3,p3,z3,_,rfl,R1,K1⟩
   replace O:=hid (O.out.kept K1.grows (.inr fun he=>by have:=(O.out.lt r he).1; omega));replace K:=hid (K.out.trans K1);replace RR:=hid R1;clear K1 R1;have hz:=K.out.size;go_wp2_with (at_builtin; refine CL _ rfl (.tmp 33) (.tmp 40) rfl w.heap.size (.slice A1 N ca) N xs rfl (O.out.alloc _) (some ⟨w5.heap.size,0,none⟩) 3 3 [⟨a,p,z⟩,⟨a2,p2,z2⟩,⟨a3,p3,z3⟩] rfl (Inputs.three w5 w5.heap.size a p z a2 p2 z2 a3 p3 z3 _ rfl) (by omega) (by simp; omega) ?_);intro v' w9 O9 G9 _;replace O9:=hid O9;have K9:=hid ((K.out.alloc _).grown G9 (fun g e=>(O.out.lt g e).1));have R9:=hid ((RR.out.alloc _).grown G9 (fun g e=>by have:=(O.out.lt g e).1; omega))
   clear G9 O K RR;go_wp2;go_ret;exact Fy O9.out (by omega) R9.out (by omega) K9.out
 have d0:(c0==0)=false:=beq_eq_false_iff_ne.2 e0;have d1:(c0==1)=false:=beq_eq_false_iff_ne.2 e1;have d2:(c0==2)=false:=beq_eq_false_iff_ne.2 e2;clear e0 e1 e2;go_wp2;go_ret;exact Fy O.out (by omega) RR.out (by omega) K.out
end Go.Proofs.YtkpogcflgghfiaaDoor
