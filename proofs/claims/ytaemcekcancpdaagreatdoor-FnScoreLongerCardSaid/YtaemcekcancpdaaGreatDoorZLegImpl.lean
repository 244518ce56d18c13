import Derived.Test.YtaemcekcancpdaaGreatDoorZLeg
import Derived.Test.YtaemcekcancpdaaGreatDoorZInImpl
import Derived.Test.YtaemcekcancpdaaGreatDoorZEngP
set_option linter.all false
set_option maxRecDepth 100000
set_option maxHeartbeats 8000000
open Go.Lib
namespace Go.Proofs.YtaemcekcancpdaaGreatDoor
open Go.RowKit
open M
def Rs(w:World)(g bm k:Nat)(xs:List In)(t b:Int)(vs:List Value)(pv iv:Value)(W:World):Prop :=
 ∃(j:Nat) (a s0 p0:Int) (z0:Bool),j<=k/\iv=.int .i64 j/\pv=.int .i64 a/\(0<=a/\a<=3)/\(-1<=s0/\s0<=1)/\Ku t b xs=JN t b (xs.drop j) j a s0/\CellsAt W w.heap.size vs/\CellsAt W g (ins s0 p0 z0)/\Bans W bm (I3 b 1) (I3 b 2)/\Below w.heap.size w W
theorem Bans.far{w:World}{b r:Nat}{x y:Bool}(h:Bans w b x y)(hne:b≠r)(o:Nat)(v:Value):Bans (w.setCell ⟨r,o,none⟩ v) b x y:=h.kept (OZ (Kept.refl r w) o v) hne
theorem Bans.lt{w:World}{b:Nat}{x y:Bool}(h:Bans w b x y):b<w.heap.size:=World.ownsMap.lt h
theorem L2(i t x y:Int)(A:Option Addr)(n c:Nat)(G:Option Addr)(m kk:Nat)(fp fq fs fz b:Int)(ws gs:List Bx)(D:Option Addr)(k cc:Nat)(xs:List In)(w:World)(I:Boxes w A n ws)(J:Boxes w G m gs)(hn:n<=281474976710656)(hm:m<=281474976710656)(Y:Inputs w D k xs)(hk:k<=281474976710656) :
 Calls Tryz.prog 38 #[CX i t x y A n c G m kk fp fq fs fz b,.slice D k cc] w fun e w'=>e=.returned (.int .i64 (JO i t x y ws gs fp fq fs fz b xs))/\Below w.heap.size w w':=by
 have V:=fun(W:World) (Z:Boxes W A n ws) (X:Boxes W G m gs)=>Ch i t x y A n c G m kk fp fq fs fz b ws gs W Z X hn hm;have T:=fun(W:World) (Z:Boxes W A n ws) (X:Boxes W G m gs)=>Ps i t x y A n c G m kk fp fq fs fz b ws gs W Z X hn hm;have hl:=hid Y.1;have I:=hid I;have J:=hid J;have Y:=hid Y;cases h:Cr i t x y ws gs fp fq fs fz b
 . rw[h] at V;have E:=hid (show JO i t x y ws gs fp fq fs fz b xs=0 by simp[JO,h]);have V:=hid V;clear h T;go_enter Tryz.func38,Tryz.ntmps38;go_wp2_with fail;refine(V.out _ (I.out.alloc _) (J.out.alloc _)).mono ?_;rintro e w1 ⟨rfl,B⟩;have H:=hid (Ab (Aa (Ac w) _) B);clear B;go_wp2;go_ret;exact⟨BK (by rw[E.out]),H.out⟩
 have e1:L5 i t x y ws gs fp fq fs fz b 1=I3 b 1:=by simp[L5,h,Bc]
 have e2:L5 i t x y ws gs fp fq fs fz b 2=I3 b 2:=by simp[L5,h,Bc]
 rw[e1,e2] at T;rw[h] at V;have E0:=hid (show JO i t x y ws gs fp fq fs fz b xs=Ku t b xs by simp[JO,h]);have V:=hid V;have T:=hid T;clear h e1 e2;go_enter Tryz.func38,Tryz.ntmps38;go_wp2_with fail;refine(V.out _ (I.out.alloc _) (J.out.alloc _)).mono ?_;rintro e w1 ⟨rfl,B⟩;have L:CellsAt w1 w.heap.size (AX i t x y A n c G m kk fp fq fs fz b):=(CellsAt.new w _ _ _ rfl).step B;have H:=hid (Ab (Aa (Ac w) _) B);clear B V;obtain⟨Lc0,Lc1,Lc2,Lc3,Lc4,Lc5,Lc6,Lc7,Lc8,Lc9,Lc10⟩:=AL L;have Ll:=L.lt;go_wp2_with fail;refine(T.out _ (I.out.step H.out) (J.out.step H.out)).mono ?_;rintro e w2 ⟨bm,rfl,MP,B⟩;replace L:=L.step B
 replace H:=hid (Ab H.out B);clear B T Lc0 Lc1 Lc2 Lc3 Lc4 Lc5 Lc6 Lc7 Lc8 Lc9 Lc10 Ll;have hg:=H.out.size;have hbm:=MP.lt;have L0:=L.alloc (.cells #[.int .i64 0,.int .i64 0,.bool false] 65);have Q0:CellsAt (w2.alloc (.cells #[.int .i64 0,.int .i64 0,.bool false] 65)) w2.heap.size (ins 0 0 false):=CellsAt.new _ _ _ _ rfl;have M0:=hid (MP.alloc (.cells #[.int .i64 0,.int .i64 0,.bool false] 65));have H0:=hid (Aa H.out (.cells #[.int .i64 0,.int .i64 0,.bool false] 65));have hLg:=L.lt;clear MP L H;go_wp2;generalize w2.heap.size=g at *
 go_loopw [6,17] (Rs w g bm k xs t b (AX i t x y A n c G m kk fp fq fs fz b)) (fun _ i _=>k-(intOf i).toNat)
 case atStart=>exact⟨0,0,0,0,false,Nat.zero_le _,rfl,rfl,by omega,by omega,rfl,L0,Q0,M0.out,H0.out⟩
 case round =>
  clear L0 Q0 M0 H0;obtain⟨j,a,s0,p0,z0,hj,rfl,rfl,⟨a0,a3⟩,⟨s1,s2⟩,e0,L,Q,MP,B⟩:=hrel;have e0:=hid e0;have MP:=hid MP;by_cases hlt:j<k
  . obtain⟨bb,off,rfl,hb,hcell⟩:=(Y.out.step B).2 (by omega);have Z:=(hcell j hlt).lie hb;have hjl:j<xs.length:=by have:=hl.out; omega
    have hd:=drop_at hjl;have Hb:=hid B;clear hcell hjl B;generalize xs.getD j iz=q at *;obtain⟨s,p,z⟩:=q;simp only at Z;have e1:=hid (e0.out.trans (by rw[hd]));clear hd e0;have C:=fun(W:World) (U:Bans W bm (I3 b 1) (I3 b 2))=>Pu bm _ _ s0 p0 z0 s p z W U s1 s2;rw[flF_of] at C;cases z
    . by_cases g1:t<=(j:Int)
      . have E:=hid (e1.out.trans (B7 (Rn g1)));clear C;have d0:=Z.c0;have d1:=Z.c1;have d2:=Z.c2;have Zl:=Z.lt;obtain⟨Lc0,Lc1,Lc2,Lc3,Lc4,Lc5,Lc6,Lc7,Lc8,Lc9,Lc10⟩:=AL L;have Ll:=L.lt;obtain⟨Qc0,Qc1,Qc2⟩:=BQ Q;have Ql:=Q.lt;go_wp2;go_ret;exact⟨BK (by rw[E0.out,E.out]),Aa Hb.out _⟩
      have g1:(j:Int)<t:=by omega
      have g1d:decide (t<=(j:Int))=false:=decide_eq_false (by omega);have g2d:decide (3<a)=false:=decide_eq_false (by omega);cases hf:Gk b s0 s p false
      . have E:=hid (e1.out.trans (B7 (Ro hf)));rw[hf] at C;replace C:=hid C;have d0:=Z.c0;have d1:=Z.c1;have d2:=Z.c2;have Zl:=Z.lt;obtain⟨Lc0,Lc1,Lc2,Lc3,Lc4,Lc5,Lc6,Lc7,Lc8,Lc9,Lc10⟩:=AL L;have Ll:=L.lt;obtain⟨Qc0,Qc1,Qc2⟩:=BQ Q;have Ql:=Q.lt;go_wp2_with fail;refine(C.out _ (MP.out.alloc _)).mono ?_;rintro e wn ⟨rfl,B⟩;have X:CellsAt wn _ (ins s p false):=(CellsAt.new _ _ _ 65 rfl).step B;replace L:=(L.alloc _).step B;replace Q:=(Q.alloc _).step B;replace MP:=hid ((MP.out.alloc _).step B);replace Hb:=hid (Ab (Aa Hb.out _) B);have zn:=B.size;simp at zn
        clear B d0 d1 d2 Zl Lc0 Lc1 Lc2 Lc3 Lc4 Lc5 Lc6 Lc7 Lc8 Lc9 Lc10 Ll Qc0 Qc1 Qc2;clear Ql;go_wp2;go_ret;exact⟨BK (by rw[E0.out,E.out]),Hb.out⟩
      have E:=hid (e1.out.trans (FL (JP g1 (show IV a false<=3 by simp only[IV]; simpa using a3) hf)));have hv:=(E4 (Gj hf)).1;rw[hf] at C;replace C:=hid C;have d0:=Z.c0;have d1:=Z.c1;have d2:=Z.c2;have Zl:=Z.lt;obtain⟨Lc0,Lc1,Lc2,Lc3,Lc4,Lc5,Lc6,Lc7,Lc8,Lc9,Lc10⟩:=AL L;have Ll:=L.lt;obtain⟨Qc0,Qc1,Qc2⟩:=BQ Q;have Ql:=Q.lt;go_wp2_with fail;refine(C.out _ (MP.out.alloc _)).mono ?_;rintro e wn ⟨rfl,B⟩;have X:CellsAt wn _ (ins s p false):=(CellsAt.new _ _ _ 65 rfl).step B;replace L:=(L.alloc _).step B;replace Q:=(Q.alloc _).step B;replace MP:=hid ((MP.out.alloc _).step B);replace Hb:=hid (Ab (Aa Hb.out _) B)
      have zn:=B.size;simp at zn;clear B d0 d1 d2 Zl Lc0 Lc1 Lc2 Lc3 Lc4 Lc5 Lc6 Lc7 Lc8 Lc9 Lc10 Ll Qc0 Qc1 Qc2;have Qf0:=Q.fr 0;have Qf1:=Q.fr 1;have Qf2:=Q.fr 2;obtain⟨Qc0,Qc1,Qc2⟩:=BQ Q;obtain⟨Xc0,Xc1,Xc2⟩:=BQ X;have Xl:=X.lt;go_wp2
      go_roundw
      case rel=>exact⟨j+1,a,s,p,false,by omega,by go_num,rfl,by omega,by omega,by rw[E.out]; simp[IV],((L.far (by omega) _ _).far (by omega) _ _).far (by omega) _ _,((Q.set 0 (by simp) _).set 1 (by simp) _).set 2 (by simp) _,((MP.out.far (by omega) _ _).far (by omega) _ _).far (by omega) _ _,Ap (Ap (Ap Hb.out _ _ _ (by omega)) _ _ _ (by omega)) _ _ _ (by omega)⟩
      case measure=>simp[intOf]; omega
    . by_cases g1:t<=(j:Int)
      . have E:=hid (e1.out.trans (B7 (Rn g1)));clear C;have d0:=Z.c0;have d1:=Z.c1;have d2:=Z.c2;have Zl:=Z.lt;obtain⟨Lc0,Lc1,Lc2,Lc3,Lc4,Lc5,Lc6,Lc7,Lc8,Lc9,Lc10⟩:=AL L;have Ll:=L.lt;obtain⟨Qc0,Qc1,Qc2⟩:=BQ Q;have Ql:=Q.lt;go_wp2;go_ret;exact⟨BK (by rw[E0.out,E.out]),Aa Hb.out _⟩
      have g1:(j:Int)<t:=by omega
      have g1d:decide (t<=(j:Int))=false:=decide_eq_false (by omega);by_cases g2:a=3
      . subst g2;have E:=hid (e1.out.trans (B7 (Uk (show 3<IV 3 true by decide))));clear C;have d0:=Z.c0;have d1:=Z.c1;have d2:=Z.c2;have Zl:=Z.lt;obtain⟨Lc0,Lc1,Lc2,Lc3,Lc4,Lc5,Lc6,Lc7,Lc8,Lc9,Lc10⟩:=AL L;have Ll:=L.lt;obtain⟨Qc0,Qc1,Qc2⟩:=BQ Q;have Ql:=Q.lt;go_wp2;go_ret;exact⟨BK (by rw[E0.out,E.out]),Aa Hb.out _⟩
      have g2:a+1<=3:=by omega
      have g2d:decide (3<a+1)=false:=decide_eq_false (by omega);cases hf:Gk b s0 s p true
      . have E:=hid (e1.out.trans (B7 (Ro hf)));rw[hf] at C;replace C:=hid C;have d0:=Z.c0;have d1:=Z.c1;have d2:=Z.c2;have Zl:=Z.lt;obtain⟨Lc0,Lc1,Lc2,Lc3,Lc4,Lc5,Lc6,Lc7,Lc8,Lc9,Lc10⟩:=AL L;have Ll:=L.lt;obtain⟨Qc0,Qc1,Qc2⟩:=BQ Q;have Ql:=Q.lt;go_wp2_with fail;refine(C.out _ (MP.out.alloc _)).mono ?_;rintro e wn ⟨rfl,B⟩;have X:CellsAt wn _ (ins s p true):=(CellsAt.new _ _ _ 65 rfl).step B;replace L:=(L.alloc _).step B;replace Q:=(Q.alloc _).step B;replace MP:=hid ((MP.out.alloc _).step B);replace Hb:=hid (Ab (Aa Hb.out _) B);have zn:=B.size;simp at zn
        clear B d0 d1 d2 Zl Lc0 Lc1 Lc2 Lc3 Lc4 Lc5 Lc6 Lc7 Lc8 Lc9 Lc10 Ll Qc0 Qc1 Qc2;clear Ql;go_wp2;go_ret;exact⟨BK (by rw[E0.out,E.out]),Hb.out⟩
      have E:=hid (e1.out.trans (FL (JP g1 (show IV a true<=3 by simp only[IV]; simpa using g2) hf)));have hv:=(E4 (Gj hf)).1;rw[hf] at C;replace C:=hid C;have d0:=Z.c0;have d1:=Z.c1;have d2:=Z.c2;have Zl:=Z.lt;obtain⟨Lc0,Lc1,Lc2,Lc3,Lc4,Lc5,Lc6,Lc7,Lc8,Lc9,Lc10⟩:=AL L;have Ll:=L.lt;obtain⟨Qc0,Qc1,Qc2⟩:=BQ Q;have Ql:=Q.lt;go_wp2_with fail;refine(C.out _ (MP.out.alloc _)).mono ?_;rintro e wn ⟨rfl,B⟩;have X:CellsAt wn _ (ins s p true):=(CellsAt.new _ _ _ 65 rfl).step B;replace L:=(L.alloc _).step B;replace Q:=(Q.alloc _).step B;replace MP:=hid ((MP.out.alloc _).step B);replace Hb:=hid (Ab (Aa Hb.out _) B)
      have zn:=B.size;simp at zn;clear B d0 d1 d2 Zl Lc0 Lc1 Lc2 Lc3 Lc4 Lc5 Lc6 Lc7 Lc8 Lc9 Lc10 Ll Qc0 Qc1 Qc2;have Qf0:=Q.fr 0;have Qf1:=Q.fr 1;have Qf2:=Q.fr 2;obtain⟨Qc0,Qc1,Qc2⟩:=BQ Q;obtain⟨Xc0,Xc1,Xc2⟩:=BQ X;have Xl:=X.lt;go_wp2
      go_roundw
      case rel=>exact⟨j+1,a+1,s,p,true,by omega,by go_num,by go_num,by omega,by omega,by rw[E.out]; simp[IV],((L.far (by omega) _ _).far (by omega) _ _).far (by omega) _ _,((Q.set 0 (by simp) _).set 1 (by simp) _).set 2 (by simp) _,((MP.out.far (by omega) _ _).far (by omega) _ _).far (by omega) _ _,Ap (Ap (Ap Hb.out _ _ _ (by omega)) _ _ _ (by omega)) _ _ _ (by omega)⟩
      case measure=>simp[intOf]; omega
  . have E:=hid (MZ hl.out (by omega) e0.out);have B:=hid B;go_wp2;go_ret;exact⟨BK (by rw[E0.out,E.out]),B.out⟩
open Go.RowKit
open M
theorem HQ(i t x y:Int)(A:Option Addr)(n c:Nat)(G:Option Addr)(m kk:Nat)(fp fq fs fz b:Int)(ws gs:List Bx)(w:World)(I:Boxes w A n ws)(J:Boxes w G m gs)(hn:n<=281474976710656)(hm:m<=281474976710656):Calls Tryz.prog 12 #[CX i t x y A n c G m kk fp fq fs fz b] w fun e w'=>e=.returned (.tuple #[(if Cr i t x y ws gs fp fq fs fz b then Cd 0 x y 0 0 0 0 false false else Cd 0 0 0 0 0 0 0 false false),.bool (Cr i t x y ws gs fp fq fs fz b)])/\Below w.heap.size w w':=by
 have V:=fun(W:World) (Z:Boxes W A n ws) (Y:Boxes W G m gs)=>Ch i t x y A n c G m kk fp fq fs fz b ws gs W Z Y hn hm;have I:=hid I;have J:=hid J;have P:CellsAt ((w.alloc (.cells #[.int .i64 i,.int .i64 t,.int .i64 x,.int .i64 y,.slice A n c,.slice G m kk,.int .i64 fp,.int .i64 fq,.int .i64 fs,.int .i64 fz,.int .i64 b] 29)).alloc (.cells #[.int .i64 0,.int .i64 0,.int .i64 0,.int .i64 0,.int .i64 0,.int .i64 0,.int .i64 0,.bool false,.bool false] 34)) w.heap.size (AX i t x y A n c G m kk fp fq fs fz b):=(CellsAt.new w _ _ _ rfl).alloc _
 have D:CellsAt ((w.alloc (.cells #[.int .i64 i,.int .i64 t,.int .i64 x,.int .i64 y,.slice A n c,.slice G m kk,.int .i64 fp,.int .i64 fq,.int .i64 fs,.int .i64 fz,.int .i64 b] 29)).alloc (.cells #[.int .i64 0,.int .i64 0,.int .i64 0,.int .i64 0,.int .i64 0,.int .i64 0,.int .i64 0,.bool false,.bool false] 34)) (w.heap.size+1) (AB 0 0 0 0 0 0 0 false false):=CellsAt.new _ _ _ _ (by simp)
 have H:=hid (Aa (Aa (Ac w) (.cells #[.int .i64 i,.int .i64 t,.int .i64 x,.int .i64 y,.slice A n c,.slice G m kk,.int .i64 fp,.int .i64 fq,.int .i64 fs,.int .i64 fz,.int .i64 b] 29)) (.cells #[.int .i64 0,.int .i64 0,.int .i64 0,.int .i64 0,.int .i64 0,.int .i64 0,.int .i64 0,.bool false,.bool false] 34));cases hv:Cr i t x y ws gs fp fq fs fz b
 . rw[hv] at V;have V:=hid V;clear hv;go_enter Tryz.func12,Tryz.ntmps12;go_wp2_with fail;refine(V.out _ (I.out.step H.out) (J.out.step H.out)).mono ?_;rintro e w1 ⟨rfl,B⟩;replace P:=P.step B;replace D:=D.step B;replace H:=hid (Ab H.out B);clear B;go_wp2_with (refine Ai rfl 34 (.tmp 2) (.tmp 7) rfl (w.heap.size+1) rfl (AB 0 0 0 0 0 0 0 false false) rfl _ D (by simp) Ae rfl ?_);intro w2 K N;go_wp2;exact bodyPost_ret (v:=.tuple #[Cd 0 0 0 0 0 0 0 false false,.bool false]) (AY rfl (w.heap.size+1) rfl (AB 0 0 0 0 0 0 0 false false) N (.bool false) rfl Tryz.underlying34 rfl Ae) rfl ⟨rfl,Ao H.out K (by omega)⟩
 . rw[hv] at V;have V:=hid V;clear hv;go_enter Tryz.func12,Tryz.ntmps12;go_wp2_with fail;refine(V.out _ (I.out.step H.out) (J.out.step H.out)).mono ?_;rintro e w1 ⟨rfl,B⟩;replace P:=P.step B;replace D:=D.step B;replace H:=hid (Ab H.out B);clear B;obtain⟨Pc0,Pc1,Pc2,Pc3,Pc4,Pc5,Pc6,Pc7,Pc8,Pc9,Pc10⟩:=AL P;have Pl:=P.lt;go_wp2_with (refine Ai rfl 34 (.tmp 2) (.tmp 10) rfl (w.heap.size+1) rfl (AB 0 x y 0 0 0 0 false false) rfl _ D (by simp) Ae rfl ?_);intro w2 K N;go_wp2
   exact bodyPost_ret (v:=.tuple #[Cd 0 x y 0 0 0 0 false false,.bool true]) (AY rfl (w.heap.size+1) rfl (AB 0 x y 0 0 0 0 false false) N (.bool true) rfl Tryz.underlying34 rfl Ae) rfl ⟨rfl,Ao H.out K (by omega)⟩
open Go.RowKit
open M
theorem HR(x y:Int)(w:World):(Op.equalIn 9999 24 (.agg #[.int .i64 x,.int .i64 y]) (.agg #[.int .i64 x,.int .i64 y])).run Tryz.prog w=.ok true w:=by
 have u3:=Tryz.underlying3;have a3:=Tryz.isAgg3;have z3:=Tryz.sizeOf3;have hS:Tryz.prog.underlying 24=some (.struct (Tryz.prog.fieldsOf 24)):=by kernel_rfl
 have hp:Tryz.prog.stoodInHeld 24=false:=by kernel_rfl
 rw[show(9999:Nat)=9998+1 from rfl,run_equalIn_agg w 9998 24 _ _ hS hp];clear hS;simp only[Program.fieldsOf,Tryz.underlying24];go_simp
theorem GW(k ax ay fx fy u g:Int)(d o:Bool)(w:World):(Op.equalIn 10000 34 (Cd k ax ay fx fy u g d o) (Cd k ax ay fx fy u g d o)).run Tryz.prog w=.ok true w:=by
 have u3:=Tryz.underlying3;have a3:=Tryz.isAgg3;have z3:=Tryz.sizeOf3;have u4:=Tryz.underlying4;have a4:=Tryz.isAgg4;have z4:=Tryz.sizeOf4;have a5:=Tryz.isAgg24;have z5:=Tryz.sizeOf24;have V1:=HR ax ay w;have V2:=HR fx fy w;have hS:Tryz.prog.underlying 34=some (.struct (Tryz.prog.fieldsOf 34)):=by kernel_rfl
 have hp:Tryz.prog.stoodInHeld 34=false:=by kernel_rfl
 rw[show(10000:Nat)=9999+1 from rfl,run_equalIn_agg w 9999 34 _ _ hS hp];clear hS;simp only[Program.fieldsOf,Tryz.underlying34];go_simp
theorem HT(k ax ay fx fy u g:Int)(d o:Bool)(w:World):(binOp .eql 34 (Cd k ax ay fx fy u g d o) (Cd k ax ay fx fy u g d o)).run Tryz.prog w=.ok (.bool true) w:=by
 rw[run_eql_struct,GW];rfl
theorem Jh(k ax ay fx fy u g:Int)(d o:Bool)(w:World):(binOp .neq 34 (Cd k ax ay fx fy u g d o) (Cd k ax ay fx fy u g d o)).run Tryz.prog w=.ok (.bool false) w:=by
 rw[run_neq_struct,GW];rfl
theorem Er:Tryz.prog.eqGuardType Tryz.prog.depth 34=false:=by kernel_rfl
end Go.Proofs.YtaemcekcancpdaaGreatDoor
