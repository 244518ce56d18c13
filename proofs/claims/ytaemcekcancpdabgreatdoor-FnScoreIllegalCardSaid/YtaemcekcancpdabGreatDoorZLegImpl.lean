import Derived.Test.YtaemcekcancpdabGreatDoorZLeg
import Derived.Test.YtaemcekcancpdabGreatDoorZInImpl
import Derived.Test.YtaemcekcancpdabGreatDoorZEngP
import Derived.Test.YtaemcekcancpdabGreatDoorZHashImpl
set_option linter.all false
set_option maxRecDepth 100000
set_option maxHeartbeats 8000000
open Go.Lib
namespace Go.Proofs.YtaemcekcancpdabGreatDoor
open Go.RowKit
open M
def RN(w:World)(g bm k:Nat)(xs:List In)(t b:Int)(vs:List Value)(pv iv:Value)(W:World):Prop :=
 ∃(j:Nat) (a s0 p0:Int) (z0:Bool),j<=k/\iv=.int .i64 j/\pv=.int .i64 a/\(0<=a/\a<=3)/\(-1<=s0/\s0<=1)/\IZ t b xs=JP t b (xs.drop j) j a s0/\CellsAt W w.heap.size vs/\CellsAt W g (ins s0 p0 z0)/\Bans W bm (I6 b 1) (I6 b 2)/\Below w.heap.size w W
theorem Bans.far{w:World}{b r:Nat}{x y:Bool}(h:Bans w b x y)(hne:b≠r)(o:Nat)(v:Value):Bans (w.setCell ⟨r,o,none⟩ v) b x y:=h.kept (Qx (Kept.refl r w) o v) hne
theorem Bans.lt{w:World}{b:Nat}{x y:Bool}(h:Bans w b x y):b<w.heap.size:=World.ownsMap.lt h
theorem HJ(i t x y:Int)(A:Option Addr)(n c:Nat)(G:Option Addr)(m kk:Nat)(fp fq fs fz b:Int)(ws gs:List Bx)(D:Option Addr)(k cc:Nat)(xs:List In)(w:World)(I:Boxes w A n ws)(J:Boxes w G m gs)(hn:n<=281474976710656)(hm:m<=281474976710656)(Y:Inputs w D k xs)(hk:k<=281474976710656) :
 Calls Tryz.prog 20 #[CX i t x y A n c G m kk fp fq fs fz b,.slice D k cc] w fun e w'=>e=.returned (.int .i64 (DC i t x y ws gs fp fq fs fz b xs))/\Below w.heap.size w w':=by
 have V:=fun(W:World) (Z:Boxes W A n ws) (X:Boxes W G m gs)=>Cf i t x y A n c G m kk fp fq fs fz b ws gs W Z X hn hm;have T:=fun(W:World) (Z:Boxes W A n ws) (X:Boxes W G m gs)=>PF i t x y A n c G m kk fp fq fs fz b ws gs W Z X hn hm;have hl:=hid Y.1;have I:=hid I;have J:=hid J;have Y:=hid Y;cases h:Cn i t x y ws gs fp fq fs fz b
 . rw[h] at V;have E:=hid (show DC i t x y ws gs fp fq fs fz b xs=0 by simp[DC,h]);have V:=hid V;clear h T;go_enter Tryz.func20,Tryz.ntmps20;go_wp2_with fail;refine(V.out _ (I.out.alloc _) (J.out.alloc _)).mono ?_;rintro e w1 ⟨rfl,B⟩;have H:=hid (Ab (Aa (Ac w) _) B);clear B;go_wp2;go_ret;exact⟨AX (by rw[E.out]),H.out⟩
 have e1:Md i t x y ws gs fp fq fs fz b 1=I6 b 1:=by simp[Md,h,Be]
 have e2:Md i t x y ws gs fp fq fs fz b 2=I6 b 2:=by simp[Md,h,Be]
 rw[e1,e2] at T;rw[h] at V;have E0:=hid (show DC i t x y ws gs fp fq fs fz b xs=IZ t b xs by simp[DC,h]);have V:=hid V;have T:=hid T;clear h e1 e2;go_enter Tryz.func20,Tryz.ntmps20;go_wp2_with fail;refine(V.out _ (I.out.alloc _) (J.out.alloc _)).mono ?_;rintro e w1 ⟨rfl,B⟩;have L:CellsAt w1 w.heap.size (AU i t x y A n c G m kk fp fq fs fz b):=(CellsAt.new w _ _ _ rfl).step B;have H:=hid (Ab (Aa (Ac w) _) B);clear B V;obtain⟨Lc0,Lc1,Lc2,Lc3,Lc4,Lc5,Lc6,Lc7,Lc8,Lc9,Lc10⟩:=AG L;have Ll:=L.lt;go_wp2_with fail;refine(T.out _ (I.out.step H.out) (J.out.step H.out)).mono ?_;rintro e w2 ⟨bm,rfl,MP,B⟩;replace L:=L.step B
 replace H:=hid (Ab H.out B);clear B T Lc0 Lc1 Lc2 Lc3 Lc4 Lc5 Lc6 Lc7 Lc8 Lc9 Lc10 Ll;have hg:=H.out.size;have hbm:=MP.lt;have L0:=L.alloc (.cells #[.int .i64 0,.int .i64 0,.bool false] 47);have Q0:CellsAt (w2.alloc (.cells #[.int .i64 0,.int .i64 0,.bool false] 47)) w2.heap.size (ins 0 0 false):=CellsAt.new _ _ _ _ rfl;have M0:=hid (MP.alloc (.cells #[.int .i64 0,.int .i64 0,.bool false] 47));have H0:=hid (Aa H.out (.cells #[.int .i64 0,.int .i64 0,.bool false] 47));have hLg:=L.lt;clear MP L H;go_wp2;generalize w2.heap.size=g at *
 go_loopw [6,17] (RN w g bm k xs t b (AU i t x y A n c G m kk fp fq fs fz b)) (fun _ i _=>k-(intOf i).toNat)
 case atStart=>exact⟨0,0,0,0,false,Nat.zero_le _,rfl,rfl,by omega,by omega,rfl,L0,Q0,M0.out,H0.out⟩
 case round =>
  clear L0 Q0 M0 H0;obtain⟨j,a,s0,p0,z0,hj,rfl,rfl,⟨a0,a3⟩,⟨s1,s2⟩,e0,L,Q,MP,B⟩:=hrel;have e0:=hid e0;have MP:=hid MP;by_cases hlt:j<k
  . obtain⟨bb,off,rfl,hb,hcell⟩:=(Y.out.step B).2 (by omega);have Z:=(hcell j hlt).lie hb;have hjl:j<xs.length:=by have:=hl.out; omega
    have hd:=drop_at hjl;have Hb:=hid B;clear hcell hjl B;generalize xs.getD j iz=q at *;obtain⟨s,p,z⟩:=q;simp only at Z;have e1:=hid (e0.out.trans (by rw[hd]));clear hd e0;have C:=fun(W:World) (U:Bans W bm (I6 b 1) (I6 b 2))=>PG bm _ _ s0 p0 z0 s p z W U s1 s2;rw[flF_of] at C;cases z
    . by_cases g1:t<=(j:Int)
      . have E:=hid (e1.out.trans (BX (RE g1)));clear C;have d0:=Z.c0;have d1:=Z.c1;have d2:=Z.c2;have Zl:=Z.lt;obtain⟨Lc0,Lc1,Lc2,Lc3,Lc4,Lc5,Lc6,Lc7,Lc8,Lc9,Lc10⟩:=AG L;have Ll:=L.lt;obtain⟨Qc0,Qc1,Qc2⟩:=BN Q;have Ql:=Q.lt;go_wp2;go_ret;exact⟨AX (by rw[E0.out,E.out]),Aa Hb.out _⟩
      have g1:(j:Int)<t:=by omega
      have g1d:decide (t<=(j:Int))=false:=decide_eq_false (by omega);have g2d:decide (3<a)=false:=decide_eq_false (by omega);cases hf:Gf b s0 s p false
      . have E:=hid (e1.out.trans (BX (RF hf)));rw[hf] at C;replace C:=hid C;have d0:=Z.c0;have d1:=Z.c1;have d2:=Z.c2;have Zl:=Z.lt;obtain⟨Lc0,Lc1,Lc2,Lc3,Lc4,Lc5,Lc6,Lc7,Lc8,Lc9,Lc10⟩:=AG L;have Ll:=L.lt;obtain⟨Qc0,Qc1,Qc2⟩:=BN Q;have Ql:=Q.lt;go_wp2_with fail;refine(C.out _ (MP.out.alloc _)).mono ?_;rintro e wn ⟨rfl,B⟩;have X:CellsAt wn _ (ins s p false):=(CellsAt.new _ _ _ 47 rfl).step B;replace L:=(L.alloc _).step B;replace Q:=(Q.alloc _).step B;replace MP:=hid ((MP.out.alloc _).step B);replace Hb:=hid (Ab (Aa Hb.out _) B);have zn:=B.size;simp at zn
        clear B d0 d1 d2 Zl Lc0 Lc1 Lc2 Lc3 Lc4 Lc5 Lc6 Lc7 Lc8 Lc9 Lc10 Ll Qc0 Qc1 Qc2;clear Ql;go_wp2;go_ret;exact⟨AX (by rw[E0.out,E.out]),Hb.out⟩
      have E:=hid (e1.out.trans (FE (JQ g1 (show IY a false<=3 by simp only[IY]; simpa using a3) hf)));have hv:=(EY (Ge hf)).1;rw[hf] at C;replace C:=hid C;have d0:=Z.c0;have d1:=Z.c1;have d2:=Z.c2;have Zl:=Z.lt;obtain⟨Lc0,Lc1,Lc2,Lc3,Lc4,Lc5,Lc6,Lc7,Lc8,Lc9,Lc10⟩:=AG L;have Ll:=L.lt;obtain⟨Qc0,Qc1,Qc2⟩:=BN Q;have Ql:=Q.lt;go_wp2_with fail;refine(C.out _ (MP.out.alloc _)).mono ?_;rintro e wn ⟨rfl,B⟩;have X:CellsAt wn _ (ins s p false):=(CellsAt.new _ _ _ 47 rfl).step B;replace L:=(L.alloc _).step B;replace Q:=(Q.alloc _).step B;replace MP:=hid ((MP.out.alloc _).step B);replace Hb:=hid (Ab (Aa Hb.out _) B)
      have zn:=B.size;simp at zn;clear B d0 d1 d2 Zl Lc0 Lc1 Lc2 Lc3 Lc4 Lc5 Lc6 Lc7 Lc8 Lc9 Lc10 Ll Qc0 Qc1 Qc2;have Qf0:=Q.fr 0;have Qf1:=Q.fr 1;have Qf2:=Q.fr 2;obtain⟨Qc0,Qc1,Qc2⟩:=BN Q;obtain⟨Xc0,Xc1,Xc2⟩:=BN X;have Xl:=X.lt;go_wp2
      go_roundw
      case rel=>exact⟨j+1,a,s,p,false,by omega,by go_num,rfl,by omega,by omega,by rw[E.out]; simp[IY],((L.far (by omega) _ _).far (by omega) _ _).far (by omega) _ _,((Q.set 0 (by simp) _).set 1 (by simp) _).set 2 (by simp) _,((MP.out.far (by omega) _ _).far (by omega) _ _).far (by omega) _ _,Ak (Ak (Ak Hb.out _ _ _ (by omega)) _ _ _ (by omega)) _ _ _ (by omega)⟩
      case measure=>simp[intOf]; omega
    . by_cases g1:t<=(j:Int)
      . have E:=hid (e1.out.trans (BX (RE g1)));clear C;have d0:=Z.c0;have d1:=Z.c1;have d2:=Z.c2;have Zl:=Z.lt;obtain⟨Lc0,Lc1,Lc2,Lc3,Lc4,Lc5,Lc6,Lc7,Lc8,Lc9,Lc10⟩:=AG L;have Ll:=L.lt;obtain⟨Qc0,Qc1,Qc2⟩:=BN Q;have Ql:=Q.lt;go_wp2;go_ret;exact⟨AX (by rw[E0.out,E.out]),Aa Hb.out _⟩
      have g1:(j:Int)<t:=by omega
      have g1d:decide (t<=(j:Int))=false:=decide_eq_false (by omega);by_cases g2:a=3
      . subst g2;have E:=hid (e1.out.trans (BX (UN (show 3<IY 3 true by decide))));clear C;have d0:=Z.c0;have d1:=Z.c1;have d2:=Z.c2;have Zl:=Z.lt;obtain⟨Lc0,Lc1,Lc2,Lc3,Lc4,Lc5,Lc6,Lc7,Lc8,Lc9,Lc10⟩:=AG L;have Ll:=L.lt;obtain⟨Qc0,Qc1,Qc2⟩:=BN Q;have Ql:=Q.lt;go_wp2;go_ret;exact⟨AX (by rw[E0.out,E.out]),Aa Hb.out _⟩
      have g2:a+1<=3:=by omega
      have g2d:decide (3<a+1)=false:=decide_eq_false (by omega);cases hf:Gf b s0 s p true
      . have E:=hid (e1.out.trans (BX (RF hf)));rw[hf] at C;replace C:=hid C;have d0:=Z.c0;have d1:=Z.c1;have d2:=Z.c2;have Zl:=Z.lt;obtain⟨Lc0,Lc1,Lc2,Lc3,Lc4,Lc5,Lc6,Lc7,Lc8,Lc9,Lc10⟩:=AG L;have Ll:=L.lt;obtain⟨Qc0,Qc1,Qc2⟩:=BN Q;have Ql:=Q.lt;go_wp2_with fail;refine(C.out _ (MP.out.alloc _)).mono ?_;rintro e wn ⟨rfl,B⟩;have X:CellsAt wn _ (ins s p true):=(CellsAt.new _ _ _ 47 rfl).step B;replace L:=(L.alloc _).step B;replace Q:=(Q.alloc _).step B;replace MP:=hid ((MP.out.alloc _).step B);replace Hb:=hid (Ab (Aa Hb.out _) B);have zn:=B.size;simp at zn
        clear B d0 d1 d2 Zl Lc0 Lc1 Lc2 Lc3 Lc4 Lc5 Lc6 Lc7 Lc8 Lc9 Lc10 Ll Qc0 Qc1 Qc2;clear Ql;go_wp2;go_ret;exact⟨AX (by rw[E0.out,E.out]),Hb.out⟩
      have E:=hid (e1.out.trans (FE (JQ g1 (show IY a true<=3 by simp only[IY]; simpa using g2) hf)));have hv:=(EY (Ge hf)).1;rw[hf] at C;replace C:=hid C;have d0:=Z.c0;have d1:=Z.c1;have d2:=Z.c2;have Zl:=Z.lt;obtain⟨Lc0,Lc1,Lc2,Lc3,Lc4,Lc5,Lc6,Lc7,Lc8,Lc9,Lc10⟩:=AG L;have Ll:=L.lt;obtain⟨Qc0,Qc1,Qc2⟩:=BN Q;have Ql:=Q.lt;go_wp2_with fail;refine(C.out _ (MP.out.alloc _)).mono ?_;rintro e wn ⟨rfl,B⟩;have X:CellsAt wn _ (ins s p true):=(CellsAt.new _ _ _ 47 rfl).step B;replace L:=(L.alloc _).step B;replace Q:=(Q.alloc _).step B;replace MP:=hid ((MP.out.alloc _).step B);replace Hb:=hid (Ab (Aa Hb.out _) B)
      have zn:=B.size;simp at zn;clear B d0 d1 d2 Zl Lc0 Lc1 Lc2 Lc3 Lc4 Lc5 Lc6 Lc7 Lc8 Lc9 Lc10 Ll Qc0 Qc1 Qc2;have Qf0:=Q.fr 0;have Qf1:=Q.fr 1;have Qf2:=Q.fr 2;obtain⟨Qc0,Qc1,Qc2⟩:=BN Q;obtain⟨Xc0,Xc1,Xc2⟩:=BN X;have Xl:=X.lt;go_wp2
      go_roundw
      case rel=>exact⟨j+1,a+1,s,p,true,by omega,by go_num,by go_num,by omega,by omega,by rw[E.out]; simp[IY],((L.far (by omega) _ _).far (by omega) _ _).far (by omega) _ _,((Q.set 0 (by simp) _).set 1 (by simp) _).set 2 (by simp) _,((MP.out.far (by omega) _ _).far (by omega) _ _).far (by omega) _ _,Ak (Ak (Ak Hb.out _ _ _ (by omega)) _ _ _ (by omega)) _ _ _ (by omega)⟩
      case measure=>simp[intOf]; omega
  . have E:=hid (Nb hl.out (by omega) e0.out);have B:=hid B;go_wp2;go_ret;exact⟨AX (by rw[E0.out,E.out]),B.out⟩
open Go.RowKit
open M
theorem L8(i t x y:Int)(A:Option Addr)(n c:Nat)(G:Option Addr)(m kk:Nat)(fp fq fs fz b:Int)(ws gs:List Bx)(w:World)(I:Boxes w A n ws)(J:Boxes w G m gs)(hn:n<=281474976710656)(hm:m<=281474976710656):Calls Tryz.prog 86 #[CX i t x y A n c G m kk fp fq fs fz b] w fun e w'=>e=.returned (.tuple #[(if Cn i t x y ws gs fp fq fs fz b then Cd 0 x y 0 0 0 0 false false else Cd 0 0 0 0 0 0 0 false false),.bool (Cn i t x y ws gs fp fq fs fz b)])/\Below w.heap.size w w':=by
 have V:=fun(W:World) (Z:Boxes W A n ws) (Y:Boxes W G m gs)=>Cf i t x y A n c G m kk fp fq fs fz b ws gs W Z Y hn hm;have I:=hid I;have J:=hid J;have P:CellsAt ((w.alloc (.cells #[.int .i64 i,.int .i64 t,.int .i64 x,.int .i64 y,.slice A n c,.slice G m kk,.int .i64 fp,.int .i64 fq,.int .i64 fs,.int .i64 fz,.int .i64 b] 29)).alloc (.cells #[.int .i64 0,.int .i64 0,.int .i64 0,.int .i64 0,.int .i64 0,.int .i64 0,.int .i64 0,.bool false,.bool false] 35)) w.heap.size (AU i t x y A n c G m kk fp fq fs fz b):=(CellsAt.new w _ _ _ rfl).alloc _
 have D:CellsAt ((w.alloc (.cells #[.int .i64 i,.int .i64 t,.int .i64 x,.int .i64 y,.slice A n c,.slice G m kk,.int .i64 fp,.int .i64 fq,.int .i64 fs,.int .i64 fz,.int .i64 b] 29)).alloc (.cells #[.int .i64 0,.int .i64 0,.int .i64 0,.int .i64 0,.int .i64 0,.int .i64 0,.int .i64 0,.bool false,.bool false] 35)) (w.heap.size+1) (Aw 0 0 0 0 0 0 0 false false):=CellsAt.new _ _ _ _ (by simp)
 have H:=hid (Aa (Aa (Ac w) (.cells #[.int .i64 i,.int .i64 t,.int .i64 x,.int .i64 y,.slice A n c,.slice G m kk,.int .i64 fp,.int .i64 fq,.int .i64 fs,.int .i64 fz,.int .i64 b] 29)) (.cells #[.int .i64 0,.int .i64 0,.int .i64 0,.int .i64 0,.int .i64 0,.int .i64 0,.int .i64 0,.bool false,.bool false] 35));cases hv:Cn i t x y ws gs fp fq fs fz b
 . rw[hv] at V;have V:=hid V;clear hv;go_enter Tryz.func86,Tryz.ntmps86;go_wp2_with fail;refine(V.out _ (I.out.step H.out) (J.out.step H.out)).mono ?_;rintro e w1 ⟨rfl,B⟩;replace P:=P.step B;replace D:=D.step B;replace H:=hid (Ab H.out B);clear B;go_wp2_with (refine Ah rfl 35 (.tmp 2) (.tmp 7) rfl (w.heap.size+1) rfl (Aw 0 0 0 0 0 0 0 false false) rfl _ D (by simp) Ad rfl ?_);intro w2 K N;go_wp2;exact bodyPost_ret (v:=.tuple #[Cd 0 0 0 0 0 0 0 false false,.bool false]) (A7 rfl (w.heap.size+1) rfl (Aw 0 0 0 0 0 0 0 false false) N (.bool false) rfl Tryz.underlying35 rfl Ad) rfl ⟨rfl,Am H.out K (by omega)⟩
 . rw[hv] at V;have V:=hid V;clear hv;go_enter Tryz.func86,Tryz.ntmps86;go_wp2_with fail;refine(V.out _ (I.out.step H.out) (J.out.step H.out)).mono ?_;rintro e w1 ⟨rfl,B⟩;replace P:=P.step B;replace D:=D.step B;replace H:=hid (Ab H.out B);clear B;obtain⟨Pc0,Pc1,Pc2,Pc3,Pc4,Pc5,Pc6,Pc7,Pc8,Pc9,Pc10⟩:=AG P;have Pl:=P.lt;go_wp2_with (refine Ah rfl 35 (.tmp 2) (.tmp 10) rfl (w.heap.size+1) rfl (Aw 0 x y 0 0 0 0 false false) rfl _ D (by simp) Ad rfl ?_);intro w2 K N;go_wp2
   exact bodyPost_ret (v:=.tuple #[Cd 0 x y 0 0 0 0 false false,.bool true]) (A7 rfl (w.heap.size+1) rfl (Aw 0 x y 0 0 0 0 false false) N (.bool true) rfl Tryz.underlying35 rfl Ad) rfl ⟨rfl,Am H.out K (by omega)⟩
def M.enI(d o:Bool):Int:=if d then 1 else if o then 2 else 0
theorem M.end_flg{k ax ay fx fy u g:Int}{d o:Bool}(h:ownB k ax ay fx fy u g d o=true):enI d o=flg d o:=by
 have q:=((FA ..).1 h).2.2.2.2.2.2;cases d<;>cases o<;>first | rfl | cases q
theorem L9(k ax ay fx fy u g:Int)(d o:Bool)(w:World):Calls Tryz.prog 39 #[Cd k ax ay fx fy u g d o] w fun e w'=>e=.returned (.int .i64 (enI d o))/\Below w.heap.size w w':=by
 cases d<;>cases o
 . go_enter Tryz.func39,Tryz.ntmps39;go_wp2;go_ret;exact⟨rfl,Aa (Ac w) _⟩
 . go_enter Tryz.func39,Tryz.ntmps39;go_wp2;go_ret;exact⟨rfl,Aa (Ac w) _⟩
 . go_enter Tryz.func39,Tryz.ntmps39;go_wp2;go_ret;exact⟨rfl,Aa (Ac w) _⟩
 . go_enter Tryz.func39,Tryz.ntmps39;go_wp2;go_ret;exact⟨rfl,Aa (Ac w) _⟩
theorem Jj(k ax ay fx fy u g:Int)(d o:Bool)(w:World):Calls Tryz.prog 19 #[Cd k ax ay fx fy u g d o] w fun e w'=>e=.returned (.int .i64 (ehI k ax ay fx fy u g d o))/\Below w.heap.size w w':=by
 have V:=fun W=>KM k ax ay fx fy u g d o W;cases hv:ownB k ax ay fx fy u g d o
 . rw[hv] at V;have V:=hid V;have E:=hid (show ehI k ax ay fx fy u g d o=-1 by simp[ehI,hv]);clear hv;go_enter Tryz.func19,Tryz.ntmps19;go_wp2_with fail;refine(V.out _).mono ?_;rintro e w1 ⟨rfl,B⟩;have H:=hid (Ab (Aa (Ac w) _) B);clear B;go_wp2;go_ret;exact⟨AX (by rw[E.out]),H.out⟩
 rw[hv] at V;have V:=hid V;have E:=hid (show ehI k ax ay fx fy u g d o=GL 17 [k,ax,ay,fx,fy,u,g,enI d o] by rw[end_flg hv]; simp[ehI,hv,stL]);have C:=fun W=>L9 k ax ay fx fy u g d o W;generalize enI d o=ee at *;have C:=hid C;clear hv;go_enter Tryz.func19,Tryz.ntmps19;go_wp2_with fail;refine(V.out _).mono ?_;rintro e w1 ⟨rfl,B⟩;have P:CellsAt w1 w.heap.size (Aw k ax ay fx fy u g d o):=(CellsAt.new w _ _ _ rfl).step B;have H:=hid (Ab (Aa (Ac w) _) B);clear B V;go_wp2_with fail;refine(OI _).mono ?_;rintro e w2 ⟨rfl,D,B⟩;have hz:=H.out.size;have p1:=P.lt;replace P:=P.step B;replace H:=hid (Ab H.out B);clear B
 go_wp2_with fail;refine wp_region_held_drew (S:=fun w'=>CellsAt w' w.heap.size (Aw k ax ay fx fy u g d o)) (by kernel_rfl) P.drew (fun hHeld=>?_);replace P:=P.drew;replace D:=D.drew;replace H:=hid (Az H.out);refine tl 0 ?_ ?_ hHeld ?_;rotate_left
 . intro w hSw
   try dsimp only at hSw
   go_simp
   all_goals with_reducible rfl
 try simp only[Act.put,sx]
 refine tl 1 ?_ ?_ hHeld ?_;rotate_left
 . intro w hSw
   try dsimp only at hSw
   go_simp
   all_goals with_reducible rfl
 try simp only[Act.put,sx]
 refine tl 2 ?_ ?_ hHeld ?_;rotate_left
 . intro w hSw;have d0:=hSw.cell 0 _ rfl;go_simp
   all_goals with_reducible rfl
 try simp only[Act.put,sx]
 refine tl 3 ?_ ?_ hHeld ?_;rotate_left
 . intro w hSw
   try dsimp only at hSw
   go_simp
   all_goals with_reducible rfl
 try simp only[Act.put,sx]
 refine tl 4 ?_ ?_ hHeld ?_;rotate_left
 . intro w hSw
   try dsimp only at hSw
   go_simp
   all_goals with_reducible rfl
 try simp only[Act.put,sx]
 refine tl 5 ?_ ?_ hHeld ?_;rotate_left
 . intro w hSw;have d1:=hSw.cell 1 _ rfl;go_simp
   all_goals with_reducible rfl
 try simp only[Act.put,sx]
 refine tl 6 ?_ ?_ hHeld ?_;rotate_left
 . intro w hSw
   try dsimp only at hSw
   go_simp
   all_goals with_reducible rfl
 try simp only[Act.put,sx]
 refine tl 7 ?_ ?_ hHeld ?_;rotate_left
 . intro w hSw
   try dsimp only at hSw
   go_simp
   all_goals with_reducible rfl
 try simp only[Act.put,sx]
 refine tl 8 ?_ ?_ hHeld ?_;rotate_left
 . intro w hSw;have d2:=hSw.cell 2 _ rfl;go_simp
   all_goals with_reducible rfl
 try simp only[Act.put,sx]
 refine tl 9 ?_ ?_ hHeld ?_;rotate_left
 . intro w hSw
   try dsimp only at hSw
   go_simp
   all_goals with_reducible rfl
 try simp only[Act.put,sx]
 refine tl 10 ?_ ?_ hHeld ?_;rotate_left
 . intro w hSw
   try dsimp only at hSw
   go_simp
   all_goals with_reducible rfl
 try simp only[Act.put,sx]
 refine tl 11 ?_ ?_ hHeld ?_;rotate_left
 . intro w hSw;have d3:=hSw.cell 3 _ rfl;go_simp
   all_goals with_reducible rfl
 try simp only[Act.put,sx]
 refine tl 12 ?_ ?_ hHeld ?_;rotate_left
 . intro w hSw
   try dsimp only at hSw
   go_simp
   all_goals with_reducible rfl
 try simp only[Act.put,sx]
 refine tl 13 ?_ ?_ hHeld ?_;rotate_left
 . intro w hSw
   try dsimp only at hSw
   go_simp
   all_goals with_reducible rfl
 try simp only[Act.put,sx]
 refine tl 14 ?_ ?_ hHeld ?_;rotate_left
 . intro w hSw;have d4:=hSw.cell 4 _ rfl;go_simp
   all_goals with_reducible rfl
 try simp only[Act.put,sx]
 refine tl 15 ?_ ?_ hHeld ?_;rotate_left
 . intro w hSw
   try dsimp only at hSw
   go_simp
   all_goals with_reducible rfl
 try simp only[Act.put,sx]
 refine tl 16 ?_ ?_ hHeld ?_;rotate_left
 . intro w hSw;have d5:=hSw.cell 5 _ rfl;go_simp
   all_goals with_reducible rfl
 try simp only[Act.put,sx]
 refine tl 17 ?_ ?_ hHeld ?_;rotate_left
 . intro w hSw
   try dsimp only at hSw
   go_simp
   all_goals with_reducible rfl
 try simp only[Act.put,sx]
 refine tl 18 ?_ ?_ hHeld ?_;rotate_left
 . intro w hSw;have d6:=hSw.cell 6 _ rfl;go_simp
   all_goals with_reducible rfl
 try simp only[Act.put,sx]
 refine wpAnyH_take (i:=19) (oi:=_) (v:=.agg (Aw k ax ay fx fy u g d o).toArray) rfl (by kernel_rfl) (by kernel_rfl) (by kernel_rfl) (fun _ _ _ h=>h) (yieldsIf_load_mid (by rfl) 35 (.tmp 1) rfl w.heap.size 0 rfl (Aw k ax ay fx fy u g d o) _ (fun W hS=>hS.range) Tryz.underlying35 rfl Ad) hHeld ?_
 try simp only[Act.put,sx]
 refine rd 20 fun K hK=>?_;refine As ⟨_,Tryz.func39,by kernel_rfl,by rfl⟩ _ _ rfl #[Cd k ax ay fx fy u g d o] (by simp only[List.map_toArray,List.map_cons,List.map_nil]; rfl) (C.out _) (AP fun w3 B=>?_);replace P:=P.step B;replace D:=D.step B;replace H:=hid (Ab H.out B);clear B hHeld;refine hK.out _ _ P (fun hHeld=>?_);clear hK K
 try simp only[Act.put,sx]
 refine wpAnyH_ready (rs:=[21]) (by kernel_rfl) (by simp) ?_;apply AllReadyH.cons rfl ?_ AllReadyH.nil;intro K hK;go_simp;have A8:=Ints.eight w3 w3.heap.size k ax ay fx fy u g ee 3 rfl;have o8:w1.heap.size<w3.heap.size:=D.lt;replace P:=P.alloc (.cells #[.int .i64 k,.int .i64 ax,.int .i64 ay,.int .i64 fx,.int .i64 fy,.int .i64 u,.int .i64 g,.int .i64 ee] 3);replace D:=D.alloc (.cells #[.int .i64 k,.int .i64 ax,.int .i64 ay,.int .i64 fx,.int .i64 fy,.int .i64 u,.int .i64 g,.int .i64 ee] 3);replace H:=hid (Aa H.out (.cells #[.int .i64 k,.int .i64 ax,.int .i64 ay,.int .i64 fx,.int .i64 fy,.int .i64 u,.int .i64 g,.int .i64 ee] 3));clear hHeld
 refine hK.out _ _ P (fun hHeld=>?_);clear hK K
 try simp only[Act.put,sx]
 refine wpAnyH_ready (rs:=[22]) (by kernel_rfl) (by simp) ?_;apply AllReadyH.cons rfl ?_ AllReadyH.nil;intro K hK;go_simp
 go_at_call 68
 refine(QA 17 _ 8 8 _ _ _ (by omega) (by omega) A8 (fun _ k off e=>by cases e; omega) D (by omega)).mono ?_;rintro e w4 ⟨rfl,_,K⟩;replace P:=P.kept K (by omega);replace H:=hid (Am H.out K (by omega));clear K D A8 hHeld;go_wp2_with fail;refine hK.out _ _ P (fun hHeld=>?_);clear hK K
 try simp only[Act.put,sx]
 refine tl 23 ?_ ?_ hHeld ?_;rotate_left
 . intro w hSw
   try dsimp only at hSw
   go_simp
   all_goals with_reducible rfl
 try simp only[Act.put,sx]
 refine wpAnyH_done (by kernel_rfl) ?_ _;go_wp2;go_ret;exact⟨AX (by rw[E.out]),H.out⟩
open Go.RowKit
open M
end Go.Proofs.YtaemcekcancpdabGreatDoor
