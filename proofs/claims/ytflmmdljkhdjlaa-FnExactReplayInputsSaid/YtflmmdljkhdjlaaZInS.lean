import Derived.Test.YtflmmdljkhdjlaaZLevS
set_option linter.all false
set_option maxRecDepth 100000
set_option maxHeartbeats 8000000
open Go.Lib
namespace Go.Proofs.Ytflmmdljkhdjlaa
namespace M
structure In where
 s:Int
 p:Int
 z:Bool
def iz:In:=⟨0,0,false⟩
def Bp(s p:Int)(z:Bool):Bool:=Aw s (-1) 1&&Aw p 0 2&&(!z||(decide (s=0)&&decide (p=0)))
theorem Km{s p:Int}{z:Bool}(h:Aw s (-1) 1=false):Bp s p z=false:=by simp[Bp,h]
theorem MF{s p:Int}{z:Bool}(h:Aw p 0 2=false):Bp s p z=false:=by simp[Bp,h]
theorem CQ{s p:Int}{z:Bool}(h:Bp s p z=true):(-1<=s/\s<=1)/\(0<=p/\p<=2)/\(z=true->s=0/\p=0):=by
 simp only[Bp,Aw,Bool.and_eq_true,decide_eq_true_eq,Bool.or_eq_true,Bool.not_eq_true'] at h;refine⟨h.1.1,h.1.2,fun e=>?_⟩;rcases h.2 with g | g
 . rw[e] at g; cases g
 . exact g
def FC(s p:Int)(z:Bool):Int:=if z then 9 else 3*p+s+1
def KP(s p:Int)(z:Bool):Int:=if Bp s p z then FC s p z else -1
theorem KQ{s p:Int}{z:Bool}(h:Bp s p z=false):KP s p z=-1:=by simp[KP,h]
theorem DX{s p:Int}{z:Bool}(h:Bp s p z=true):KP s p z=FC s p z:=by simp[KP,h]
def DY(n:Int):Int:=if Aw n 0 8 then n % 3-1 else 0
def DZ(n:Int):Int:=if Aw n 0 8 then n / 3 else 0
def EP(n:Int):Bool:=decide (n=9)
def D5(b s0 s p:Int)(z:Bool):Bool:=Bp s p z&&!(z&&JA b 2)&&!(decide (p=2)&&JA b 1)&&Aw (s-s0) (-1) 1
theorem Ko{b s0 s p:Int}{z:Bool}(h:Bp s p z=false):D5 b s0 s p z=false:=by simp[D5,h]
theorem Kq{b s0 s p:Int}{z:Bool}(h:z=true)(g:JA b 2=true):D5 b s0 s p z=false:=by simp[D5,h,g]
theorem Kr{b s0 s p:Int}{z:Bool}(h:p=2)(g:JA b 1=true):D5 b s0 s p z=false:=by simp[D5,h,g]
theorem Gm{b s0 s p:Int}{z:Bool}(h:Bp s p z=true)(g:(z&&JA b 2)=false)(k:(decide (p=2)&&JA b 1)=false):D5 b s0 s p z=Aw (s-s0) (-1) 1:=by simp[D5,h,g,k]
end M
end Go.Proofs.Ytflmmdljkhdjlaa
namespace Go.Proofs.Ytflmmdljkhdjlaa
open Go.RowKit
open M
abbrev BH(s p:Int)(z:Bool):Value:=.agg #[.int .i64 s,.int .i64 p,.bool z]
abbrev AN(s p:Int)(z:Bool):List Value:=[.int .i64 s,.int .i64 p,.bool z]
theorem Jv{s:Int}(h:Aw s (-1) 1=true):s=-1\/s=0\/s=1:=by
 have:-1<=s/\s<=1:=by simpa[Aw] using h
 omega
theorem Jw{p:Int}(h:Aw p 0 2=true):p=0\/p=1\/p=2:=by
 have:0<=p/\p<=2:=by simpa[Aw] using h
 omega
theorem J5{n:Int}(h:Aw n 0 9=true):n=0\/n=1\/n=2\/n=3\/n=4\/n=5\/n=6\/n=7\/n=8\/n=9:=by
 have:0<=n/\n<=9:=by simpa[Aw] using h
 omega
theorem D7(s p:Int)(z:Bool)(w:World):Calls Try.prog 81 #[BH s p z] w fun e w'=>e=.returned (.bool (Bp s p z))/\Below w.heap.size w w':=by
 cases h1:Aw s (-1) 1
 . have E:=hid (Km (p:=p) (z:=z) h1);have hA:=hid h1;clear h1;go_enter Try.func81,Try.ntmps81;go_wp2_with fail;refine(Aj _ _ _ _ _ hA.out).mono ?_;rintro e w' ⟨rfl,rfl⟩;go_wp2;go_ret;exact⟨Al (by rw[E.out]),Ab (Ac w) _⟩
 cases h2:Aw p 0 2
 . have E:=hid (MF (s:=s) (z:=z) h2);have hA:=hid h1;have hB:=hid h2;clear h1 h2;go_enter Try.func81,Try.ntmps81;go_wp2_with fail;refine(Aj _ _ _ _ _ hA.out).mono ?_;rintro e w' ⟨rfl,rfl⟩;go_wp2_with fail;refine(Aj _ _ _ _ _ hB.out).mono ?_;rintro e w' ⟨rfl,rfl⟩;go_wp2;go_ret;exact⟨Al (by rw[E.out]),Ab (Ac w) _⟩
 rcases Jv h1 with rfl | rfl | rfl<;>rcases Jw h2 with rfl | rfl | rfl<;>cases z
 all_goals
  clear h1 h2;go_enter Try.func81,Try.ntmps81;go_wp2_with fail;refine(Aj _ _ _ true _ (by decide)).mono ?_;rintro e w' ⟨rfl,rfl⟩;go_wp2_with fail;refine(Aj _ _ _ true _ (by decide)).mono ?_;rintro e w' ⟨rfl,rfl⟩;go_wp2;go_ret;exact⟨Al (by decide),Ab (Ac w) _⟩
theorem EQ(s p:Int)(z:Bool)(w:World)(h:Bp s p z=true):Calls Try.prog 82 #[BH s p z] w fun e w'=>e=.returned (.int .i64 (FC s p z))/\Below w.heap.size w w':=by
 obtain⟨⟨s1,s2⟩,⟨p1,p2⟩,_⟩:=CQ h;clear h;cases z
 . go_enter Try.func82,Try.ntmps82;go_wp2;go_ret;exact⟨rfl,Ab (Ac w) _⟩
 . go_enter Try.func82,Try.ntmps82;go_wp2;go_ret;exact⟨rfl,Ab (Ac w) _⟩
theorem Fc(n:Int)(w:World):Calls Try.prog 63 #[.int .i64 n] w fun e w'=>e=.returned (.tuple #[BH (DY n) (DZ n) (EP n),.bool (Aw n 0 9)])/\Below w.heap.size w w':=by
 cases h:Aw n 0 9
 . have hA:=hid h;have h8:Aw n 0 8=false:=by
    have:¬ (0<=n/\n<=9):=by simpa[Aw] using h
    exact Cj (by omega)
   have h9:¬ n=9:=by
    have:¬ (0<=n/\n<=9):=by simpa[Aw] using h
    omega
   have e0:DY n=0:=by simp[DY,h8]
   have e1:DZ n=0:=by simp[DZ,h8]
   have e2:EP n=false:=by simp[EP,h9]
   rw[e0,e1,e2];clear h h8 h9 e0 e1 e2;go_enter Try.func63,Try.ntmps63;go_wp2_with fail;refine(Aj _ _ _ _ _ hA.out).mono ?_;rintro e w' ⟨rfl,rfl⟩;go_wp2;exact bodyPost_ret (v:=.tuple #[BH 0 0 false,.bool false]) (by simp[results,Try.results63,go_sem]) rfl ⟨rfl,(by repeat (first | exact Ac _ | refine Ab ?_ _ | refine Ar ?_ _ _ _ (by omega)))⟩
 . rcases J5 h with rfl | rfl | rfl | rfl | rfl | rfl | rfl | rfl | rfl | rfl
   all_goals
    clear h;go_enter Try.func63,Try.ntmps63;go_wp2_with fail;refine(Aj _ _ _ true _ (by decide)).mono ?_;rintro e w' ⟨rfl,rfl⟩;go_wp2;exact bodyPost_ret (by simp[results,Try.results63,go_sem]; decide) rfl ⟨rfl,(by repeat (first | exact Ac _ | refine Ab ?_ _ | refine Ar ?_ _ _ _ (by omega)))⟩
open Go.RowKit
open M
theorem BV(i t x y:Int)(A:Option Addr)(n c:Nat)(G:Option Addr)(m kk:Nat)(fp fq fs fz b:Int)(s0 p0:Int)(z0:Bool)(s p:Int)(z:Bool)(w:World)(b0:0<=b)(b3:b<=3)(s1:-1<=s0)(s2:s0<=1) :
 Calls Try.prog 97 #[Ey i t x y A n c G m kk fp fq fs fz b,BH s0 p0 z0,BH s p z] w fun e w'=>e=.returned (.bool (D5 b s0 s p z))/\Below w.heap.size w w':=by
 have V:=fun W=>D7 s p z W;have D2:=fun W=>ET i t x y A n c G m kk fp fq fs fz b 2 W b0 b3 (Or.inr rfl);have D1:=fun W=>ET i t x y A n c G m kk fp fq fs fz b 1 W b0 b3 (Or.inl rfl);cases h:Bp s p z
 . rw[h] at V;have E:=hid (Ko (b:=b) (s0:=s0) h);have V:=hid V;clear D1 D2 h;go_enter Try.func97,Try.ntmps97;go_wp2_with fail;refine(V.out _).mono ?_;rintro e w1 ⟨rfl,B⟩;have P:CellsAt w1 w.heap.size (Bd i t x y A n c G m kk fp fq fs fz b):=(((CellsAt.new w _ _ _ rfl).alloc _).alloc _).step B;have Q:CellsAt w1 (w.heap.size+1) (AN s0 p0 z0):=((CellsAt.new _ _ _ _ (by simp)).alloc _).step B;have X:CellsAt w1 (w.heap.size+1+1) (AN s p z):=(CellsAt.new _ _ _ _ (by simp)).step B;have H:=hid (Aa (Ab (Ab (Ab (Ac w) _) _) _) B);clear B;obtain⟨Pc0,Pc1,Pc2,Pc3,Pc4,Pc5,Pc6,Pc7,Pc8,Pc9,Pc10⟩:=Bg P;have Pl:=P.lt
   obtain⟨Qc0,Qc1,Qc2⟩:=BD Q;have Ql:=Q.lt;obtain⟨Xc0,Xc1,Xc2⟩:=BD X;have Xl:=X.lt;go_wp2;go_ret;exact⟨Al (by rw[E.out]),H.out⟩
 rw[h] at V;obtain⟨⟨u1,u2⟩,⟨p1,p2⟩,hz⟩:=CQ h;have V:=hid V;have C:=fun W=>Aj (s-s0) (-1) 1 _ W rfl;cases z
 . by_cases hp:p=2
   . subst hp;cases hb:JA b 1
     . have E:=hid (Gm (b:=b) (s0:=s0) h (by simp) (by simp[hb]));rw[hb] at D1;have D1:=hid D1;have C:=hid C;clear D2 hb h hz;go_enter Try.func97,Try.ntmps97;go_wp2_with fail;refine(V.out _).mono ?_;rintro e w1 ⟨rfl,B⟩;have P:CellsAt w1 w.heap.size (Bd i t x y A n c G m kk fp fq fs fz b):=(((CellsAt.new w _ _ _ rfl).alloc _).alloc _).step B;have Q:CellsAt w1 (w.heap.size+1) (AN s0 p0 z0):=((CellsAt.new _ _ _ _ (by simp)).alloc _).step B;have X:CellsAt w1 (w.heap.size+1+1) (AN s 2 false):=(CellsAt.new _ _ _ _ (by simp)).step B;have H:=hid (Aa (Ab (Ab (Ab (Ac w) _) _) _) B);clear B
       obtain⟨Pc0,Pc1,Pc2,Pc3,Pc4,Pc5,Pc6,Pc7,Pc8,Pc9,Pc10⟩:=Bg P;have Pl:=P.lt;obtain⟨Qc0,Qc1,Qc2⟩:=BD Q;have Ql:=Q.lt;obtain⟨Xc0,Xc1,Xc2⟩:=BD X;have Xl:=X.lt;go_wp2_with fail;refine(D1.out _).mono ?_;rintro e w2 ⟨rfl,B⟩;replace P:=P.step B;replace Q:=Q.step B;replace X:=X.step B;replace H:=hid (Aa H.out B);clear Pc0 Pc1 Pc2 Pc3 Pc4 Pc5 Pc6 Pc7 Pc8 Pc9 Pc10 Qc0 Qc1 Qc2 Xc0 Xc1 Xc2 Pl Ql Xl;clear B;obtain⟨Pc0,Pc1,Pc2,Pc3,Pc4,Pc5,Pc6,Pc7,Pc8,Pc9,Pc10⟩:=Bg P;have Pl:=P.lt;obtain⟨Qc0,Qc1,Qc2⟩:=BD Q;have Ql:=Q.lt;obtain⟨Xc0,Xc1,Xc2⟩:=BD X;have Xl:=X.lt;go_wp2_with fail;refine(C.out _).mono ?_
       rintro e w' ⟨rfl,rfl⟩;go_wp2;go_ret;exact⟨Al (by rw[E.out]),H.out⟩
     . have E:=hid (Kr (s0:=s0) (s:=s) (z:=false) rfl hb);rw[hb] at D1;have D1:=hid D1;clear D2 hb h hz C;go_enter Try.func97,Try.ntmps97;go_wp2_with fail;refine(V.out _).mono ?_;rintro e w1 ⟨rfl,B⟩;have P:CellsAt w1 w.heap.size (Bd i t x y A n c G m kk fp fq fs fz b):=(((CellsAt.new w _ _ _ rfl).alloc _).alloc _).step B;have Q:CellsAt w1 (w.heap.size+1) (AN s0 p0 z0):=((CellsAt.new _ _ _ _ (by simp)).alloc _).step B;have X:CellsAt w1 (w.heap.size+1+1) (AN s 2 false):=(CellsAt.new _ _ _ _ (by simp)).step B;have H:=hid (Aa (Ab (Ab (Ab (Ac w) _) _) _) B);clear B
       obtain⟨Pc0,Pc1,Pc2,Pc3,Pc4,Pc5,Pc6,Pc7,Pc8,Pc9,Pc10⟩:=Bg P;have Pl:=P.lt;obtain⟨Qc0,Qc1,Qc2⟩:=BD Q;have Ql:=Q.lt;obtain⟨Xc0,Xc1,Xc2⟩:=BD X;have Xl:=X.lt;go_wp2_with fail;refine(D1.out _).mono ?_;rintro e w2 ⟨rfl,B⟩;replace P:=P.step B;replace Q:=Q.step B;replace X:=X.step B;replace H:=hid (Aa H.out B);clear Pc0 Pc1 Pc2 Pc3 Pc4 Pc5 Pc6 Pc7 Pc8 Pc9 Pc10 Qc0 Qc1 Qc2 Xc0 Xc1 Xc2 Pl Ql Xl;clear B;obtain⟨Pc0,Pc1,Pc2,Pc3,Pc4,Pc5,Pc6,Pc7,Pc8,Pc9,Pc10⟩:=Bg P;have Pl:=P.lt;obtain⟨Qc0,Qc1,Qc2⟩:=BD Q;have Ql:=Q.lt;obtain⟨Xc0,Xc1,Xc2⟩:=BD X;have Xl:=X.lt;go_wp2;go_ret;exact⟨Al (by rw[E.out]),H.out⟩
   . have E:=hid (Gm (b:=b) (s0:=s0) h (by simp) (by simp[hp]));have C:=hid C;have pd:(p==2)=false:=beq_eq_false_iff_ne.2 hp;clear D1 D2 h hz hp;go_enter Try.func97,Try.ntmps97;go_wp2_with fail;refine(V.out _).mono ?_;rintro e w1 ⟨rfl,B⟩;have P:CellsAt w1 w.heap.size (Bd i t x y A n c G m kk fp fq fs fz b):=(((CellsAt.new w _ _ _ rfl).alloc _).alloc _).step B;have Q:CellsAt w1 (w.heap.size+1) (AN s0 p0 z0):=((CellsAt.new _ _ _ _ (by simp)).alloc _).step B;have X:CellsAt w1 (w.heap.size+1+1) (AN s p false):=(CellsAt.new _ _ _ _ (by simp)).step B;have H:=hid (Aa (Ab (Ab (Ab (Ac w) _) _) _) B);clear B
     obtain⟨Pc0,Pc1,Pc2,Pc3,Pc4,Pc5,Pc6,Pc7,Pc8,Pc9,Pc10⟩:=Bg P;have Pl:=P.lt;obtain⟨Qc0,Qc1,Qc2⟩:=BD Q;have Ql:=Q.lt;obtain⟨Xc0,Xc1,Xc2⟩:=BD X;have Xl:=X.lt;go_wp2_with fail;refine(C.out _).mono ?_;rintro e w' ⟨rfl,rfl⟩;go_wp2;go_ret;exact⟨Al (by rw[E.out]),H.out⟩
 . obtain⟨rfl,rfl⟩:=hz rfl;cases hb:JA b 2
   . have E:=hid (show D5 b s0 0 0 true=Aw (-s0) (-1) 1 by rw[Gm (b:=b) (s0:=s0) h (by simp[hb]) (by simp),Int.zero_sub]);rw[hb] at D2;have D2:=hid D2;have C:=hid (fun W=>Aj (-s0) (-1) 1 _ W rfl);clear D1 hb h hz;go_enter Try.func97,Try.ntmps97;go_wp2_with fail;refine(V.out _).mono ?_;rintro e w1 ⟨rfl,B⟩;have P:CellsAt w1 w.heap.size (Bd i t x y A n c G m kk fp fq fs fz b):=(((CellsAt.new w _ _ _ rfl).alloc _).alloc _).step B;have Q:CellsAt w1 (w.heap.size+1) (AN s0 p0 z0):=((CellsAt.new _ _ _ _ (by simp)).alloc _).step B;have X:CellsAt w1 (w.heap.size+1+1) (AN 0 0 true):=(CellsAt.new _ _ _ _ (by simp)).step B
     have H:=hid (Aa (Ab (Ab (Ab (Ac w) _) _) _) B);clear B;obtain⟨Pc0,Pc1,Pc2,Pc3,Pc4,Pc5,Pc6,Pc7,Pc8,Pc9,Pc10⟩:=Bg P;have Pl:=P.lt;obtain⟨Qc0,Qc1,Qc2⟩:=BD Q;have Ql:=Q.lt;obtain⟨Xc0,Xc1,Xc2⟩:=BD X;have Xl:=X.lt;go_wp2_with fail;refine(D2.out _).mono ?_;rintro e w2 ⟨rfl,B⟩;replace P:=P.step B;replace Q:=Q.step B;replace X:=X.step B;replace H:=hid (Aa H.out B);clear Pc0 Pc1 Pc2 Pc3 Pc4 Pc5 Pc6 Pc7 Pc8 Pc9 Pc10 Qc0 Qc1 Qc2 Xc0 Xc1 Xc2 Pl Ql Xl;clear B;obtain⟨Pc0,Pc1,Pc2,Pc3,Pc4,Pc5,Pc6,Pc7,Pc8,Pc9,Pc10⟩:=Bg P;have Pl:=P.lt;obtain⟨Qc0,Qc1,Qc2⟩:=BD Q;have Ql:=Q.lt
     obtain⟨Xc0,Xc1,Xc2⟩:=BD X;have Xl:=X.lt;go_wp2_with fail;refine(C.out _).mono ?_;rintro e w' ⟨rfl,rfl⟩;go_wp2;go_ret;exact⟨Al (by rw[E.out]),H.out⟩
   . have E:=hid (Kq (s0:=s0) (s:=0) (p:=0) (z:=true) rfl hb);rw[hb] at D2;have D2:=hid D2;clear D1 hb h hz C;go_enter Try.func97,Try.ntmps97;go_wp2_with fail;refine(V.out _).mono ?_;rintro e w1 ⟨rfl,B⟩;have P:CellsAt w1 w.heap.size (Bd i t x y A n c G m kk fp fq fs fz b):=(((CellsAt.new w _ _ _ rfl).alloc _).alloc _).step B;have Q:CellsAt w1 (w.heap.size+1) (AN s0 p0 z0):=((CellsAt.new _ _ _ _ (by simp)).alloc _).step B;have X:CellsAt w1 (w.heap.size+1+1) (AN 0 0 true):=(CellsAt.new _ _ _ _ (by simp)).step B;have H:=hid (Aa (Ab (Ab (Ab (Ac w) _) _) _) B);clear B
     obtain⟨Pc0,Pc1,Pc2,Pc3,Pc4,Pc5,Pc6,Pc7,Pc8,Pc9,Pc10⟩:=Bg P;have Pl:=P.lt;obtain⟨Qc0,Qc1,Qc2⟩:=BD Q;have Ql:=Q.lt;obtain⟨Xc0,Xc1,Xc2⟩:=BD X;have Xl:=X.lt;go_wp2_with fail;refine(D2.out _).mono ?_;rintro e w2 ⟨rfl,B⟩;replace P:=P.step B;replace Q:=Q.step B;replace X:=X.step B;replace H:=hid (Aa H.out B);clear Pc0 Pc1 Pc2 Pc3 Pc4 Pc5 Pc6 Pc7 Pc8 Pc9 Pc10 Qc0 Qc1 Qc2 Xc0 Xc1 Xc2 Pl Ql Xl;clear B;obtain⟨Pc0,Pc1,Pc2,Pc3,Pc4,Pc5,Pc6,Pc7,Pc8,Pc9,Pc10⟩:=Bg P;have Pl:=P.lt;obtain⟨Qc0,Qc1,Qc2⟩:=BD Q;have Ql:=Q.lt;obtain⟨Xc0,Xc1,Xc2⟩:=BD X;have Xl:=X.lt;go_wp2;go_ret;exact⟨Al (by rw[E.out]),H.out⟩
open Go.RowKit
open M
end Go.Proofs.Ytflmmdljkhdjlaa
