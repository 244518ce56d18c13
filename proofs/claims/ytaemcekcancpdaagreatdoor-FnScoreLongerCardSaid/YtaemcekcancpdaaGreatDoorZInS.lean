import Derived.Test.YtaemcekcancpdaaGreatDoorZLevS
set_option linter.all false
set_option maxRecDepth 100000
set_option maxHeartbeats 8000000
open Go.Lib
namespace Go.Proofs.YtaemcekcancpdaaGreatDoor
namespace M
structure In where
 s:Int
 p:Int
 z:Bool
def iz:In:=⟨0,0,false⟩
def DY(s p:Int)(z:Bool):Bool:=Bc s (-1) 1&&Bc p 0 2&&(!z||(decide (s=0)&&decide (p=0)))
theorem SY{s p:Int}{z:Bool}(h:Bc s (-1) 1=false):DY s p z=false:=by simp[DY,h]
theorem SZ{s p:Int}{z:Bool}(h:Bc p 0 2=false):DY s p z=false:=by simp[DY,h]
theorem E4{s p:Int}{z:Bool}(h:DY s p z=true):(-1<=s/\s<=1)/\(0<=p/\p<=2)/\(z=true->s=0/\p=0):=by
 simp only[DY,Bc,Bool.and_eq_true,decide_eq_true_eq,Bool.or_eq_true,Bool.not_eq_true'] at h;refine⟨h.1.1,h.1.2,fun e=>?_⟩;rcases h.2 with g | g
 . rw[e] at g; cases g
 . exact g
def QU(n:Int):Int:=if Bc n 0 8 then n % 3-1 else 0
def QV(n:Int):Int:=if Bc n 0 8 then n / 3 else 0
def S0(n:Int):Bool:=decide (n=9)
def Gk(b s0 s p:Int)(z:Bool):Bool:=DY s p z&&!(z&&I3 b 2)&&!(decide (p=2)&&I3 b 1)&&Bc (s-s0) (-1) 1
theorem S5{b s0 s p:Int}{z:Bool}(h:DY s p z=false):Gk b s0 s p z=false:=by simp[Gk,h]
theorem S9{b s0 s p:Int}{z:Bool}(h:z=true)(g:I3 b 2=true):Gk b s0 s p z=false:=by simp[Gk,h,g]
theorem Ta{b s0 s p:Int}{z:Bool}(h:p=2)(g:I3 b 1=true):Gk b s0 s p z=false:=by simp[Gk,h,g]
theorem LY{b s0 s p:Int}{z:Bool}(h:DY s p z=true)(g:(z&&I3 b 2)=false)(k:(decide (p=2)&&I3 b 1)=false):Gk b s0 s p z=Bc (s-s0) (-1) 1:=by simp[Gk,h,g,k]
end M
end Go.Proofs.YtaemcekcancpdaaGreatDoor
namespace Go.Proofs.YtaemcekcancpdaaGreatDoor
open Go.RowKit
open M
abbrev DZ(s p:Int)(z:Bool):Value:=.agg #[.int .i64 s,.int .i64 p,.bool z]
abbrev ins(s p:Int)(z:Bool):List Value:=[.int .i64 s,.int .i64 p,.bool z]
theorem Rp{s:Int}(h:Bc s (-1) 1=true):s=-1\/s=0\/s=1:=by
 have:-1<=s/\s<=1:=by simpa[Bc] using h
 omega
theorem Rq{p:Int}(h:Bc p 0 2=true):p=0\/p=1\/p=2:=by
 have:0<=p/\p<=2:=by simpa[Bc] using h
 omega
theorem Um{n:Int}(h:Bc n 0 9=true):n=0\/n=1\/n=2\/n=3\/n=4\/n=5\/n=6\/n=7\/n=8\/n=9:=by
 have:0<=n/\n<=9:=by simpa[Bc] using h
 omega
theorem LZ(s p:Int)(z:Bool)(w:World):Calls Tryz.prog 76 #[DZ s p z] w fun e w'=>e=.returned (.bool (DY s p z))/\Below w.heap.size w w':=by
 cases h1:Bc s (-1) 1
 . have E:=hid (SY (p:=p) (z:=z) h1);have hA:=hid h1;clear h1;go_enter Tryz.func76,Tryz.ntmps76;go_wp2_with fail;refine(AV _ _ _ _ _ hA.out).mono ?_;rintro e w' ⟨rfl,rfl⟩;go_wp2;go_ret;exact⟨Aq (by rw[E.out]),Aa (Ac w) _⟩
 cases h2:Bc p 0 2
 . have E:=hid (SZ (s:=s) (z:=z) h2);have hA:=hid h1;have hB:=hid h2;clear h1 h2;go_enter Tryz.func76,Tryz.ntmps76;go_wp2_with fail;refine(AV _ _ _ _ _ hA.out).mono ?_;rintro e w' ⟨rfl,rfl⟩;go_wp2_with fail;refine(AV _ _ _ _ _ hB.out).mono ?_;rintro e w' ⟨rfl,rfl⟩;go_wp2;go_ret;exact⟨Aq (by rw[E.out]),Aa (Ac w) _⟩
 rcases Rp h1 with rfl | rfl | rfl<;>rcases Rq h2 with rfl | rfl | rfl<;>cases z
 all_goals
  clear h1 h2;go_enter Tryz.func76,Tryz.ntmps76;go_wp2_with fail;refine(AV _ _ _ true _ (by decide)).mono ?_;rintro e w' ⟨rfl,rfl⟩;go_wp2_with fail;refine(AV _ _ _ true _ (by decide)).mono ?_;rintro e w' ⟨rfl,rfl⟩;go_wp2;go_ret;exact⟨Aq (by decide),Aa (Ac w) _⟩
theorem MW(n:Int)(w:World):Calls Tryz.prog 53 #[.int .i64 n] w fun e w'=>e=.returned (.tuple #[DZ (QU n) (QV n) (S0 n),.bool (Bc n 0 9)])/\Below w.heap.size w w':=by
 cases h:Bc n 0 9
 . have hA:=hid h;have h8:Bc n 0 8=false:=by
    have:¬ (0<=n/\n<=9):=by simpa[Bc] using h
    exact CJ (by omega)
   have h9:¬ n=9:=by
    have:¬ (0<=n/\n<=9):=by simpa[Bc] using h
    omega
   have e0:QU n=0:=by simp[QU,h8]
   have e1:QV n=0:=by simp[QV,h8]
   have e2:S0 n=false:=by simp[S0,h9]
   rw[e0,e1,e2];clear h h8 h9 e0 e1 e2;go_enter Tryz.func53,Tryz.ntmps53;go_wp2_with fail;refine(AV _ _ _ _ _ hA.out).mono ?_;rintro e w' ⟨rfl,rfl⟩;go_wp2;exact bodyPost_ret (v:=.tuple #[DZ 0 0 false,.bool false]) (by simp[results,Tryz.results53,go_sem]) rfl ⟨rfl,(by repeat (first | exact Ac _ | refine Aa ?_ _ | refine Ap ?_ _ _ _ (by omega)))⟩
 . rcases Um h with rfl | rfl | rfl | rfl | rfl | rfl | rfl | rfl | rfl | rfl
   all_goals
    clear h;go_enter Tryz.func53,Tryz.ntmps53;go_wp2_with fail;refine(AV _ _ _ true _ (by decide)).mono ?_;rintro e w' ⟨rfl,rfl⟩;go_wp2;exact bodyPost_ret (by simp[results,Tryz.results53,go_sem]; decide) rfl ⟨rfl,(by repeat (first | exact Ac _ | refine Aa ?_ _ | refine Ap ?_ _ _ _ (by omega)))⟩
open Go.RowKit
open M
theorem DL(i t x y:Int)(A:Option Addr)(n c:Nat)(G:Option Addr)(m kk:Nat)(fp fq fs fz b:Int)(s0 p0:Int)(z0:Bool)(s p:Int)(z:Bool)(w:World)(b0:0<=b)(b3:b<=3)(s1:-1<=s0)(s2:s0<=1) :
 Calls Tryz.prog 61 #[CX i t x y A n c G m kk fp fq fs fz b,DZ s0 p0 z0,DZ s p z] w fun e w'=>e=.returned (.bool (Gk b s0 s p z))/\Below w.heap.size w w':=by
 have V:=fun W=>LZ s p z W;have D2:=fun W=>Ji i t x y A n c G m kk fp fq fs fz b 2 W b0 b3 (Or.inr rfl);have D1:=fun W=>Ji i t x y A n c G m kk fp fq fs fz b 1 W b0 b3 (Or.inl rfl);cases h:DY s p z
 . rw[h] at V;have E:=hid (S5 (b:=b) (s0:=s0) h);have V:=hid V;clear D1 D2 h;go_enter Tryz.func61,Tryz.ntmps61;go_wp2_with fail;refine(V.out _).mono ?_;rintro e w1 ⟨rfl,B⟩;have P:CellsAt w1 w.heap.size (AX i t x y A n c G m kk fp fq fs fz b):=(((CellsAt.new w _ _ _ rfl).alloc _).alloc _).step B;have Q:CellsAt w1 (w.heap.size+1) (ins s0 p0 z0):=((CellsAt.new _ _ _ _ (by simp)).alloc _).step B;have X:CellsAt w1 (w.heap.size+1+1) (ins s p z):=(CellsAt.new _ _ _ _ (by simp)).step B;have H:=hid (Ab (Aa (Aa (Aa (Ac w) _) _) _) B);clear B;obtain⟨Pc0,Pc1,Pc2,Pc3,Pc4,Pc5,Pc6,Pc7,Pc8,Pc9,Pc10⟩:=AL P;have Pl:=P.lt
   obtain⟨Qc0,Qc1,Qc2⟩:=BQ Q;have Ql:=Q.lt;obtain⟨Xc0,Xc1,Xc2⟩:=BQ X;have Xl:=X.lt;go_wp2;go_ret;exact⟨Aq (by rw[E.out]),H.out⟩
 rw[h] at V;obtain⟨⟨u1,u2⟩,⟨p1,p2⟩,hz⟩:=E4 h;have V:=hid V;have C:=fun W=>AV (s-s0) (-1) 1 _ W rfl;cases z
 . by_cases hp:p=2
   . subst hp;cases hb:I3 b 1
     . have E:=hid (LY (b:=b) (s0:=s0) h (by simp) (by simp[hb]));rw[hb] at D1;have D1:=hid D1;have C:=hid C;clear D2 hb h hz;go_enter Tryz.func61,Tryz.ntmps61;go_wp2_with fail;refine(V.out _).mono ?_;rintro e w1 ⟨rfl,B⟩;have P:CellsAt w1 w.heap.size (AX i t x y A n c G m kk fp fq fs fz b):=(((CellsAt.new w _ _ _ rfl).alloc _).alloc _).step B;have Q:CellsAt w1 (w.heap.size+1) (ins s0 p0 z0):=((CellsAt.new _ _ _ _ (by simp)).alloc _).step B;have X:CellsAt w1 (w.heap.size+1+1) (ins s 2 false):=(CellsAt.new _ _ _ _ (by simp)).step B;have H:=hid (Ab (Aa (Aa (Aa (Ac w) _) _) _) B);clear B
       obtain⟨Pc0,Pc1,Pc2,Pc3,Pc4,Pc5,Pc6,Pc7,Pc8,Pc9,Pc10⟩:=AL P;have Pl:=P.lt;obtain⟨Qc0,Qc1,Qc2⟩:=BQ Q;have Ql:=Q.lt;obtain⟨Xc0,Xc1,Xc2⟩:=BQ X;have Xl:=X.lt;go_wp2_with fail;refine(D1.out _).mono ?_;rintro e w2 ⟨rfl,B⟩;replace P:=P.step B;replace Q:=Q.step B;replace X:=X.step B;replace H:=hid (Ab H.out B);clear Pc0 Pc1 Pc2 Pc3 Pc4 Pc5 Pc6 Pc7 Pc8 Pc9 Pc10 Qc0 Qc1 Qc2 Xc0 Xc1 Xc2 Pl Ql Xl;clear B;obtain⟨Pc0,Pc1,Pc2,Pc3,Pc4,Pc5,Pc6,Pc7,Pc8,Pc9,Pc10⟩:=AL P;have Pl:=P.lt;obtain⟨Qc0,Qc1,Qc2⟩:=BQ Q;have Ql:=Q.lt;obtain⟨Xc0,Xc1,Xc2⟩:=BQ X;have Xl:=X.lt;go_wp2_with fail;refine(C.out _).mono ?_
       rintro e w' ⟨rfl,rfl⟩;go_wp2;go_ret;exact⟨Aq (by rw[E.out]),H.out⟩
     . have E:=hid (Ta (s0:=s0) (s:=s) (z:=false) rfl hb);rw[hb] at D1;have D1:=hid D1;clear D2 hb h hz C;go_enter Tryz.func61,Tryz.ntmps61;go_wp2_with fail;refine(V.out _).mono ?_;rintro e w1 ⟨rfl,B⟩;have P:CellsAt w1 w.heap.size (AX i t x y A n c G m kk fp fq fs fz b):=(((CellsAt.new w _ _ _ rfl).alloc _).alloc _).step B;have Q:CellsAt w1 (w.heap.size+1) (ins s0 p0 z0):=((CellsAt.new _ _ _ _ (by simp)).alloc _).step B;have X:CellsAt w1 (w.heap.size+1+1) (ins s 2 false):=(CellsAt.new _ _ _ _ (by simp)).step B;have H:=hid (Ab (Aa (Aa (Aa (Ac w) _) _) _) B);clear B
       obtain⟨Pc0,Pc1,Pc2,Pc3,Pc4,Pc5,Pc6,Pc7,Pc8,Pc9,Pc10⟩:=AL P;have Pl:=P.lt;obtain⟨Qc0,Qc1,Qc2⟩:=BQ Q;have Ql:=Q.lt;obtain⟨Xc0,Xc1,Xc2⟩:=BQ X;have Xl:=X.lt;go_wp2_with fail;refine(D1.out _).mono ?_;rintro e w2 ⟨rfl,B⟩;replace P:=P.step B;replace Q:=Q.step B;replace X:=X.step B;replace H:=hid (Ab H.out B);clear Pc0 Pc1 Pc2 Pc3 Pc4 Pc5 Pc6 Pc7 Pc8 Pc9 Pc10 Qc0 Qc1 Qc2 Xc0 Xc1 Xc2 Pl Ql Xl;clear B;obtain⟨Pc0,Pc1,Pc2,Pc3,Pc4,Pc5,Pc6,Pc7,Pc8,Pc9,Pc10⟩:=AL P;have Pl:=P.lt;obtain⟨Qc0,Qc1,Qc2⟩:=BQ Q;have Ql:=Q.lt;obtain⟨Xc0,Xc1,Xc2⟩:=BQ X;have Xl:=X.lt;go_wp2;go_ret;exact⟨Aq (by rw[E.out]),H.out⟩
   . have E:=hid (LY (b:=b) (s0:=s0) h (by simp) (by simp[hp]));have C:=hid C;have pd:(p==2)=false:=beq_eq_false_iff_ne.2 hp;clear D1 D2 h hz hp;go_enter Tryz.func61,Tryz.ntmps61;go_wp2_with fail;refine(V.out _).mono ?_;rintro e w1 ⟨rfl,B⟩;have P:CellsAt w1 w.heap.size (AX i t x y A n c G m kk fp fq fs fz b):=(((CellsAt.new w _ _ _ rfl).alloc _).alloc _).step B;have Q:CellsAt w1 (w.heap.size+1) (ins s0 p0 z0):=((CellsAt.new _ _ _ _ (by simp)).alloc _).step B;have X:CellsAt w1 (w.heap.size+1+1) (ins s p false):=(CellsAt.new _ _ _ _ (by simp)).step B;have H:=hid (Ab (Aa (Aa (Aa (Ac w) _) _) _) B);clear B
     obtain⟨Pc0,Pc1,Pc2,Pc3,Pc4,Pc5,Pc6,Pc7,Pc8,Pc9,Pc10⟩:=AL P;have Pl:=P.lt;obtain⟨Qc0,Qc1,Qc2⟩:=BQ Q;have Ql:=Q.lt;obtain⟨Xc0,Xc1,Xc2⟩:=BQ X;have Xl:=X.lt;go_wp2_with fail;refine(C.out _).mono ?_;rintro e w' ⟨rfl,rfl⟩;go_wp2;go_ret;exact⟨Aq (by rw[E.out]),H.out⟩
 . obtain⟨rfl,rfl⟩:=hz rfl;cases hb:I3 b 2
   . have E:=hid (show Gk b s0 0 0 true=Bc (-s0) (-1) 1 by rw[LY (b:=b) (s0:=s0) h (by simp[hb]) (by simp),Int.zero_sub]);rw[hb] at D2;have D2:=hid D2;have C:=hid (fun W=>AV (-s0) (-1) 1 _ W rfl);clear D1 hb h hz;go_enter Tryz.func61,Tryz.ntmps61;go_wp2_with fail;refine(V.out _).mono ?_;rintro e w1 ⟨rfl,B⟩;have P:CellsAt w1 w.heap.size (AX i t x y A n c G m kk fp fq fs fz b):=(((CellsAt.new w _ _ _ rfl).alloc _).alloc _).step B;have Q:CellsAt w1 (w.heap.size+1) (ins s0 p0 z0):=((CellsAt.new _ _ _ _ (by simp)).alloc _).step B;have X:CellsAt w1 (w.heap.size+1+1) (ins 0 0 true):=(CellsAt.new _ _ _ _ (by simp)).step B
     have H:=hid (Ab (Aa (Aa (Aa (Ac w) _) _) _) B);clear B;obtain⟨Pc0,Pc1,Pc2,Pc3,Pc4,Pc5,Pc6,Pc7,Pc8,Pc9,Pc10⟩:=AL P;have Pl:=P.lt;obtain⟨Qc0,Qc1,Qc2⟩:=BQ Q;have Ql:=Q.lt;obtain⟨Xc0,Xc1,Xc2⟩:=BQ X;have Xl:=X.lt;go_wp2_with fail;refine(D2.out _).mono ?_;rintro e w2 ⟨rfl,B⟩;replace P:=P.step B;replace Q:=Q.step B;replace X:=X.step B;replace H:=hid (Ab H.out B);clear Pc0 Pc1 Pc2 Pc3 Pc4 Pc5 Pc6 Pc7 Pc8 Pc9 Pc10 Qc0 Qc1 Qc2 Xc0 Xc1 Xc2 Pl Ql Xl;clear B;obtain⟨Pc0,Pc1,Pc2,Pc3,Pc4,Pc5,Pc6,Pc7,Pc8,Pc9,Pc10⟩:=AL P;have Pl:=P.lt;obtain⟨Qc0,Qc1,Qc2⟩:=BQ Q;have Ql:=Q.lt
     obtain⟨Xc0,Xc1,Xc2⟩:=BQ X;have Xl:=X.lt;go_wp2_with fail;refine(C.out _).mono ?_;rintro e w' ⟨rfl,rfl⟩;go_wp2;go_ret;exact⟨Aq (by rw[E.out]),H.out⟩
   . have E:=hid (S9 (s0:=s0) (s:=0) (p:=0) (z:=true) rfl hb);rw[hb] at D2;have D2:=hid D2;clear D1 hb h hz C;go_enter Tryz.func61,Tryz.ntmps61;go_wp2_with fail;refine(V.out _).mono ?_;rintro e w1 ⟨rfl,B⟩;have P:CellsAt w1 w.heap.size (AX i t x y A n c G m kk fp fq fs fz b):=(((CellsAt.new w _ _ _ rfl).alloc _).alloc _).step B;have Q:CellsAt w1 (w.heap.size+1) (ins s0 p0 z0):=((CellsAt.new _ _ _ _ (by simp)).alloc _).step B;have X:CellsAt w1 (w.heap.size+1+1) (ins 0 0 true):=(CellsAt.new _ _ _ _ (by simp)).step B;have H:=hid (Ab (Aa (Aa (Aa (Ac w) _) _) _) B);clear B
     obtain⟨Pc0,Pc1,Pc2,Pc3,Pc4,Pc5,Pc6,Pc7,Pc8,Pc9,Pc10⟩:=AL P;have Pl:=P.lt;obtain⟨Qc0,Qc1,Qc2⟩:=BQ Q;have Ql:=Q.lt;obtain⟨Xc0,Xc1,Xc2⟩:=BQ X;have Xl:=X.lt;go_wp2_with fail;refine(D2.out _).mono ?_;rintro e w2 ⟨rfl,B⟩;replace P:=P.step B;replace Q:=Q.step B;replace X:=X.step B;replace H:=hid (Ab H.out B);clear Pc0 Pc1 Pc2 Pc3 Pc4 Pc5 Pc6 Pc7 Pc8 Pc9 Pc10 Qc0 Qc1 Qc2 Xc0 Xc1 Xc2 Pl Ql Xl;clear B;obtain⟨Pc0,Pc1,Pc2,Pc3,Pc4,Pc5,Pc6,Pc7,Pc8,Pc9,Pc10⟩:=AL P;have Pl:=P.lt;obtain⟨Qc0,Qc1,Qc2⟩:=BQ Q;have Ql:=Q.lt;obtain⟨Xc0,Xc1,Xc2⟩:=BQ X;have Xl:=X.lt;go_wp2;go_ret;exact⟨Aq (by rw[E.out]),H.out⟩
open Go.RowKit
open M
open Go.RowKit
open M
theorem KG(a b c d x y r:Int)(w:World)(hb:Dd a b c d=true)(x1:-2000000<=x)(x2:x<=2000000)(y1:-2000000<=y)(y2:y<=2000000)(r0:0<=r)(r1:r<=1000000):Calls Tryz.prog 75 #[box a b c d,Bs x y,.int .i64 r] w fun e w'=>e=.returned (.bool (NL a b c d x y r))/\Below w.heap.size w w':=by
 obtain⟨⟨⟨a1,a2⟩,b1,b2⟩,⟨⟨c1,c2⟩,d1,d2⟩,ac,bd⟩:=(EL a b c d).1 hb;have n1:-1000000<=max a (min x c)/\max a (min x c)<=1000000:=by omega
 have n2:-1000000<=max b (min y d)/\max b (min y d)<=1000000:=by omega
 have E:=hid (show NL a b c d x y r=decide ((x-max a (min x c))*(x-max a (min x c))+(y-max b (min y d))*(y-max b (min y d))<=r*r) from rfl);have Q:=hid (fun W=>IU a b c d x y W);clear hb;generalize max a (min x c)=X at *;generalize max b (min y d)=Y at *;have m1:=Cm (a:=x-X) (b:=x-X) (by omega) (by omega) (by omega) (by omega);have m2:=Cm (a:=y-Y) (b:=y-Y) (by omega) (by omega) (by omega) (by omega);have m3:=Cm (a:=r) (b:=r) (by omega) (by omega) (by omega) (by omega);go_enter Tryz.func75,Tryz.ntmps75;go_wp2_with fail;refine(Q.out _).mono ?_;rintro e w1 ⟨rfl,B1⟩;obtain⟨hc1,hf1⟩:=AC B1
 have l0:w.heap.size<w1.heap.size:=by have:=B1.size; simp at this; omega
 have l1:w.heap.size+1<w1.heap.size:=by have:=B1.size; simp at this; omega
 have H1:=hid (Ab (Aa (Aa (Ac w) _) _) B1);clear B1 Q;go_wp2;go_ret;exact⟨Aq (by rw[E.out]),Aa H1.out _⟩
theorem Gn(i t x y:Int)(A:Option Addr)(n c:Nat)(G:Option Addr)(m k:Nat)(p q r s b:Int)(ws:List Bx)(u v:Int)(w:World)(I:Boxes w A n ws)(ok:Dh ws=true)(u1:-2000000<=u)(u2:u<=2000000)(v1:-2000000<=v)(v2:v<=2000000)(hn:n<=281474976710656) :
 Calls Tryz.prog 60 #[CX i t x y A n c G m k p q r s b,Bs u v] w fun e w'=>e=.returned (.bool (Cw ws u v))/\Below w.heap.size w w':=by
 have hl:=hid I.1;have I:=hid I;have ok:=hid ok;go_enter Tryz.func60,Tryz.ntmps60;go_wp2
 go_loopw [5] (M4 w n ws u v (AX i t x y A n c G m k p q r s b)) (fun i _=>n-(intOf i).toNat)
 case atStart=>exact⟨0,Nat.zero_le _,rfl,rfl,(CellsAt.new w _ _ _ rfl).alloc _,PCell.new _ _ _ _ _ (by simp),Aa (Aa (Ac w) _) _⟩
 case round =>
  obtain⟨j,hj,rfl,ha,L,P,B⟩:=hrel;have ha:=hid ha;have l4:=L.cell 4 _ rfl;have ll:=L.lt;have pl:=P.lt;by_cases hlt:j<n
  . obtain⟨bb,off,rfl,hb,hcell⟩:=(I.out.step B).2 (by omega);have Z:=(hcell j hlt).lie hb;have hkl:j<ws.length:=by have:=hl.out; omega
    have HS:=FN (f:=fun z=>!(z.hit u v)) hkl ha.out;have HN:=JR (f:=fun z=>!(z.hit u v)) hkl;have HO:=Hr (f:=Bx.ok) ok.out hkl;have Hb:=hid B;clear hcell hkl B;generalize ws.getD j bz=z at *;obtain⟨za,zb,zc,zd⟩:=z;simp only at Z;have C:=hid (fun W:World=>KG za zb zc zd u v 500 W HO u1 u2 v1 v2 (by omega) (by omega));cases hz:NL za zb zc zd u v 500
    . have E:=hid (HS (show(!(NL za zb zc zd u v 500))=true by rw[hz]; rfl));clear HN HS HO;rw[hz] at C;go_wp2_with fail
      go_region_held3 (fun w'=>(w'.cell? ⟨w.heap.size,4,none⟩=some (.slice (some ⟨bb,off,none⟩) n c))/\(w'.cell? ⟨bb,off+j*4,none⟩=some (.int .i64 za)/\w'.cell? ⟨bb,off+j*4+1,none⟩=some (.int .i64 zb)/\w'.cell? ⟨bb,off+j*4+2,none⟩=some (.int .i64 zc)/\w'.cell? ⟨bb,off+j*4+3,none⟩=some (.int .i64 zd))/\(w'.cell? ⟨w.heap.size+1,0,none⟩=some (.int .i64 u)/\w'.cell? ⟨w.heap.size+1,1,none⟩=some (.int .i64 v)))
       (exact⟨Es (by repeat (first | with_reducible exact L | with_reducible refine CellsAt.far ?_ (by omega) _ _ | with_reducible refine CellsAt.alloc ?_ _ | with_reducible refine CellsAt.drew ?_)),BX (by repeat (first | with_reducible exact Z | with_reducible refine BoxIn.far ?_ (by omega) _ _ | with_reducible refine BoxIn.alloc ?_ _ | with_reducible refine BoxIn.drew ?_)),Ee (by repeat (first | with_reducible exact P | with_reducible refine PCell.far ?_ (by omega) _ _ | with_reducible refine PCell.alloc ?_ _ | with_reducible refine PCell.drew ?_))⟩)
       ((go_at_call 75; (with_reducible refine(C.out _).mono ?_); rintro e wn ⟨rfl,Bn⟩; have L:=CellsAt.step (by first | with_reducible exact L | with_reducible exact L.drew) Bn; have P:=PCell.step (by first | with_reducible exact P | with_reducible exact P.drew) Bn; have Z:=BoxIn.step (by first | with_reducible exact Z | with_reducible exact Z.drew) Bn; have Hb:=hid (Ab (by first | with_reducible exact Hb.out | with_reducible exact AE Hb.out) Bn); clear Bn))
      all_goals
       go_wp2
       go_roundw
       case rel=>exact⟨j+1,by omega,by go_num,E.out,L,P,Hb.out⟩
       case measure=>simp[intOf]; omega
    . have E:=hid (HN (show(!(NL za zb zc zd u v 500))=false by rw[hz]; rfl));clear HN HS HO;rw[hz] at C;go_wp2_with fail
      go_region_held3 (fun w'=>(w'.cell? ⟨w.heap.size,4,none⟩=some (.slice (some ⟨bb,off,none⟩) n c))/\(w'.cell? ⟨bb,off+j*4,none⟩=some (.int .i64 za)/\w'.cell? ⟨bb,off+j*4+1,none⟩=some (.int .i64 zb)/\w'.cell? ⟨bb,off+j*4+2,none⟩=some (.int .i64 zc)/\w'.cell? ⟨bb,off+j*4+3,none⟩=some (.int .i64 zd))/\(w'.cell? ⟨w.heap.size+1,0,none⟩=some (.int .i64 u)/\w'.cell? ⟨w.heap.size+1,1,none⟩=some (.int .i64 v)))
       (exact⟨Es (by repeat (first | with_reducible exact L | with_reducible refine CellsAt.far ?_ (by omega) _ _ | with_reducible refine CellsAt.alloc ?_ _ | with_reducible refine CellsAt.drew ?_)),BX (by repeat (first | with_reducible exact Z | with_reducible refine BoxIn.far ?_ (by omega) _ _ | with_reducible refine BoxIn.alloc ?_ _ | with_reducible refine BoxIn.drew ?_)),Ee (by repeat (first | with_reducible exact P | with_reducible refine PCell.far ?_ (by omega) _ _ | with_reducible refine PCell.alloc ?_ _ | with_reducible refine PCell.drew ?_))⟩)
       ((go_at_call 75; (with_reducible refine(C.out _).mono ?_); rintro e wn ⟨rfl,Bn⟩; have L:=CellsAt.step (by first | with_reducible exact L | with_reducible exact L.drew) Bn; have P:=PCell.step (by first | with_reducible exact P | with_reducible exact P.drew) Bn; have Z:=BoxIn.step (by first | with_reducible exact Z | with_reducible exact Z.drew) Bn; have Hb:=hid (Ab (by first | with_reducible exact Hb.out | with_reducible exact AE Hb.out) Bn); clear Bn))
      all_goals
       go_wp2;go_ret;exact⟨Aq (by unfold Cw; rw[E.out]),Hb.out⟩
  . have E:=hid (Ho (f:=fun z=>!(z.hit u v)) (by have:=hl.out; omega) ha.out);have B:=hid B;go_wp2;go_ret;exact⟨Aq (by unfold Cw; rw[E.out]),B.out⟩
end Go.Proofs.YtaemcekcancpdaaGreatDoor
namespace Go.Proofs.YtaemcekcancpdaaGreatDoor
namespace M
structure St where
 k:Int
 ax:Int
 ay:Int
 fx:Int
 fy:Int
 u:Int
 g:Int
 d:Bool
 o:Bool
def E6(fx fy u p:Int):Int:=if p=1 then Kw (fx+mu (BL u) 200) (fy+mu (BM u) 200) 2000 else if p=2 then mu fx 700 else mu fx 950
def E7(fx fy u p:Int):Int:=if p=1 then Kx (fx+mu (BL u) 200) (fy+mu (BM u) 200) 2000 else if p=2 then mu fy 700 else mu fy 950
def IZ(ok:Bool)(a f:Int):Int:=if ok then a+f else a
def MX(ok:Bool)(f:Int):Int:=if ok then f else -f.tdiv 2
def Gp(ws:List Bx)(s:St):St :=
 let p:=Cw ws (s.ax+s.fx) s.ay
 let x:=IZ p s.ax s.fx
 let q:=Cw ws x (s.ay+s.fy)
 ⟨s.k,x,IZ q s.ay s.fy,MX p s.fx,MX q s.fy,s.u,s.g,s.d,s.o⟩
def QW(gs:List Bx)(g x y:Int):Bool:=decide (g<gs.length)&&Du (gs.getD g.toNat bz).a (gs.getD g.toNat bz).b (gs.getD g.toNat bz).c (gs.getD g.toNat bz).d x y
def EY(gs:List Bx)(g x y:Int):Int:=if QW gs g x y then g+1 else g
def Sw(ws:List Bx)(s:St)(t p:Int):St:=Gp ws ⟨s.k,s.ax,s.ay,E6 s.fx s.fy ((s.u+t) % 16) p,E7 s.fx s.fy ((s.u+t) % 16) p,(s.u+t) % 16,s.g,s.d,s.o⟩
def Hg(ws gs:List Bx)(p q r z:Int)(s:St)(t pw:Int):St :=
 let a:=Sw ws s t pw
 if Aw a.ax a.ay then ⟨a.k,a.ax,a.ay,a.fx,a.fy,a.u,EY gs a.g a.ax a.ay,decide (EY gs a.g a.ax a.ay=gs.length)&&Du p q r z a.ax a.ay,a.o⟩
 else ⟨s.k,s.ax,s.ay,s.fx,s.fy,s.u,s.g,s.d,true⟩
def stS(ws gs:List Bx)(p q r z:Int)(s:St)(x:In):St :=
 if s.d||s.o then s
 else if x.z then ⟨s.k+1,s.ax,s.ay,s.fx,s.fy,s.u,s.g,s.d,s.o⟩
 else Hg ws gs p q r z ⟨s.k+1,s.ax,s.ay,s.fx,s.fy,s.u,s.g,s.d,s.o⟩ x.s x.p
structure StB(m:Nat)(s:St):Prop where
 a:(-1000000<=s.ax/\s.ax<=1000000)/\(-1000000<=s.ay/\s.ay<=1000000)
 f:(-2000<=s.fx/\s.fx<=2000)/\(-2000<=s.fy/\s.fy<=2000)
 u:0<=s.u/\s.u<=15
 g:0<=s.g/\s.g<=m
 k:0<=s.k/\s.k<=1000000
theorem DN{a c:Int}(h1:-2000<=a)(h2:a<=2000)(c0:0<=c)(c1:c<=1000):-2000<=mu a c/\mu a c<=2000:=by
 unfold mu;have p1:a*c<=2000*c:=Int.mul_le_mul_of_nonneg_right h2 c0;have p2:-2000*c<=a*c:=Int.mul_le_mul_of_nonneg_right h1 c0;rcases Int.le_total 0 (a*c) with h | h
 . rw[Int.tdiv_eq_ediv_of_nonneg h];omega
 . have e:(a*c).tdiv 1000=-((-(a*c)).tdiv 1000):=by rw[Int.neg_tdiv,Int.neg_neg]
   rw[e,Int.tdiv_eq_ediv_of_nonneg (by omega)];omega
theorem Gq{u:Int}(h0:0<=u)(h1:u<=15):(-1000<=BL u/\BL u<=1000)/\(-1000<=BM u/\BM u<=1000):=by
 have h:u=0\/u=1\/u=2\/u=3\/u=4\/u=5\/u=6\/u=7\/u=8\/u=9\/u=10\/u=11\/u=12\/u=13\/u=14\/u=15:=by omega
 rcases h with rfl | rfl | rfl | rfl | rfl | rfl | rfl | rfl | rfl | rfl | rfl | rfl | rfl | rfl | rfl | rfl<;>decide
theorem De{u:Int}(h0:0<=u)(h1:u<=15):(-200<=mu (BL u) 200/\mu (BL u) 200<=200)/\(-200<=mu (BM u) 200/\mu (BM u) 200<=200):=by
 have h:u=0\/u=1\/u=2\/u=3\/u=4\/u=5\/u=6\/u=7\/u=8\/u=9\/u=10\/u=11\/u=12\/u=13\/u=14\/u=15:=by omega
 rcases h with rfl | rfl | rfl | rfl | rfl | rfl | rfl | rfl | rfl | rfl | rfl | rfl | rfl | rfl | rfl | rfl<;>decide
theorem KH{x y:Int}(h:Aw x y=true):(-2000<=Kw x y 2000/\Kw x y 2000<=2000)/\(-2000<=Kx x y 2000/\Kx x y 2000<=2000):=by
 have hc:LJ x y 2000=true:=My h (by decide);obtain⟨X,Y,e1,e2,_,hv,_,hl,_⟩:=ND hc;rw[e1,e2];obtain⟨s,es,_,m1,m2,_⟩:=NF hv;rw[Fz hv] at es;omega
theorem DO{fx fy u p:Int}(x1:-2000<=fx)(x2:fx<=2000)(y1:-2000<=fy)(y2:fy<=2000)(u0:0<=u)(u1:u<=15):(-2000<=E6 fx fy u p/\E6 fx fy u p<=2000)/\(-2000<=E7 fx fy u p/\E7 fx fy u p<=2000):=by
 have q:=De u0 u1;unfold E6 E7;by_cases h1:p=1
 . rw[if_pos h1,if_pos h1];exact KH (CH ⟨⟨by omega,by omega⟩,by omega,by omega⟩)
 . rw[if_neg h1,if_neg h1];by_cases h2:p=2
   . rw[if_pos h2,if_pos h2];exact⟨DN x1 x2 (by omega) (by omega),DN y1 y2 (by omega) (by omega)⟩
   . rw[if_neg h2,if_neg h2];exact⟨DN x1 x2 (by omega) (by omega),DN y1 y2 (by omega) (by omega)⟩
theorem Df{f:Int}(h1:-2000<=f)(h2:f<=2000):-2000<=-f.tdiv 2/\-f.tdiv 2<=2000:=by
 rcases Int.le_total 0 f with h | h
 . rw[Int.tdiv_eq_ediv_of_nonneg h];omega
 . have e:f.tdiv 2=-((-f).tdiv 2):=by rw[Int.neg_tdiv,Int.neg_neg]
   rw[e,Int.tdiv_eq_ediv_of_nonneg (by omega)];omega
theorem Jg{b:Bool}{f:Int}(h1:-2000<=f)(h2:f<=2000):-2000<=MX b f/\MX b f<=2000:=by
 cases b
 . exact Df h1 h2
 . exact⟨h1,h2⟩
theorem Rr{m:Nat}{ws gs:List Bx}{p q r z:Int}{s:St}{t pw:Int}(h:StB m s)(hm:gs.length=m)(_t1:-1<=t)(_t2:t<=1):StB m (Hg ws gs p q r z s t pw):=by
 obtain⟨⟨⟨a1,a2⟩,a3,a4⟩,⟨⟨f1,f2⟩,f3,f4⟩,⟨u0,u1⟩,⟨g0,g1⟩,hk⟩:=h;unfold Hg;simp only;cases hv:Aw (Sw ws s t pw).ax (Sw ws s t pw).ay
 . exact⟨⟨⟨a1,a2⟩,a3,a4⟩,⟨⟨f1,f2⟩,f3,f4⟩,⟨u0,u1⟩,⟨g0,g1⟩,hk⟩
 . have v:=(AZ _ _).1 hv;have uu:0<=(s.u+t) % 16/\(s.u+t) % 16<=15:=by omega
   have ff:=DO (p:=pw) f1 f2 f3 f4 uu.1 uu.2;refine⟨v,⟨Jg ff.1.1 ff.1.2,Jg ff.2.1 ff.2.2⟩,uu,?_,hk⟩
   show 0<=EY gs s.g _ _/\EY gs s.g _ _<=m
   unfold EY;split
   . rename_i hg;simp only[QW,Bool.and_eq_true,decide_eq_true_eq] at hg;omega
   . omega
theorem MY{m:Nat}{ws gs:List Bx}{p q r z:Int}{s:St}{x:In}(h:StB m s)(hk:s.k<1000000)(hm:gs.length=m)(t1:-1<=x.s)(t2:x.s<=1):StB m (stS ws gs p q r z s x)/\(stS ws gs p q r z s x).k<=s.k+1:=by
 have h1:StB m ⟨s.k+1,s.ax,s.ay,s.fx,s.fy,s.u,s.g,s.d,s.o⟩:=⟨h.a,h.f,h.u,h.g,by have:=h.k; show 0<=s.k+1/\s.k+1<=1000000; omega⟩;unfold stS;cases hd:(s.d||s.o)
 . cases hz:x.z
   . refine⟨Rr h1 hm t1 t2,?_⟩;simp only[Bool.false_eq_true,if_false];unfold Hg;simp only;split
     . exact Int.le_refl _
     . exact Int.le_refl _
   . exact⟨h1,Int.le_refl _⟩
 . exact⟨h,by simp only[if_true]; omega⟩
end M
end Go.Proofs.YtaemcekcancpdaaGreatDoor
