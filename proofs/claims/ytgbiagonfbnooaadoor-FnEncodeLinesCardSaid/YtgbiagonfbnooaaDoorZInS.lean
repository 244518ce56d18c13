import Derived.Test.YtgbiagonfbnooaaDoorZLevS
set_option linter.all false
set_option maxRecDepth 100000
set_option maxHeartbeats 8000000
open Go.Lib
namespace Go.Proofs.YtgbiagonfbnooaaDoor
namespace M
structure In where
 s:Int
 p:Int
 z:Bool
def iz:In:=⟨0,0,false⟩
def A5(s p:Int)(z:Bool):Bool:=Ax s (-1) 1&&Ax p 0 2&&(!z||(decide (s=0)&&decide (p=0)))
theorem KX{s p:Int}{z:Bool}(h:Ax s (-1) 1=false):A5 s p z=false:=by simp[A5,h]
theorem KY{s p:Int}{z:Bool}(h:Ax p 0 2=false):A5 s p z=false:=by simp[A5,h]
theorem Cy{s p:Int}{z:Bool}(h:A5 s p z=true):(-1<=s/\s<=1)/\(0<=p/\p<=2)/\(z=true->s=0/\p=0):=by
 simp only[A5,Ax,Bool.and_eq_true,decide_eq_true_eq,Bool.or_eq_true,Bool.not_eq_true'] at h;refine⟨h.1.1,h.1.2,fun e=>?_⟩;rcases h.2 with g | g
 . rw[e] at g; cases g
 . exact g
def HF(s p:Int)(z:Bool):Int:=if z then 9 else 3*p+s+1
def LB(s p:Int)(z:Bool):Int:=if A5 s p z then HF s p z else -1
theorem LC{s p:Int}{z:Bool}(h:A5 s p z=false):LB s p z=-1:=by simp[LB,h]
theorem Ir{s p:Int}{z:Bool}(h:A5 s p z=true):LB s p z=HF s p z:=by simp[LB,h]
def Hk(n:Int):Int:=if Ax n 0 8 then n % 3-1 else 0
def Hl(n:Int):Int:=if Ax n 0 8 then n / 3 else 0
def JF(n:Int):Bool:=decide (n=9)
def Dy(b s0 s p:Int)(z:Bool):Bool:=A5 s p z&&!(z&&JZ b 2)&&!(decide (p=2)&&JZ b 1)&&Ax (s-s0) (-1) 1
theorem K0{b s0 s p:Int}{z:Bool}(h:A5 s p z=false):Dy b s0 s p z=false:=by simp[Dy,h]
theorem La{b s0 s p:Int}{z:Bool}(h:z=true)(g:JZ b 2=true):Dy b s0 s p z=false:=by simp[Dy,h,g]
theorem Lb{b s0 s p:Int}{z:Bool}(h:p=2)(g:JZ b 1=true):Dy b s0 s p z=false:=by simp[Dy,h,g]
theorem Ge{b s0 s p:Int}{z:Bool}(h:A5 s p z=true)(g:(z&&JZ b 2)=false)(k:(decide (p=2)&&JZ b 1)=false):Dy b s0 s p z=Ax (s-s0) (-1) 1:=by simp[Dy,h,g,k]
end M
end Go.Proofs.YtgbiagonfbnooaaDoor
namespace Go.Proofs.YtgbiagonfbnooaaDoor
open Go.RowKit
open M
abbrev Bw(s p:Int)(z:Bool):Value:=.agg #[.int .i64 s,.int .i64 p,.bool z]
abbrev AD(s p:Int)(z:Bool):List Value:=[.int .i64 s,.int .i64 p,.bool z]
theorem JU{s:Int}(h:Ax s (-1) 1=true):s=-1\/s=0\/s=1:=by
 have:-1<=s/\s<=1:=by simpa[Ax] using h
 omega
theorem JV{p:Int}(h:Ax p 0 2=true):p=0\/p=1\/p=2:=by
 have:0<=p/\p<=2:=by simpa[Ax] using h
 omega
theorem LD{n:Int}(h:Ax n 0 9=true):n=0\/n=1\/n=2\/n=3\/n=4\/n=5\/n=6\/n=7\/n=8\/n=9:=by
 have:0<=n/\n<=9:=by simpa[Ax] using h
 omega
theorem Dz(s p:Int)(z:Bool)(w:World):Calls Tryd.prog 77 #[Bw s p z] w fun e w'=>e=.returned (.bool (A5 s p z))/\Below w.heap.size w w':=by
 cases h1:Ax s (-1) 1
 . have E:=hid (KX (p:=p) (z:=z) h1);have hA:=hid h1;clear h1;go_enter Tryd.func77,Tryd.ntmps77;go_wp2_with fail;refine(Ak _ _ _ _ _ hA.out).mono ?_;rintro e w' ⟨rfl,rfl⟩;go_wp2;go_ret;exact⟨Am (by rw[E.out]),Ab (Ac w) _⟩
 cases h2:Ax p 0 2
 . have E:=hid (KY (s:=s) (z:=z) h2);have hA:=hid h1;have hB:=hid h2;clear h1 h2;go_enter Tryd.func77,Tryd.ntmps77;go_wp2_with fail;refine(Ak _ _ _ _ _ hA.out).mono ?_;rintro e w' ⟨rfl,rfl⟩;go_wp2_with fail;refine(Ak _ _ _ _ _ hB.out).mono ?_;rintro e w' ⟨rfl,rfl⟩;go_wp2;go_ret;exact⟨Am (by rw[E.out]),Ab (Ac w) _⟩
 rcases JU h1 with rfl | rfl | rfl<;>rcases JV h2 with rfl | rfl | rfl<;>cases z
 all_goals
  clear h1 h2;go_enter Tryd.func77,Tryd.ntmps77;go_wp2_with fail;refine(Ak _ _ _ true _ (by decide)).mono ?_;rintro e w' ⟨rfl,rfl⟩;go_wp2_with fail;refine(Ak _ _ _ true _ (by decide)).mono ?_;rintro e w' ⟨rfl,rfl⟩;go_wp2;go_ret;exact⟨Am (by decide),Ab (Ac w) _⟩
theorem Et(s p:Int)(z:Bool)(w:World)(h:A5 s p z=true):Calls Tryd.prog 78 #[Bw s p z] w fun e w'=>e=.returned (.int .i64 (HF s p z))/\Below w.heap.size w w':=by
 obtain⟨⟨s1,s2⟩,⟨p1,p2⟩,_⟩:=Cy h;clear h;cases z
 . go_enter Tryd.func78,Tryd.ntmps78;go_wp2;go_ret;exact⟨rfl,Ab (Ac w) _⟩
 . go_enter Tryd.func78,Tryd.ntmps78;go_wp2;go_ret;exact⟨rfl,Ab (Ac w) _⟩
theorem GB(n:Int)(w:World):Calls Tryd.prog 81 #[.int .i64 n] w fun e w'=>e=.returned (.tuple #[Bw (Hk n) (Hl n) (JF n),.bool (Ax n 0 9)])/\Below w.heap.size w w':=by
 cases h:Ax n 0 9
 . have hA:=hid h;have h8:Ax n 0 8=false:=by
    have:¬ (0<=n/\n<=9):=by simpa[Ax] using h
    exact Cr (by omega)
   have h9:¬ n=9:=by
    have:¬ (0<=n/\n<=9):=by simpa[Ax] using h
    omega
   have e0:Hk n=0:=by simp[Hk,h8]
   have e1:Hl n=0:=by simp[Hl,h8]
   have e2:JF n=false:=by simp[JF,h9]
   rw[e0,e1,e2];clear h h8 h9 e0 e1 e2;go_enter Tryd.func81,Tryd.ntmps81;go_wp2_with fail;refine(Ak _ _ _ _ _ hA.out).mono ?_;rintro e w' ⟨rfl,rfl⟩;go_wp2;exact bodyPost_ret (v:=.tuple #[Bw 0 0 false,.bool false]) (by simp[results,Tryd.results81,go_sem]) rfl ⟨rfl,(by repeat (first | exact Ac _ | refine Ab ?_ _ | refine Ao ?_ _ _ _ (by omega)))⟩
 . rcases LD h with rfl | rfl | rfl | rfl | rfl | rfl | rfl | rfl | rfl | rfl
   all_goals
    clear h;go_enter Tryd.func81,Tryd.ntmps81;go_wp2_with fail;refine(Ak _ _ _ true _ (by decide)).mono ?_;rintro e w' ⟨rfl,rfl⟩;go_wp2;exact bodyPost_ret (by simp[results,Tryd.results81,go_sem]; decide) rfl ⟨rfl,(by repeat (first | exact Ac _ | refine Ab ?_ _ | refine Ao ?_ _ _ _ (by omega)))⟩
open Go.RowKit
open M
theorem Bz(i t x y:Int)(A:Option Addr)(n c:Nat)(G:Option Addr)(m kk:Nat)(fp fq fs fz b:Int)(s0 p0:Int)(z0:Bool)(s p:Int)(z:Bool)(w:World)(b0:0<=b)(b3:b<=3)(s1:-1<=s0)(s2:s0<=1) :
 Calls Tryd.prog 116 #[Eu i t x y A n c G m kk fp fq fs fz b,Bw s0 p0 z0,Bw s p z] w fun e w'=>e=.returned (.bool (Dy b s0 s p z))/\Below w.heap.size w w':=by
 have V:=fun W=>Dz s p z W;have D2:=fun W=>Ev i t x y A n c G m kk fp fq fs fz b 2 W b0 b3 (Or.inr rfl);have D1:=fun W=>Ev i t x y A n c G m kk fp fq fs fz b 1 W b0 b3 (Or.inl rfl);cases h:A5 s p z
 . rw[h] at V;have E:=hid (K0 (b:=b) (s0:=s0) h);have V:=hid V;clear D1 D2 h;go_enter Tryd.func116,Tryd.ntmps116;go_wp2_with fail;refine(V.out _).mono ?_;rintro e w1 ⟨rfl,B⟩;have P:CellsAt w1 w.heap.size (AR i t x y A n c G m kk fp fq fs fz b):=(((CellsAt.new w _ _ _ rfl).alloc _).alloc _).step B;have Q:CellsAt w1 (w.heap.size+1) (AD s0 p0 z0):=((CellsAt.new _ _ _ _ (by simp)).alloc _).step B;have X:CellsAt w1 (w.heap.size+1+1) (AD s p z):=(CellsAt.new _ _ _ _ (by simp)).step B;have H:=hid (Aa (Ab (Ab (Ab (Ac w) _) _) _) B);clear B;obtain⟨Pc0,Pc1,Pc2,Pc3,Pc4,Pc5,Pc6,Pc7,Pc8,Pc9,Pc10⟩:=AV P;have Pl:=P.lt
   obtain⟨Qc0,Qc1,Qc2⟩:=Bs Q;have Ql:=Q.lt;obtain⟨Xc0,Xc1,Xc2⟩:=Bs X;have Xl:=X.lt;go_wp2;go_ret;exact⟨Am (by rw[E.out]),H.out⟩
 rw[h] at V;obtain⟨⟨u1,u2⟩,⟨p1,p2⟩,hz⟩:=Cy h;have V:=hid V;have C:=fun W=>Ak (s-s0) (-1) 1 _ W rfl;cases z
 . by_cases hp:p=2
   . subst hp;cases hb:JZ b 1
     . have E:=hid (Ge (b:=b) (s0:=s0) h (by simp) (by simp[hb]));rw[hb] at D1;have D1:=hid D1;have C:=hid C;clear D2 hb h hz;go_enter Tryd.func116,Tryd.ntmps116;go_wp2_with fail;refine(V.out _).mono ?_;rintro e w1 ⟨rfl,B⟩;have P:CellsAt w1 w.heap.size (AR i t x y A n c G m kk fp fq fs fz b):=(((CellsAt.new w _ _ _ rfl).alloc _).alloc _).step B;have Q:CellsAt w1 (w.heap.size+1) (AD s0 p0 z0):=((CellsAt.new _ _ _ _ (by simp)).alloc _).step B;have X:CellsAt w1 (w.heap.size+1+1) (AD s 2 false):=(CellsAt.new _ _ _ _ (by simp)).step B;have H:=hid (Aa (Ab (Ab (Ab (Ac w) _) _) _) B);clear B
       obtain⟨Pc0,Pc1,Pc2,Pc3,Pc4,Pc5,Pc6,Pc7,Pc8,Pc9,Pc10⟩:=AV P;have Pl:=P.lt;obtain⟨Qc0,Qc1,Qc2⟩:=Bs Q;have Ql:=Q.lt;obtain⟨Xc0,Xc1,Xc2⟩:=Bs X;have Xl:=X.lt;go_wp2_with fail;refine(D1.out _).mono ?_;rintro e w2 ⟨rfl,B⟩;replace P:=P.step B;replace Q:=Q.step B;replace X:=X.step B;replace H:=hid (Aa H.out B);clear Pc0 Pc1 Pc2 Pc3 Pc4 Pc5 Pc6 Pc7 Pc8 Pc9 Pc10 Qc0 Qc1 Qc2 Xc0 Xc1 Xc2 Pl Ql Xl;clear B;obtain⟨Pc0,Pc1,Pc2,Pc3,Pc4,Pc5,Pc6,Pc7,Pc8,Pc9,Pc10⟩:=AV P;have Pl:=P.lt;obtain⟨Qc0,Qc1,Qc2⟩:=Bs Q;have Ql:=Q.lt;obtain⟨Xc0,Xc1,Xc2⟩:=Bs X;have Xl:=X.lt;go_wp2_with fail;refine(C.out _).mono ?_
       rintro e w' ⟨rfl,rfl⟩;go_wp2;go_ret;exact⟨Am (by rw[E.out]),H.out⟩
     . have E:=hid (Lb (s0:=s0) (s:=s) (z:=false) rfl hb);rw[hb] at D1;have D1:=hid D1;clear D2 hb h hz C;go_enter Tryd.func116,Tryd.ntmps116;go_wp2_with fail;refine(V.out _).mono ?_;rintro e w1 ⟨rfl,B⟩;have P:CellsAt w1 w.heap.size (AR i t x y A n c G m kk fp fq fs fz b):=(((CellsAt.new w _ _ _ rfl).alloc _).alloc _).step B;have Q:CellsAt w1 (w.heap.size+1) (AD s0 p0 z0):=((CellsAt.new _ _ _ _ (by simp)).alloc _).step B;have X:CellsAt w1 (w.heap.size+1+1) (AD s 2 false):=(CellsAt.new _ _ _ _ (by simp)).step B;have H:=hid (Aa (Ab (Ab (Ab (Ac w) _) _) _) B);clear B
       obtain⟨Pc0,Pc1,Pc2,Pc3,Pc4,Pc5,Pc6,Pc7,Pc8,Pc9,Pc10⟩:=AV P;have Pl:=P.lt;obtain⟨Qc0,Qc1,Qc2⟩:=Bs Q;have Ql:=Q.lt;obtain⟨Xc0,Xc1,Xc2⟩:=Bs X;have Xl:=X.lt;go_wp2_with fail;refine(D1.out _).mono ?_;rintro e w2 ⟨rfl,B⟩;replace P:=P.step B;replace Q:=Q.step B;replace X:=X.step B;replace H:=hid (Aa H.out B);clear Pc0 Pc1 Pc2 Pc3 Pc4 Pc5 Pc6 Pc7 Pc8 Pc9 Pc10 Qc0 Qc1 Qc2 Xc0 Xc1 Xc2 Pl Ql Xl;clear B;obtain⟨Pc0,Pc1,Pc2,Pc3,Pc4,Pc5,Pc6,Pc7,Pc8,Pc9,Pc10⟩:=AV P;have Pl:=P.lt;obtain⟨Qc0,Qc1,Qc2⟩:=Bs Q;have Ql:=Q.lt;obtain⟨Xc0,Xc1,Xc2⟩:=Bs X;have Xl:=X.lt;go_wp2;go_ret;exact⟨Am (by rw[E.out]),H.out⟩
   . have E:=hid (Ge (b:=b) (s0:=s0) h (by simp) (by simp[hp]));have C:=hid C;have pd:(p==2)=false:=beq_eq_false_iff_ne.2 hp;clear D1 D2 h hz hp;go_enter Tryd.func116,Tryd.ntmps116;go_wp2_with fail;refine(V.out _).mono ?_;rintro e w1 ⟨rfl,B⟩;have P:CellsAt w1 w.heap.size (AR i t x y A n c G m kk fp fq fs fz b):=(((CellsAt.new w _ _ _ rfl).alloc _).alloc _).step B;have Q:CellsAt w1 (w.heap.size+1) (AD s0 p0 z0):=((CellsAt.new _ _ _ _ (by simp)).alloc _).step B;have X:CellsAt w1 (w.heap.size+1+1) (AD s p false):=(CellsAt.new _ _ _ _ (by simp)).step B;have H:=hid (Aa (Ab (Ab (Ab (Ac w) _) _) _) B);clear B
     obtain⟨Pc0,Pc1,Pc2,Pc3,Pc4,Pc5,Pc6,Pc7,Pc8,Pc9,Pc10⟩:=AV P;have Pl:=P.lt;obtain⟨Qc0,Qc1,Qc2⟩:=Bs Q;have Ql:=Q.lt;obtain⟨Xc0,Xc1,Xc2⟩:=Bs X;have Xl:=X.lt;go_wp2_with fail;refine(C.out _).mono ?_;rintro e w' ⟨rfl,rfl⟩;go_wp2;go_ret;exact⟨Am (by rw[E.out]),H.out⟩
 . obtain⟨rfl,rfl⟩:=hz rfl;cases hb:JZ b 2
   . have E:=hid (show Dy b s0 0 0 true=Ax (-s0) (-1) 1 by rw[Ge (b:=b) (s0:=s0) h (by simp[hb]) (by simp),Int.zero_sub]);rw[hb] at D2;have D2:=hid D2;have C:=hid (fun W=>Ak (-s0) (-1) 1 _ W rfl);clear D1 hb h hz;go_enter Tryd.func116,Tryd.ntmps116;go_wp2_with fail;refine(V.out _).mono ?_;rintro e w1 ⟨rfl,B⟩;have P:CellsAt w1 w.heap.size (AR i t x y A n c G m kk fp fq fs fz b):=(((CellsAt.new w _ _ _ rfl).alloc _).alloc _).step B;have Q:CellsAt w1 (w.heap.size+1) (AD s0 p0 z0):=((CellsAt.new _ _ _ _ (by simp)).alloc _).step B;have X:CellsAt w1 (w.heap.size+1+1) (AD 0 0 true):=(CellsAt.new _ _ _ _ (by simp)).step B
     have H:=hid (Aa (Ab (Ab (Ab (Ac w) _) _) _) B);clear B;obtain⟨Pc0,Pc1,Pc2,Pc3,Pc4,Pc5,Pc6,Pc7,Pc8,Pc9,Pc10⟩:=AV P;have Pl:=P.lt;obtain⟨Qc0,Qc1,Qc2⟩:=Bs Q;have Ql:=Q.lt;obtain⟨Xc0,Xc1,Xc2⟩:=Bs X;have Xl:=X.lt;go_wp2_with fail;refine(D2.out _).mono ?_;rintro e w2 ⟨rfl,B⟩;replace P:=P.step B;replace Q:=Q.step B;replace X:=X.step B;replace H:=hid (Aa H.out B);clear Pc0 Pc1 Pc2 Pc3 Pc4 Pc5 Pc6 Pc7 Pc8 Pc9 Pc10 Qc0 Qc1 Qc2 Xc0 Xc1 Xc2 Pl Ql Xl;clear B;obtain⟨Pc0,Pc1,Pc2,Pc3,Pc4,Pc5,Pc6,Pc7,Pc8,Pc9,Pc10⟩:=AV P;have Pl:=P.lt;obtain⟨Qc0,Qc1,Qc2⟩:=Bs Q;have Ql:=Q.lt
     obtain⟨Xc0,Xc1,Xc2⟩:=Bs X;have Xl:=X.lt;go_wp2_with fail;refine(C.out _).mono ?_;rintro e w' ⟨rfl,rfl⟩;go_wp2;go_ret;exact⟨Am (by rw[E.out]),H.out⟩
   . have E:=hid (La (s0:=s0) (s:=0) (p:=0) (z:=true) rfl hb);rw[hb] at D2;have D2:=hid D2;clear D1 hb h hz C;go_enter Tryd.func116,Tryd.ntmps116;go_wp2_with fail;refine(V.out _).mono ?_;rintro e w1 ⟨rfl,B⟩;have P:CellsAt w1 w.heap.size (AR i t x y A n c G m kk fp fq fs fz b):=(((CellsAt.new w _ _ _ rfl).alloc _).alloc _).step B;have Q:CellsAt w1 (w.heap.size+1) (AD s0 p0 z0):=((CellsAt.new _ _ _ _ (by simp)).alloc _).step B;have X:CellsAt w1 (w.heap.size+1+1) (AD 0 0 true):=(CellsAt.new _ _ _ _ (by simp)).step B;have H:=hid (Aa (Ab (Ab (Ab (Ac w) _) _) _) B);clear B
     obtain⟨Pc0,Pc1,Pc2,Pc3,Pc4,Pc5,Pc6,Pc7,Pc8,Pc9,Pc10⟩:=AV P;have Pl:=P.lt;obtain⟨Qc0,Qc1,Qc2⟩:=Bs Q;have Ql:=Q.lt;obtain⟨Xc0,Xc1,Xc2⟩:=Bs X;have Xl:=X.lt;go_wp2_with fail;refine(D2.out _).mono ?_;rintro e w2 ⟨rfl,B⟩;replace P:=P.step B;replace Q:=Q.step B;replace X:=X.step B;replace H:=hid (Aa H.out B);clear Pc0 Pc1 Pc2 Pc3 Pc4 Pc5 Pc6 Pc7 Pc8 Pc9 Pc10 Qc0 Qc1 Qc2 Xc0 Xc1 Xc2 Pl Ql Xl;clear B;obtain⟨Pc0,Pc1,Pc2,Pc3,Pc4,Pc5,Pc6,Pc7,Pc8,Pc9,Pc10⟩:=AV P;have Pl:=P.lt;obtain⟨Qc0,Qc1,Qc2⟩:=Bs Q;have Ql:=Q.lt;obtain⟨Xc0,Xc1,Xc2⟩:=Bs X;have Xl:=X.lt;go_wp2;go_ret;exact⟨Am (by rw[E.out]),H.out⟩
open Go.RowKit
open M
end Go.Proofs.YtgbiagonfbnooaaDoor
