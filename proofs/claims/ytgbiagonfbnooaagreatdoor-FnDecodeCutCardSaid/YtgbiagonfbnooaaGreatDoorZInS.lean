import Derived.Test.YtgbiagonfbnooaaGreatDoorZLevS
set_option linter.all false
set_option maxRecDepth 100000
set_option maxHeartbeats 8000000
open Go.Lib
namespace Go.Proofs.YtgbiagonfbnooaaGreatDoor
namespace M
structure In where
 s:Int
 p:Int
 z:Bool
def iz:In:=⟨0,0,false⟩
def Bm(s p:Int)(z:Bool):Bool:=Ax s (-1) 1&&Ax p 0 2&&(!z||(decide (s=0)&&decide (p=0)))
theorem MO{s p:Int}{z:Bool}(h:Ax s (-1) 1=false):Bm s p z=false:=by simp[Bm,h]
theorem MP{s p:Int}{z:Bool}(h:Ax p 0 2=false):Bm s p z=false:=by simp[Bm,h]
theorem Dc{s p:Int}{z:Bool}(h:Bm s p z=true):(-1<=s/\s<=1)/\(0<=p/\p<=2)/\(z=true->s=0/\p=0):=by
 simp only[Bm,Ax,Bool.and_eq_true,decide_eq_true_eq,Bool.or_eq_true,Bool.not_eq_true'] at h;refine⟨h.1.1,h.1.2,fun e=>?_⟩;rcases h.2 with g | g
 . rw[e] at g; cases g
 . exact g
def Jl(s p:Int)(z:Bool):Int:=if z then 9 else 3*p+s+1
def Nv(s p:Int)(z:Bool):Int:=if Bm s p z then Jl s p z else -1
theorem Nw{s p:Int}{z:Bool}(h:Bm s p z=false):Nv s p z=-1:=by simp[Nv,h]
theorem JM{s p:Int}{z:Bool}(h:Bm s p z=true):Nv s p z=Jl s p z:=by simp[Nv,h]
def F5(n:Int):Int:=if Ax n 0 8 then n % 3-1 else 0
def F6(n:Int):Int:=if Ax n 0 8 then n / 3 else 0
def G4(n:Int):Bool:=decide (n=9)
def Er(b s0 s p:Int)(z:Bool):Bool:=Bm s p z&&!(z&&LC b 2)&&!(decide (p=2)&&LC b 1)&&Ax (s-s0) (-1) 1
theorem MQ{b s0 s p:Int}{z:Bool}(h:Bm s p z=false):Er b s0 s p z=false:=by simp[Er,h]
theorem MR{b s0 s p:Int}{z:Bool}(h:z=true)(g:LC b 2=true):Er b s0 s p z=false:=by simp[Er,h,g]
theorem MS{b s0 s p:Int}{z:Bool}(h:p=2)(g:LC b 1=true):Er b s0 s p z=false:=by simp[Er,h,g]
theorem G8{b s0 s p:Int}{z:Bool}(h:Bm s p z=true)(g:(z&&LC b 2)=false)(k:(decide (p=2)&&LC b 1)=false):Er b s0 s p z=Ax (s-s0) (-1) 1:=by simp[Er,h,g,k]
end M
end Go.Proofs.YtgbiagonfbnooaaGreatDoor
namespace Go.Proofs.YtgbiagonfbnooaaGreatDoor
open Go.RowKit
open M
abbrev BK(s p:Int)(z:Bool):Value:=.agg #[.int .i64 s,.int .i64 p,.bool z]
abbrev AF(s p:Int)(z:Bool):List Value:=[.int .i64 s,.int .i64 p,.bool z]
theorem Ly{s:Int}(h:Ax s (-1) 1=true):s=-1\/s=0\/s=1:=by
 have:-1<=s/\s<=1:=by simpa[Ax] using h
 omega
theorem Lz{p:Int}(h:Ax p 0 2=true):p=0\/p=1\/p=2:=by
 have:0<=p/\p<=2:=by simpa[Ax] using h
 omega
theorem Mp{n:Int}(h:Ax n 0 9=true):n=0\/n=1\/n=2\/n=3\/n=4\/n=5\/n=6\/n=7\/n=8\/n=9:=by
 have:0<=n/\n<=9:=by simpa[Ax] using h
 omega
theorem Es(s p:Int)(z:Bool)(w:World):Calls Tryz.prog 67 #[BK s p z] w fun e w'=>e=.returned (.bool (Bm s p z))/\Below w.heap.size w w':=by
 cases h1:Ax s (-1) 1
 . have E:=hid (MO (p:=p) (z:=z) h1);have hA:=hid h1;clear h1;go_enter Tryz.func67,Tryz.ntmps67;go_wp2_with fail;refine(Ak _ _ _ _ _ hA.out).mono ?_;rintro e w' ⟨rfl,rfl⟩;go_wp2;go_ret;exact⟨Al (by rw[E.out]),Ab (Ac w) _⟩
 cases h2:Ax p 0 2
 . have E:=hid (MP (s:=s) (z:=z) h2);have hA:=hid h1;have hB:=hid h2;clear h1 h2;go_enter Tryz.func67,Tryz.ntmps67;go_wp2_with fail;refine(Ak _ _ _ _ _ hA.out).mono ?_;rintro e w' ⟨rfl,rfl⟩;go_wp2_with fail;refine(Ak _ _ _ _ _ hB.out).mono ?_;rintro e w' ⟨rfl,rfl⟩;go_wp2;go_ret;exact⟨Al (by rw[E.out]),Ab (Ac w) _⟩
 rcases Ly h1 with rfl | rfl | rfl<;>rcases Lz h2 with rfl | rfl | rfl<;>cases z
 all_goals
  clear h1 h2;go_enter Tryz.func67,Tryz.ntmps67;go_wp2_with fail;refine(Ak _ _ _ true _ (by decide)).mono ?_;rintro e w' ⟨rfl,rfl⟩;go_wp2_with fail;refine(Ak _ _ _ true _ (by decide)).mono ?_;rintro e w' ⟨rfl,rfl⟩;go_wp2;go_ret;exact⟨Al (by decide),Ab (Ac w) _⟩
theorem Fp(s p:Int)(z:Bool)(w:World)(h:Bm s p z=true):Calls Tryz.prog 68 #[BK s p z] w fun e w'=>e=.returned (.int .i64 (Jl s p z))/\Below w.heap.size w w':=by
 obtain⟨⟨s1,s2⟩,⟨p1,p2⟩,_⟩:=Dc h;clear h;cases z
 . go_enter Tryz.func68,Tryz.ntmps68;go_wp2;go_ret;exact⟨rfl,Ab (Ac w) _⟩
 . go_enter Tryz.func68,Tryz.ntmps68;go_wp2;go_ret;exact⟨rfl,Ab (Ac w) _⟩
theorem HJ(n:Int)(w:World):Calls Tryz.prog 88 #[.int .i64 n] w fun e w'=>e=.returned (.tuple #[BK (F5 n) (F6 n) (G4 n),.bool (Ax n 0 9)])/\Below w.heap.size w w':=by
 cases h:Ax n 0 9
 . have hA:=hid h;have h8:Ax n 0 8=false:=by
    have:¬ (0<=n/\n<=9):=by simpa[Ax] using h
    exact Cs (by omega)
   have h9:¬ n=9:=by
    have:¬ (0<=n/\n<=9):=by simpa[Ax] using h
    omega
   have e0:F5 n=0:=by simp[F5,h8]
   have e1:F6 n=0:=by simp[F6,h8]
   have e2:G4 n=false:=by simp[G4,h9]
   rw[e0,e1,e2];clear h h8 h9 e0 e1 e2;go_enter Tryz.func88,Tryz.ntmps88;go_wp2_with fail;refine(Ak _ _ _ _ _ hA.out).mono ?_;rintro e w' ⟨rfl,rfl⟩;go_wp2;exact bodyPost_ret (v:=.tuple #[BK 0 0 false,.bool false]) (by simp[results,Tryz.results88,go_sem]) rfl ⟨rfl,(by repeat (first | exact Ac _ | refine Ab ?_ _ | refine Ar ?_ _ _ _ (by omega)))⟩
 . rcases Mp h with rfl | rfl | rfl | rfl | rfl | rfl | rfl | rfl | rfl | rfl
   all_goals
    clear h;go_enter Tryz.func88,Tryz.ntmps88;go_wp2_with fail;refine(Ak _ _ _ true _ (by decide)).mono ?_;rintro e w' ⟨rfl,rfl⟩;go_wp2;exact bodyPost_ret (by simp[results,Tryz.results88,go_sem]; decide) rfl ⟨rfl,(by repeat (first | exact Ac _ | refine Ab ?_ _ | refine Ar ?_ _ _ _ (by omega)))⟩
open Go.RowKit
open M
theorem BZ(i t x y:Int)(A:Option Addr)(n c:Nat)(G:Option Addr)(m kk:Nat)(fp fq fs fz b:Int)(s0 p0:Int)(z0:Bool)(s p:Int)(z:Bool)(w:World)(b0:0<=b)(b3:b<=3)(s1:-1<=s0)(s2:s0<=1) :
 Calls Tryz.prog 106 #[Fq i t x y A n c G m kk fp fq fs fz b,BK s0 p0 z0,BK s p z] w fun e w'=>e=.returned (.bool (Er b s0 s p z))/\Below w.heap.size w w':=by
 have V:=fun W=>Es s p z W;have D2:=fun W=>Fs i t x y A n c G m kk fp fq fs fz b 2 W b0 b3 (Or.inr rfl);have D1:=fun W=>Fs i t x y A n c G m kk fp fq fs fz b 1 W b0 b3 (Or.inl rfl);cases h:Bm s p z
 . rw[h] at V;have E:=hid (MQ (b:=b) (s0:=s0) h);have V:=hid V;clear D1 D2 h;go_enter Tryz.func106,Tryz.ntmps106;go_wp2_with fail;refine(V.out _).mono ?_;rintro e w1 ⟨rfl,B⟩;have P:CellsAt w1 w.heap.size (AW i t x y A n c G m kk fp fq fs fz b):=(((CellsAt.new w _ _ _ rfl).alloc _).alloc _).step B;have Q:CellsAt w1 (w.heap.size+1) (AF s0 p0 z0):=((CellsAt.new _ _ _ _ (by simp)).alloc _).step B;have X:CellsAt w1 (w.heap.size+1+1) (AF s p z):=(CellsAt.new _ _ _ _ (by simp)).step B;have H:=hid (Aa (Ab (Ab (Ab (Ac w) _) _) _) B);clear B;obtain⟨Pc0,Pc1,Pc2,Pc3,Pc4,Pc5,Pc6,Pc7,Pc8,Pc9,Pc10⟩:=Bb P;have Pl:=P.lt
   obtain⟨Qc0,Qc1,Qc2⟩:=BL Q;have Ql:=Q.lt;obtain⟨Xc0,Xc1,Xc2⟩:=BL X;have Xl:=X.lt;go_wp2;go_ret;exact⟨Al (by rw[E.out]),H.out⟩
 rw[h] at V;obtain⟨⟨u1,u2⟩,⟨p1,p2⟩,hz⟩:=Dc h;have V:=hid V;have C:=fun W=>Ak (s-s0) (-1) 1 _ W rfl;cases z
 . by_cases hp:p=2
   . subst hp;cases hb:LC b 1
     . have E:=hid (G8 (b:=b) (s0:=s0) h (by simp) (by simp[hb]));rw[hb] at D1;have D1:=hid D1;have C:=hid C;clear D2 hb h hz;go_enter Tryz.func106,Tryz.ntmps106;go_wp2_with fail;refine(V.out _).mono ?_;rintro e w1 ⟨rfl,B⟩;have P:CellsAt w1 w.heap.size (AW i t x y A n c G m kk fp fq fs fz b):=(((CellsAt.new w _ _ _ rfl).alloc _).alloc _).step B;have Q:CellsAt w1 (w.heap.size+1) (AF s0 p0 z0):=((CellsAt.new _ _ _ _ (by simp)).alloc _).step B;have X:CellsAt w1 (w.heap.size+1+1) (AF s 2 false):=(CellsAt.new _ _ _ _ (by simp)).step B;have H:=hid (Aa (Ab (Ab (Ab (Ac w) _) _) _) B);clear B
       obtain⟨Pc0,Pc1,Pc2,Pc3,Pc4,Pc5,Pc6,Pc7,Pc8,Pc9,Pc10⟩:=Bb P;have Pl:=P.lt;obtain⟨Qc0,Qc1,Qc2⟩:=BL Q;have Ql:=Q.lt;obtain⟨Xc0,Xc1,Xc2⟩:=BL X;have Xl:=X.lt;go_wp2_with fail;refine(D1.out _).mono ?_;rintro e w2 ⟨rfl,B⟩;replace P:=P.step B;replace Q:=Q.step B;replace X:=X.step B;replace H:=hid (Aa H.out B);clear Pc0 Pc1 Pc2 Pc3 Pc4 Pc5 Pc6 Pc7 Pc8 Pc9 Pc10 Qc0 Qc1 Qc2 Xc0 Xc1 Xc2 Pl Ql Xl;clear B;obtain⟨Pc0,Pc1,Pc2,Pc3,Pc4,Pc5,Pc6,Pc7,Pc8,Pc9,Pc10⟩:=Bb P;have Pl:=P.lt;obtain⟨Qc0,Qc1,Qc2⟩:=BL Q;have Ql:=Q.lt;obtain⟨Xc0,Xc1,Xc2⟩:=BL X;have Xl:=X.lt;go_wp2_with fail;refine(C.out _).mono ?_
       rintro e w' ⟨rfl,rfl⟩;go_wp2;go_ret;exact⟨Al (by rw[E.out]),H.out⟩
     . have E:=hid (MS (s0:=s0) (s:=s) (z:=false) rfl hb);rw[hb] at D1;have D1:=hid D1;clear D2 hb h hz C;go_enter Tryz.func106,Tryz.ntmps106;go_wp2_with fail;refine(V.out _).mono ?_;rintro e w1 ⟨rfl,B⟩;have P:CellsAt w1 w.heap.size (AW i t x y A n c G m kk fp fq fs fz b):=(((CellsAt.new w _ _ _ rfl).alloc _).alloc _).step B;have Q:CellsAt w1 (w.heap.size+1) (AF s0 p0 z0):=((CellsAt.new _ _ _ _ (by simp)).alloc _).step B;have X:CellsAt w1 (w.heap.size+1+1) (AF s 2 false):=(CellsAt.new _ _ _ _ (by simp)).step B;have H:=hid (Aa (Ab (Ab (Ab (Ac w) _) _) _) B);clear B
       obtain⟨Pc0,Pc1,Pc2,Pc3,Pc4,Pc5,Pc6,Pc7,Pc8,Pc9,Pc10⟩:=Bb P;have Pl:=P.lt;obtain⟨Qc0,Qc1,Qc2⟩:=BL Q;have Ql:=Q.lt;obtain⟨Xc0,Xc1,Xc2⟩:=BL X;have Xl:=X.lt;go_wp2_with fail;refine(D1.out _).mono ?_;rintro e w2 ⟨rfl,B⟩;replace P:=P.step B;replace Q:=Q.step B;replace X:=X.step B;replace H:=hid (Aa H.out B);clear Pc0 Pc1 Pc2 Pc3 Pc4 Pc5 Pc6 Pc7 Pc8 Pc9 Pc10 Qc0 Qc1 Qc2 Xc0 Xc1 Xc2 Pl Ql Xl;clear B;obtain⟨Pc0,Pc1,Pc2,Pc3,Pc4,Pc5,Pc6,Pc7,Pc8,Pc9,Pc10⟩:=Bb P;have Pl:=P.lt;obtain⟨Qc0,Qc1,Qc2⟩:=BL Q;have Ql:=Q.lt;obtain⟨Xc0,Xc1,Xc2⟩:=BL X;have Xl:=X.lt;go_wp2;go_ret;exact⟨Al (by rw[E.out]),H.out⟩
   . have E:=hid (G8 (b:=b) (s0:=s0) h (by simp) (by simp[hp]));have C:=hid C;have pd:(p==2)=false:=beq_eq_false_iff_ne.2 hp;clear D1 D2 h hz hp;go_enter Tryz.func106,Tryz.ntmps106;go_wp2_with fail;refine(V.out _).mono ?_;rintro e w1 ⟨rfl,B⟩;have P:CellsAt w1 w.heap.size (AW i t x y A n c G m kk fp fq fs fz b):=(((CellsAt.new w _ _ _ rfl).alloc _).alloc _).step B;have Q:CellsAt w1 (w.heap.size+1) (AF s0 p0 z0):=((CellsAt.new _ _ _ _ (by simp)).alloc _).step B;have X:CellsAt w1 (w.heap.size+1+1) (AF s p false):=(CellsAt.new _ _ _ _ (by simp)).step B;have H:=hid (Aa (Ab (Ab (Ab (Ac w) _) _) _) B);clear B
     obtain⟨Pc0,Pc1,Pc2,Pc3,Pc4,Pc5,Pc6,Pc7,Pc8,Pc9,Pc10⟩:=Bb P;have Pl:=P.lt;obtain⟨Qc0,Qc1,Qc2⟩:=BL Q;have Ql:=Q.lt;obtain⟨Xc0,Xc1,Xc2⟩:=BL X;have Xl:=X.lt;go_wp2_with fail;refine(C.out _).mono ?_;rintro e w' ⟨rfl,rfl⟩;go_wp2;go_ret;exact⟨Al (by rw[E.out]),H.out⟩
 . obtain⟨rfl,rfl⟩:=hz rfl;cases hb:LC b 2
   . have E:=hid (show Er b s0 0 0 true=Ax (-s0) (-1) 1 by rw[G8 (b:=b) (s0:=s0) h (by simp[hb]) (by simp),Int.zero_sub]);rw[hb] at D2;have D2:=hid D2;have C:=hid (fun W=>Ak (-s0) (-1) 1 _ W rfl);clear D1 hb h hz;go_enter Tryz.func106,Tryz.ntmps106;go_wp2_with fail;refine(V.out _).mono ?_;rintro e w1 ⟨rfl,B⟩;have P:CellsAt w1 w.heap.size (AW i t x y A n c G m kk fp fq fs fz b):=(((CellsAt.new w _ _ _ rfl).alloc _).alloc _).step B;have Q:CellsAt w1 (w.heap.size+1) (AF s0 p0 z0):=((CellsAt.new _ _ _ _ (by simp)).alloc _).step B;have X:CellsAt w1 (w.heap.size+1+1) (AF 0 0 true):=(CellsAt.new _ _ _ _ (by simp)).step B
     have H:=hid (Aa (Ab (Ab (Ab (Ac w) _) _) _) B);clear B;obtain⟨Pc0,Pc1,Pc2,Pc3,Pc4,Pc5,Pc6,Pc7,Pc8,Pc9,Pc10⟩:=Bb P;have Pl:=P.lt;obtain⟨Qc0,Qc1,Qc2⟩:=BL Q;have Ql:=Q.lt;obtain⟨Xc0,Xc1,Xc2⟩:=BL X;have Xl:=X.lt;go_wp2_with fail;refine(D2.out _).mono ?_;rintro e w2 ⟨rfl,B⟩;replace P:=P.step B;replace Q:=Q.step B;replace X:=X.step B;replace H:=hid (Aa H.out B);clear Pc0 Pc1 Pc2 Pc3 Pc4 Pc5 Pc6 Pc7 Pc8 Pc9 Pc10 Qc0 Qc1 Qc2 Xc0 Xc1 Xc2 Pl Ql Xl;clear B;obtain⟨Pc0,Pc1,Pc2,Pc3,Pc4,Pc5,Pc6,Pc7,Pc8,Pc9,Pc10⟩:=Bb P;have Pl:=P.lt;obtain⟨Qc0,Qc1,Qc2⟩:=BL Q;have Ql:=Q.lt
     obtain⟨Xc0,Xc1,Xc2⟩:=BL X;have Xl:=X.lt;go_wp2_with fail;refine(C.out _).mono ?_;rintro e w' ⟨rfl,rfl⟩;go_wp2;go_ret;exact⟨Al (by rw[E.out]),H.out⟩
   . have E:=hid (MR (s0:=s0) (s:=0) (p:=0) (z:=true) rfl hb);rw[hb] at D2;have D2:=hid D2;clear D1 hb h hz C;go_enter Tryz.func106,Tryz.ntmps106;go_wp2_with fail;refine(V.out _).mono ?_;rintro e w1 ⟨rfl,B⟩;have P:CellsAt w1 w.heap.size (AW i t x y A n c G m kk fp fq fs fz b):=(((CellsAt.new w _ _ _ rfl).alloc _).alloc _).step B;have Q:CellsAt w1 (w.heap.size+1) (AF s0 p0 z0):=((CellsAt.new _ _ _ _ (by simp)).alloc _).step B;have X:CellsAt w1 (w.heap.size+1+1) (AF 0 0 true):=(CellsAt.new _ _ _ _ (by simp)).step B;have H:=hid (Aa (Ab (Ab (Ab (Ac w) _) _) _) B);clear B
     obtain⟨Pc0,Pc1,Pc2,Pc3,Pc4,Pc5,Pc6,Pc7,Pc8,Pc9,Pc10⟩:=Bb P;have Pl:=P.lt;obtain⟨Qc0,Qc1,Qc2⟩:=BL Q;have Ql:=Q.lt;obtain⟨Xc0,Xc1,Xc2⟩:=BL X;have Xl:=X.lt;go_wp2_with fail;refine(D2.out _).mono ?_;rintro e w2 ⟨rfl,B⟩;replace P:=P.step B;replace Q:=Q.step B;replace X:=X.step B;replace H:=hid (Aa H.out B);clear Pc0 Pc1 Pc2 Pc3 Pc4 Pc5 Pc6 Pc7 Pc8 Pc9 Pc10 Qc0 Qc1 Qc2 Xc0 Xc1 Xc2 Pl Ql Xl;clear B;obtain⟨Pc0,Pc1,Pc2,Pc3,Pc4,Pc5,Pc6,Pc7,Pc8,Pc9,Pc10⟩:=Bb P;have Pl:=P.lt;obtain⟨Qc0,Qc1,Qc2⟩:=BL Q;have Ql:=Q.lt;obtain⟨Xc0,Xc1,Xc2⟩:=BL X;have Xl:=X.lt;go_wp2;go_ret;exact⟨Al (by rw[E.out]),H.out⟩
open Go.RowKit
open M
end Go.Proofs.YtgbiagonfbnooaaGreatDoor
