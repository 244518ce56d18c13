import Derived.Test.YtkpogcflgghfiaaDoorZLevS
import Derived.Test.YtkpogcflgghfiaaDoorZHead
set_option linter.all false
set_option maxRecDepth 100000
set_option maxHeartbeats 8000000
open Go.Lib
namespace Go.Proofs.YtkpogcflgghfiaaDoor
namespace M
structure In where
 s:Int
 p:Int
 z:Bool
def iz:In:=⟨0,0,false⟩
def Dw (s p:Int) (z:Bool):Bool:=Ba s (-1) 1&&Ba p 0 2&&(!z||(decide (s=0)&&decide (p=0)))
theorem Sn {s p:Int} {z:Bool} (h:Ba s (-1) 1=false):Dw s p z=false:=by simp [Dw,h]
theorem So {s p:Int} {z:Bool} (h:Ba p 0 2=false):Dw s p z=false:=by simp [Dw,h]
theorem EY {s p:Int} {z:Bool} (h:Dw s p z=true):(-1≤s∧s≤1)∧(0≤p∧p≤2)∧(z=true→s=0∧p=0):=by
 simp only [Dw,Ba,Bool.and_eq_true,decide_eq_true_eq,Bool.or_eq_true,Bool.not_eq_true'] at h;refine ⟨h.1.1,h.1.2,fun e=>?_⟩;rcases h.2 with g | g
 · rw [e] at g; cases g
 · exact g
def UX (s p:Int) (z:Bool):Int:=if z then 9 else 3*p+s+1
def UY (s p:Int) (z:Bool):Int:=if Dw s p z then UX s p z else -1
theorem UD {s p:Int} {z:Bool} (h:Dw s p z=true):UY s p z=UX s p z:=by simp [UY,h]
def Qg (n:Int):Int:=if Ba n 0 8 then n % 3-1 else 0
def Qh (n:Int):Int:=if Ba n 0 8 then n / 3 else 0
def Sp (n:Int):Bool:=decide (n=9)
def FW (b s0 s p:Int) (z:Bool):Bool:=Dw s p z&&!(z&&Iu b 2)&&!(decide (p=2)&&Iu b 1)&&Ba (s-s0) (-1) 1
theorem Sq {b s0 s p:Int} {z:Bool} (h:Dw s p z=false):FW b s0 s p z=false:=by simp [FW,h]
theorem Sr {b s0 s p:Int} {z:Bool} (h:z=true) (g:Iu b 2=true):FW b s0 s p z=false:=by simp [FW,h,g]
theorem Su {b s0 s p:Int} {z:Bool} (h:p=2) (g:Iu b 1=true):FW b s0 s p z=false:=by simp [FW,h,g]
theorem Lc {b s0 s p:Int} {z:Bool} (h:Dw s p z=true) (g:(z&&Iu b 2)=false) (k:(decide (p=2)&&Iu b 1)=false):FW b s0 s p z=Ba (s-s0) (-1) 1:=by simp [FW,h,g,k]
end M
end Go.Proofs.YtkpogcflgghfiaaDoor
namespace Go.Proofs.YtkpogcflgghfiaaDoor
open Go.RowKit
open M
abbrev Dx (s p:Int) (z:Bool):Value:=.agg #[.int .i64 s,.int .i64 p,.bool z]
abbrev ins (s p:Int) (z:Bool):List Value:=[.int .i64 s,.int .i64 p,.bool z]
theorem QA {s:Int} (h:Ba s (-1) 1=true):s=-1∨s=0∨s=1:=by
 have:-1≤s∧s≤1:=by simpa [Ba] using h
 omega
theorem QB {p:Int} (h:Ba p 0 2=true):p=0∨p=1∨p=2:=by
 have:0≤p∧p≤2:=by simpa [Ba] using h
 omega
theorem TG {n:Int} (h:Ba n 0 9=true):n=0∨n=1∨n=2∨n=3∨n=4∨n=5∨n=6∨n=7∨n=8∨n=9:=by
 have:0≤n∧n≤9:=by simpa [Ba] using h
 omega
theorem Ld (s p:Int) (z:Bool) (w:World):Calls Tryd.prog 77 #[Dx s p z] w fun e w'=>e=.returned (.bool (Dw s p z))∧Below w.heap.size w w':=by
 cases h1:Ba s (-1) 1
 · have E:=hid (Sn (p:=p) (z:=z) h1);have hA:=hid h1;clear h1;go_enter Tryd.func77,Tryd.ntmps77;go_wp2_with fail;refine (AU _ _ _ _ _ hA.out).mono ?_;rintro e w' ⟨rfl,rfl⟩;go_wp2;go_ret;exact ⟨Ao (by rw [E.out]),Aa (Ac w) _⟩
 cases h2:Ba p 0 2
 · have E:=hid (So (s:=s) (z:=z) h2);have hA:=hid h1;have hB:=hid h2;clear h1 h2;go_enter Tryd.func77,Tryd.ntmps77;go_wp2_with fail;refine (AU _ _ _ _ _ hA.out).mono ?_;rintro e w' ⟨rfl,rfl⟩;go_wp2_with fail;refine (AU _ _ _ _ _ hB.out).mono ?_;rintro e w' ⟨rfl,rfl⟩;go_wp2;go_ret;exact ⟨Ao (by rw [E.out]),Aa (Ac w) _⟩
 rcases QA h1 with rfl | rfl | rfl<;>rcases QB h2 with rfl | rfl | rfl<;>cases z
 all_goals
  clear h1 h2;go_enter Tryd.func77,Tryd.ntmps77;go_wp2_with fail;refine (AU _ _ _ true _ (by decide)).mono ?_;rintro e w' ⟨rfl,rfl⟩;go_wp2_with fail;refine (AU _ _ _ true _ (by decide)).mono ?_;rintro e w' ⟨rfl,rfl⟩;go_wp2;go_ret;exact ⟨Ao (by decide),Aa (Ac w) _⟩
theorem Mj (n:Int) (w:World):Calls Tryd.prog 49 #[.int .i64 n] w fun e w'=>e=.returned (.tuple #[Dx (Qg n) (Qh n) (Sp n),.bool (Ba n 0 9)])∧Below w.heap.size w w':=by
 cases h:Ba n 0 9
 · have hA:=hid h;have h8:Ba n 0 8=false:=by
    have:¬ (0≤n∧n≤9):=by simpa [Ba] using h
    exact CC (by omega)
   have h9:¬ n=9:=by
    have:¬ (0≤n∧n≤9):=by simpa [Ba] using h
    omega
   have e0:Qg n=0:=by simp [Qg,h8]
   have e1:Qh n=0:=by simp [Qh,h8]
   have e2:Sp n=false:=by simp [Sp,h9]
   rw [e0,e1,e2];clear h h8 h9 e0 e1 e2;go_enter Tryd.func49,Tryd.ntmps49;go_wp2_with fail;refine (AU _ _ _ _ _ hA.out).mono ?_;rintro e w' ⟨rfl,rfl⟩;go_wp2;exact bodyPost_ret (v:=.tuple #[Dx 0 0 false,.bool false]) (by simp [results,Tryd.results49,go_sem]) rfl ⟨rfl,(by repeat (first | exact Ac _ | refine Aa ?_ _ | refine Am ?_ _ _ _ (by omega)))⟩
 · rcases TG h with rfl | rfl | rfl | rfl | rfl | rfl | rfl | rfl | rfl | rfl
   all_goals
    clear h;go_enter Tryd.func49,Tryd.ntmps49;go_wp2_with fail;refine (AU _ _ _ true _ (by decide)).mono ?_;rintro e w' ⟨rfl,rfl⟩;go_wp2;exact bodyPost_ret (by simp [results,Tryd.results49,go_sem]; decide) rfl ⟨rfl,(by repeat (first | exact Ac _ | refine Aa ?_ _ | refine Am ?_ _ _ _ (by omega)))⟩
end Go.Proofs.YtkpogcflgghfiaaDoor
namespace Go.Proofs.YtkpogcflgghfiaaDoor
open Go.RowKit
open M
theorem DI (i t x y:Int) (A:Option Addr) (n c:Nat) (G:Option Addr) (m kk:Nat) (fp fq fs fz b:Int) (s0 p0:Int) (z0:Bool) (s p:Int) (z:Bool) (w:World) (b0:0≤b) (b3:b≤3) (s1:-1≤s0) (s2:s0≤1) :
 Calls Tryd.prog 57 #[CR i t x y A n c G m kk fp fq fs fz b,Dx s0 p0 z0,Dx s p z] w fun e w'=>e=.returned (.bool (FW b s0 s p z))∧Below w.heap.size w w':=by
 have V:=fun W=>Ld s p z W;have D2:=fun W=>IG i t x y A n c G m kk fp fq fs fz b 2 W b0 b3 (Or.inr rfl);have D1:=fun W=>IG i t x y A n c G m kk fp fq fs fz b 1 W b0 b3 (Or.inl rfl);cases h:Dw s p z
 · rw [h] at V;have E:=hid (Sq (b:=b) (s0:=s0) h);have V:=hid V;clear D1 D2 h;go_enter Tryd.func57,Tryd.ntmps57;go_wp2_with fail;refine (V.out _).mono ?_;rintro e w1 ⟨rfl,B⟩;have P:CellsAt w1 w.heap.size (AV i t x y A n c G m kk fp fq fs fz b):=(((CellsAt.new w _ _ _ rfl).alloc _).alloc _).step B;have Q:CellsAt w1 (w.heap.size+1) (ins s0 p0 z0):=((CellsAt.new _ _ _ _ (by simp)).alloc _).step B;have X:CellsAt w1 (w.heap.size+1+1) (ins s p z):=(CellsAt.new _ _ _ _ (by simp)).step B;have H:=hid (Ab (Aa (Aa (Aa (Ac w) _) _) _) B);clear B;obtain ⟨Pc0,Pc1,Pc2,Pc3,Pc4,Pc5,Pc6,Pc7,Pc8,Pc9,Pc10⟩:=AG P;have Pl:=P.lt
   obtain ⟨Qc0,Qc1,Qc2⟩:=BM Q;have Ql:=Q.lt;obtain ⟨Xc0,Xc1,Xc2⟩:=BM X;have Xl:=X.lt;go_wp2;go_ret;exact ⟨Ao (by rw [E.out]),H.out⟩
 rw [h] at V;obtain ⟨⟨u1,u2⟩,⟨p1,p2⟩,hz⟩:=EY h;have V:=hid V;have C:=fun W=>AU (s-s0) (-1) 1 _ W rfl;cases z
 · by_cases hp:p=2
   · subst hp;cases hb:Iu b 1
     · have E:=hid (Lc (b:=b) (s0:=s0) h (by simp) (by simp [hb]));rw [hb] at D1;have D1:=hid D1;have C:=hid C;clear D2 hb h hz;go_enter Tryd.func57,Tryd.ntmps57;go_wp2_with fail;refine (V.out _).mono ?_;rintro e w1 ⟨rfl,B⟩;have P:CellsAt w1 w.heap.size (AV i t x y A n c G m kk fp fq fs fz b):=(((CellsAt.new w _ _ _ rfl).alloc _).alloc _).step B;have Q:CellsAt w1 (w.heap.size+1) (ins s0 p0 z0):=((CellsAt.new _ _ _ _ (by simp)).alloc _).step B;have X:CellsAt w1 (w.heap.size+1+1) (ins s 2 false):=(CellsAt.new _ _ _ _ (by simp)).step B;have H:=hid (Ab (Aa (Aa (Aa (Ac w) _) _) _) B);clear B
       obtain ⟨Pc0,Pc1,Pc2,Pc3,Pc4,Pc5,Pc6,Pc7,Pc8,Pc9,Pc10⟩:=AG P;have Pl:=P.lt;obtain ⟨Qc0,Qc1,Qc2⟩:=BM Q;have Ql:=Q.lt;obtain ⟨Xc0,Xc1,Xc2⟩:=BM X;have Xl:=X.lt;go_wp2_with fail;refine (D1.out _).mono ?_;rintro e w2 ⟨rfl,B⟩;replace P:=P.step B;replace Q:=Q.step B;replace X:=X.step B;replace H:=hid (Ab H.out B);clear Pc0 Pc1 Pc2 Pc3 Pc4 Pc5 Pc6 Pc7 Pc8 Pc9 Pc10 Qc0 Qc1 Qc2 Xc0 Xc1 Xc2 Pl Ql Xl;clear B;obtain ⟨Pc0,Pc1,Pc2,Pc3,Pc4,Pc5,Pc6,Pc7,Pc8,Pc9,Pc10⟩:=AG P;have Pl:=P.lt;obtain ⟨Qc0,Qc1,Qc2⟩:=BM Q;have Ql:=Q.lt;obtain ⟨Xc0,Xc1,Xc2⟩:=BM X;have Xl:=X.lt;go_wp2_with fail;refine (C.out _).mono ?_
       rintro e w' ⟨rfl,rfl⟩;go_wp2;go_ret;exact ⟨Ao (by rw [E.out]),H.out⟩
     · have E:=hid (Su (s0:=s0) (s:=s) (z:=false) rfl hb);rw [hb] at D1;have D1:=hid D1;clear D2 hb h hz C;go_enter Tryd.func57,Tryd.ntmps57;go_wp2_with fail;refine (V.out _).mono ?_;rintro e w1 ⟨rfl,B⟩;have P:CellsAt w1 w.heap.size (AV i t x y A n c G m kk fp fq fs fz b):=(((CellsAt.new w _ _ _ rfl).alloc _).alloc _).step B;have Q:CellsAt w1 (w.heap.size+1) (ins s0 p0 z0):=((CellsAt.new _ _ _ _ (by simp)).alloc _).step B;have X:CellsAt w1 (w.heap.size+1+1) (ins s 2 false):=(CellsAt.new _ _ _ _ (by simp)).step B;have H:=hid (Ab (Aa (Aa (Aa (Ac w) _) _) _) B);clear B
       obtain ⟨Pc0,Pc1,Pc2,Pc3,Pc4,Pc5,Pc6,Pc7,Pc8,Pc9,Pc10⟩:=AG P;have Pl:=P.lt;obtain ⟨Qc0,Qc1,Qc2⟩:=BM Q;have Ql:=Q.lt;obtain ⟨Xc0,Xc1,Xc2⟩:=BM X;have Xl:=X.lt;go_wp2_with fail;refine (D1.out _).mono ?_;rintro e w2 ⟨rfl,B⟩;replace P:=P.step B;replace Q:=Q.step B;replace X:=X.step B;replace H:=hid (Ab H.out B);clear Pc0 Pc1 Pc2 Pc3 Pc4 Pc5 Pc6 Pc7 Pc8 Pc9 Pc10 Qc0 Qc1 Qc2 Xc0 Xc1 Xc2 Pl Ql Xl;clear B;obtain ⟨Pc0,Pc1,Pc2,Pc3,Pc4,Pc5,Pc6,Pc7,Pc8,Pc9,Pc10⟩:=AG P;have Pl:=P.lt;obtain ⟨Qc0,Qc1,Qc2⟩:=BM Q;have Ql:=Q.lt;obtain ⟨Xc0,Xc1,Xc2⟩:=BM X;have Xl:=X.lt;go_wp2;go_ret;exact ⟨Ao (by rw [E.out]),H.out⟩
   · have E:=hid (Lc (b:=b) (s0:=s0) h (by simp) (by simp [hp]));have C:=hid C;have pd:(p==2)=false:=beq_eq_false_iff_ne.2 hp;clear D1 D2 h hz hp;go_enter Tryd.func57,Tryd.ntmps57;go_wp2_with fail;refine (V.out _).mono ?_;rintro e w1 ⟨rfl,B⟩;have P:CellsAt w1 w.heap.size (AV i t x y A n c G m kk fp fq fs fz b):=(((CellsAt.new w _ _ _ rfl).alloc _).alloc _).step B;have Q:CellsAt w1 (w.heap.size+1) (ins s0 p0 z0):=((CellsAt.new _ _ _ _ (by simp)).alloc _).step B;have X:CellsAt w1 (w.heap.size+1+1) (ins s p false):=(CellsAt.new _ _ _ _ (by simp)).step B;have H:=hid (Ab (Aa (Aa (Aa (Ac w) _) _) _) B);clear B
     obtain ⟨Pc0,Pc1,Pc2,Pc3,Pc4,Pc5,Pc6,Pc7,Pc8,Pc9,Pc10⟩:=AG P;have Pl:=P.lt;obtain ⟨Qc0,Qc1,Qc2⟩:=BM Q;have Ql:=Q.lt;obtain ⟨Xc0,Xc1,Xc2⟩:=BM X;have Xl:=X.lt;go_wp2_with fail;refine (C.out _).mono ?_;rintro e w' ⟨rfl,rfl⟩;go_wp2;go_ret;exact ⟨Ao (by rw [E.out]),H.out⟩
 · obtain ⟨rfl,rfl⟩:=hz rfl;cases hb:Iu b 2
   · have E:=hid (show FW b s0 0 0 true=Ba (-s0) (-1) 1 by rw [Lc (b:=b) (s0:=s0) h (by simp [hb]) (by simp),Int.zero_sub]);rw [hb] at D2;have D2:=hid D2;have C:=hid (fun W=>AU (-s0) (-1) 1 _ W rfl);clear D1 hb h hz;go_enter Tryd.func57,Tryd.ntmps57;go_wp2_with fail;refine (V.out _).mono ?_;rintro e w1 ⟨rfl,B⟩;have P:CellsAt w1 w.heap.size (AV i t x y A n c G m kk fp fq fs fz b):=(((CellsAt.new w _ _ _ rfl).alloc _).alloc _).step B;have Q:CellsAt w1 (w.heap.size+1) (ins s0 p0 z0):=((CellsAt.new _ _ _ _ (by simp)).alloc _).step B;have X:CellsAt w1 (w.heap.size+1+1) (ins 0 0 true):=(CellsAt.new _ _ _ _ (by simp)).step B
     have H:=hid (Ab (Aa (Aa (Aa (Ac w) _) _) _) B);clear B;obtain ⟨Pc0,Pc1,Pc2,Pc3,Pc4,Pc5,Pc6,Pc7,Pc8,Pc9,Pc10⟩:=AG P;have Pl:=P.lt;obtain ⟨Qc0,Qc1,Qc2⟩:=BM Q;have Ql:=Q.lt;obtain ⟨Xc0,Xc1,Xc2⟩:=BM X;have Xl:=X.lt;go_wp2_with fail;refine (D2.out _).mono ?_;rintro e w2 ⟨rfl,B⟩;replace P:=P.step B;replace Q:=Q.step B;replace X:=X.step B;replace H:=hid (Ab H.out B);clear Pc0 Pc1 Pc2 Pc3 Pc4 Pc5 Pc6 Pc7 Pc8 Pc9 Pc10 Qc0 Qc1 Qc2 Xc0 Xc1 Xc2 Pl Ql Xl;clear B;obtain ⟨Pc0,Pc1,Pc2,Pc3,Pc4,Pc5,Pc6,Pc7,Pc8,Pc9,Pc10⟩:=AG P;have Pl:=P.lt;obtain ⟨Qc0,Qc1,Qc2⟩:=BM Q;have Ql:=Q.lt
     obtain ⟨Xc0,Xc1,Xc2⟩:=BM X;have Xl:=X.lt;go_wp2_with fail;refine (C.out _).mono ?_;rintro e w' ⟨rfl,rfl⟩;go_wp2;go_ret;exact ⟨Ao (by rw [E.out]),H.out⟩
   · have E:=hid (Sr (s0:=s0) (s:=0) (p:=0) (z:=true) rfl hb);rw [hb] at D2;have D2:=hid D2;clear D1 hb h hz C;go_enter Tryd.func57,Tryd.ntmps57;go_wp2_with fail;refine (V.out _).mono ?_;rintro e w1 ⟨rfl,B⟩;have P:CellsAt w1 w.heap.size (AV i t x y A n c G m kk fp fq fs fz b):=(((CellsAt.new w _ _ _ rfl).alloc _).alloc _).step B;have Q:CellsAt w1 (w.heap.size+1) (ins s0 p0 z0):=((CellsAt.new _ _ _ _ (by simp)).alloc _).step B;have X:CellsAt w1 (w.heap.size+1+1) (ins 0 0 true):=(CellsAt.new _ _ _ _ (by simp)).step B;have H:=hid (Ab (Aa (Aa (Aa (Ac w) _) _) _) B);clear B
     obtain ⟨Pc0,Pc1,Pc2,Pc3,Pc4,Pc5,Pc6,Pc7,Pc8,Pc9,Pc10⟩:=AG P;have Pl:=P.lt;obtain ⟨Qc0,Qc1,Qc2⟩:=BM Q;have Ql:=Q.lt;obtain ⟨Xc0,Xc1,Xc2⟩:=BM X;have Xl:=X.lt;go_wp2_with fail;refine (D2.out _).mono ?_;rintro e w2 ⟨rfl,B⟩;replace P:=P.step B;replace Q:=Q.step B;replace X:=X.step B;replace H:=hid (Ab H.out B);clear Pc0 Pc1 Pc2 Pc3 Pc4 Pc5 Pc6 Pc7 Pc8 Pc9 Pc10 Qc0 Qc1 Qc2 Xc0 Xc1 Xc2 Pl Ql Xl;clear B;obtain ⟨Pc0,Pc1,Pc2,Pc3,Pc4,Pc5,Pc6,Pc7,Pc8,Pc9,Pc10⟩:=AG P;have Pl:=P.lt;obtain ⟨Qc0,Qc1,Qc2⟩:=BM Q;have Ql:=Q.lt;obtain ⟨Xc0,Xc1,Xc2⟩:=BM X;have Xl:=X.lt;go_wp2;go_ret;exact ⟨Ao (by rw [E.out]),H.out⟩
end Go.Proofs.YtkpogcflgghfiaaDoor
namespace Go.Proofs.YtkpogcflgghfiaaDoor
open Go.RowKit
open M
def M.ifB (i t x y:Int) (ws gs:List Bx) (fp fq fs fz b s0 p0:Int) (z0:Bool) (s p:Int) (z:Bool):Bool:=Cm i t x y ws gs fp fq fs fz b&&Dw s0 p0 z0&&FW b s0 s p z
end Go.Proofs.YtkpogcflgghfiaaDoor
