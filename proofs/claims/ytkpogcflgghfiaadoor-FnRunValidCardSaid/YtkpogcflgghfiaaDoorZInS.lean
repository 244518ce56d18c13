import Derived.Test.YtkpogcflgghfiaaDoorZLevS
import Derived.Test.YtkpogcflgghfiaaDoorZHashS
set_option linter.all false
set_option maxRecDepth 100000
set_option maxHeartbeats 8000000
open Go.Lib
namespace Go.Proofs.YtkpogcflgghfiaaDoor
namespace M
structure In where
 s:Int
 p:Int
 z:Bool
def iz:In:=⟨0,0,false⟩
def Ds (s p:Int) (z:Bool):Bool:=A9 s (-1) 1&&A9 p 0 2&&(!z||(decide (s=0)&&decide (p=0)))
theorem Se {s p:Int} {z:Bool} (h:A9 s (-1) 1=false):Ds s p z=false:=by simp [Ds,h]
theorem Sf {s p:Int} {z:Bool} (h:A9 p 0 2=false):Ds s p z=false:=by simp [Ds,h]
theorem EN {s p:Int} {z:Bool} (h:Ds s p z=true):(-1≤s∧s≤1)∧(0≤p∧p≤2)∧(z=true→s=0∧p=0):=by
 simp only [Ds,A9,Bool.and_eq_true,decide_eq_true_eq,Bool.or_eq_true,Bool.not_eq_true'] at h;refine ⟨h.1.1,h.1.2,fun e=>?_⟩;rcases h.2 with g | g
 · rw [e] at g; cases g
 · exact g
def US (s p:Int) (z:Bool):Int:=if z then 9 else 3*p+s+1
def UT (s p:Int) (z:Bool):Int:=if Ds s p z then US s p z else -1
theorem Uy {s p:Int} {z:Bool} (h:Ds s p z=true):UT s p z=US s p z:=by simp [UT,h]
def Qb (n:Int):Int:=if A9 n 0 8 then n % 3-1 else 0
def Qc (n:Int):Int:=if A9 n 0 8 then n / 3 else 0
def Sg (n:Int):Bool:=decide (n=9)
def FP (b s0 s p:Int) (z:Bool):Bool:=Ds s p z&&!(z&&Ip b 2)&&!(decide (p=2)&&Ip b 1)&&A9 (s-s0) (-1) 1
theorem Sj {b s0 s p:Int} {z:Bool} (h:Ds s p z=false):FP b s0 s p z=false:=by simp [FP,h]
theorem Sk {b s0 s p:Int} {z:Bool} (h:z=true) (g:Ip b 2=true):FP b s0 s p z=false:=by simp [FP,h,g]
theorem Sm {b s0 s p:Int} {z:Bool} (h:p=2) (g:Ip b 1=true):FP b s0 s p z=false:=by simp [FP,h,g]
theorem KY {b s0 s p:Int} {z:Bool} (h:Ds s p z=true) (g:(z&&Ip b 2)=false) (k:(decide (p=2)&&Ip b 1)=false):FP b s0 s p z=A9 (s-s0) (-1) 1:=by simp [FP,h,g,k]
end M
end Go.Proofs.YtkpogcflgghfiaaDoor
namespace Go.Proofs.YtkpogcflgghfiaaDoor
open Go.RowKit
open M
abbrev Dt (s p:Int) (z:Bool):Value:=.agg #[.int .i64 s,.int .i64 p,.bool z]
abbrev ins (s p:Int) (z:Bool):List Value:=[.int .i64 s,.int .i64 p,.bool z]
theorem Qv {s:Int} (h:A9 s (-1) 1=true):s=-1∨s=0∨s=1:=by
 have:-1≤s∧s≤1:=by simpa [A9] using h
 omega
theorem Qw {p:Int} (h:A9 p 0 2=true):p=0∨p=1∨p=2:=by
 have:0≤p∧p≤2:=by simpa [A9] using h
 omega
theorem TC {n:Int} (h:A9 n 0 9=true):n=0∨n=1∨n=2∨n=3∨n=4∨n=5∨n=6∨n=7∨n=8∨n=9:=by
 have:0≤n∧n≤9:=by simpa [A9] using h
 omega
theorem KZ (s p:Int) (z:Bool) (w:World):Calls Tryd.prog 77 #[Dt s p z] w fun e w'=>e=.returned (.bool (Ds s p z))∧Below w.heap.size w w':=by
 cases h1:A9 s (-1) 1
 · have E:=hid (Se (p:=p) (z:=z) h1);have hA:=hid h1;clear h1;go_enter Tryd.func77,Tryd.ntmps77;go_wp2_with fail;refine (AO _ _ _ _ _ hA.out).mono ?_;rintro e w' ⟨rfl,rfl⟩;go_wp2;go_ret;exact ⟨Ao (by rw [E.out]),Aa (Ac w) _⟩
 cases h2:A9 p 0 2
 · have E:=hid (Sf (s:=s) (z:=z) h2);have hA:=hid h1;have hB:=hid h2;clear h1 h2;go_enter Tryd.func77,Tryd.ntmps77;go_wp2_with fail;refine (AO _ _ _ _ _ hA.out).mono ?_;rintro e w' ⟨rfl,rfl⟩;go_wp2_with fail;refine (AO _ _ _ _ _ hB.out).mono ?_;rintro e w' ⟨rfl,rfl⟩;go_wp2;go_ret;exact ⟨Ao (by rw [E.out]),Aa (Ac w) _⟩
 rcases Qv h1 with rfl | rfl | rfl<;>rcases Qw h2 with rfl | rfl | rfl<;>cases z
 all_goals
  clear h1 h2;go_enter Tryd.func77,Tryd.ntmps77;go_wp2_with fail;refine (AO _ _ _ true _ (by decide)).mono ?_;rintro e w' ⟨rfl,rfl⟩;go_wp2_with fail;refine (AO _ _ _ true _ (by decide)).mono ?_;rintro e w' ⟨rfl,rfl⟩;go_wp2;go_ret;exact ⟨Ao (by decide),Aa (Ac w) _⟩
theorem Me (n:Int) (w:World):Calls Tryd.prog 49 #[.int .i64 n] w fun e w'=>e=.returned (.tuple #[Dt (Qb n) (Qc n) (Sg n),.bool (A9 n 0 9)])∧Below w.heap.size w w':=by
 cases h:A9 n 0 9
 · have hA:=hid h;have h8:A9 n 0 8=false:=by
    have:¬ (0≤n∧n≤9):=by simpa [A9] using h
    exact Cy (by omega)
   have h9:¬ n=9:=by
    have:¬ (0≤n∧n≤9):=by simpa [A9] using h
    omega
   have e0:Qb n=0:=by simp [Qb,h8]
   have e1:Qc n=0:=by simp [Qc,h8]
   have e2:Sg n=false:=by simp [Sg,h9]
   rw [e0,e1,e2];clear h h8 h9 e0 e1 e2;go_enter Tryd.func49,Tryd.ntmps49;go_wp2_with fail;refine (AO _ _ _ _ _ hA.out).mono ?_;rintro e w' ⟨rfl,rfl⟩;go_wp2;exact bodyPost_ret (v:=.tuple #[Dt 0 0 false,.bool false]) (by simp [results,Tryd.results49,go_sem]) rfl ⟨rfl,(by repeat (first | exact Ac _ | refine Aa ?_ _ | refine Am ?_ _ _ _ (by omega)))⟩
 · rcases TC h with rfl | rfl | rfl | rfl | rfl | rfl | rfl | rfl | rfl | rfl
   all_goals
    clear h;go_enter Tryd.func49,Tryd.ntmps49;go_wp2_with fail;refine (AO _ _ _ true _ (by decide)).mono ?_;rintro e w' ⟨rfl,rfl⟩;go_wp2;exact bodyPost_ret (by simp [results,Tryd.results49,go_sem]; decide) rfl ⟨rfl,(by repeat (first | exact Ac _ | refine Aa ?_ _ | refine Am ?_ _ _ _ (by omega)))⟩
end Go.Proofs.YtkpogcflgghfiaaDoor
namespace Go.Proofs.YtkpogcflgghfiaaDoor
open Go.RowKit
open M
theorem DC (i t x y:Int) (A:Option Addr) (n c:Nat) (G:Option Addr) (m kk:Nat) (fp fq fs fz b:Int) (s0 p0:Int) (z0:Bool) (s p:Int) (z:Bool) (w:World) (b0:0≤b) (b3:b≤3) (s1:-1≤s0) (s2:s0≤1) :
 Calls Tryd.prog 57 #[CN i t x y A n c G m kk fp fq fs fz b,Dt s0 p0 z0,Dt s p z] w fun e w'=>e=.returned (.bool (FP b s0 s p z))∧Below w.heap.size w w':=by
 have V:=fun W=>KZ s p z W;have D2:=fun W=>IB i t x y A n c G m kk fp fq fs fz b 2 W b0 b3 (Or.inr rfl);have D1:=fun W=>IB i t x y A n c G m kk fp fq fs fz b 1 W b0 b3 (Or.inl rfl);cases h:Ds s p z
 · rw [h] at V;have E:=hid (Sj (b:=b) (s0:=s0) h);have V:=hid V;clear D1 D2 h;go_enter Tryd.func57,Tryd.ntmps57;go_wp2_with fail;refine (V.out _).mono ?_;rintro e w1 ⟨rfl,B⟩;have P:CellsAt w1 w.heap.size (AQ i t x y A n c G m kk fp fq fs fz b):=(((CellsAt.new w _ _ _ rfl).alloc _).alloc _).step B;have Q:CellsAt w1 (w.heap.size+1) (ins s0 p0 z0):=((CellsAt.new _ _ _ _ (by simp)).alloc _).step B;have X:CellsAt w1 (w.heap.size+1+1) (ins s p z):=(CellsAt.new _ _ _ _ (by simp)).step B;have H:=hid (Ab (Aa (Aa (Aa (Ac w) _) _) _) B);clear B;obtain ⟨Pc0,Pc1,Pc2,Pc3,Pc4,Pc5,Pc6,Pc7,Pc8,Pc9,Pc10⟩:=AF P;have Pl:=P.lt
   obtain ⟨Qc0,Qc1,Qc2⟩:=BK Q;have Ql:=Q.lt;obtain ⟨Xc0,Xc1,Xc2⟩:=BK X;have Xl:=X.lt;go_wp2;go_ret;exact ⟨Ao (by rw [E.out]),H.out⟩
 rw [h] at V;obtain ⟨⟨u1,u2⟩,⟨p1,p2⟩,hz⟩:=EN h;have V:=hid V;have C:=fun W=>AO (s-s0) (-1) 1 _ W rfl;cases z
 · by_cases hp:p=2
   · subst hp;cases hb:Ip b 1
     · have E:=hid (KY (b:=b) (s0:=s0) h (by simp) (by simp [hb]));rw [hb] at D1;have D1:=hid D1;have C:=hid C;clear D2 hb h hz;go_enter Tryd.func57,Tryd.ntmps57;go_wp2_with fail;refine (V.out _).mono ?_;rintro e w1 ⟨rfl,B⟩;have P:CellsAt w1 w.heap.size (AQ i t x y A n c G m kk fp fq fs fz b):=(((CellsAt.new w _ _ _ rfl).alloc _).alloc _).step B;have Q:CellsAt w1 (w.heap.size+1) (ins s0 p0 z0):=((CellsAt.new _ _ _ _ (by simp)).alloc _).step B;have X:CellsAt w1 (w.heap.size+1+1) (ins s 2 false):=(CellsAt.new _ _ _ _ (by simp)).step B;have H:=hid (Ab (Aa (Aa (Aa (Ac w) _) _) _) B);clear B
       obtain ⟨Pc0,Pc1,Pc2,Pc3,Pc4,Pc5,Pc6,Pc7,Pc8,Pc9,Pc10⟩:=AF P;have Pl:=P.lt;obtain ⟨Qc0,Qc1,Qc2⟩:=BK Q;have Ql:=Q.lt;obtain ⟨Xc0,Xc1,Xc2⟩:=BK X;have Xl:=X.lt;go_wp2_with fail;refine (D1.out _).mono ?_;rintro e w2 ⟨rfl,B⟩;replace P:=P.step B;replace Q:=Q.step B;replace X:=X.step B;replace H:=hid (Ab H.out B);clear Pc0 Pc1 Pc2 Pc3 Pc4 Pc5 Pc6 Pc7 Pc8 Pc9 Pc10 Qc0 Qc1 Qc2 Xc0 Xc1 Xc2 Pl Ql Xl;clear B;obtain ⟨Pc0,Pc1,Pc2,Pc3,Pc4,Pc5,Pc6,Pc7,Pc8,Pc9,Pc10⟩:=AF P;have Pl:=P.lt;obtain ⟨Qc0,Qc1,Qc2⟩:=BK Q;have Ql:=Q.lt;obtain ⟨Xc0,Xc1,Xc2⟩:=BK X;have Xl:=X.lt;go_wp2_with fail;refine (C.out _).mono ?_
       rintro e w' ⟨rfl,rfl⟩;go_wp2;go_ret;exact ⟨Ao (by rw [E.out]),H.out⟩
     · have E:=hid (Sm (s0:=s0) (s:=s) (z:=false) rfl hb);rw [hb] at D1;have D1:=hid D1;clear D2 hb h hz C;go_enter Tryd.func57,Tryd.ntmps57;go_wp2_with fail;refine (V.out _).mono ?_;rintro e w1 ⟨rfl,B⟩;have P:CellsAt w1 w.heap.size (AQ i t x y A n c G m kk fp fq fs fz b):=(((CellsAt.new w _ _ _ rfl).alloc _).alloc _).step B;have Q:CellsAt w1 (w.heap.size+1) (ins s0 p0 z0):=((CellsAt.new _ _ _ _ (by simp)).alloc _).step B;have X:CellsAt w1 (w.heap.size+1+1) (ins s 2 false):=(CellsAt.new _ _ _ _ (by simp)).step B;have H:=hid (Ab (Aa (Aa (Aa (Ac w) _) _) _) B);clear B
       obtain ⟨Pc0,Pc1,Pc2,Pc3,Pc4,Pc5,Pc6,Pc7,Pc8,Pc9,Pc10⟩:=AF P;have Pl:=P.lt;obtain ⟨Qc0,Qc1,Qc2⟩:=BK Q;have Ql:=Q.lt;obtain ⟨Xc0,Xc1,Xc2⟩:=BK X;have Xl:=X.lt;go_wp2_with fail;refine (D1.out _).mono ?_;rintro e w2 ⟨rfl,B⟩;replace P:=P.step B;replace Q:=Q.step B;replace X:=X.step B;replace H:=hid (Ab H.out B);clear Pc0 Pc1 Pc2 Pc3 Pc4 Pc5 Pc6 Pc7 Pc8 Pc9 Pc10 Qc0 Qc1 Qc2 Xc0 Xc1 Xc2 Pl Ql Xl;clear B;obtain ⟨Pc0,Pc1,Pc2,Pc3,Pc4,Pc5,Pc6,Pc7,Pc8,Pc9,Pc10⟩:=AF P;have Pl:=P.lt;obtain ⟨Qc0,Qc1,Qc2⟩:=BK Q;have Ql:=Q.lt;obtain ⟨Xc0,Xc1,Xc2⟩:=BK X;have Xl:=X.lt;go_wp2;go_ret;exact ⟨Ao (by rw [E.out]),H.out⟩
   · have E:=hid (KY (b:=b) (s0:=s0) h (by simp) (by simp [hp]));have C:=hid C;have pd:(p==2)=false:=beq_eq_false_iff_ne.2 hp;clear D1 D2 h hz hp;go_enter Tryd.func57,Tryd.ntmps57;go_wp2_with fail;refine (V.out _).mono ?_;rintro e w1 ⟨rfl,B⟩;have P:CellsAt w1 w.heap.size (AQ i t x y A n c G m kk fp fq fs fz b):=(((CellsAt.new w _ _ _ rfl).alloc _).alloc _).step B;have Q:CellsAt w1 (w.heap.size+1) (ins s0 p0 z0):=((CellsAt.new _ _ _ _ (by simp)).alloc _).step B;have X:CellsAt w1 (w.heap.size+1+1) (ins s p false):=(CellsAt.new _ _ _ _ (by simp)).step B;have H:=hid (Ab (Aa (Aa (Aa (Ac w) _) _) _) B);clear B
     obtain ⟨Pc0,Pc1,Pc2,Pc3,Pc4,Pc5,Pc6,Pc7,Pc8,Pc9,Pc10⟩:=AF P;have Pl:=P.lt;obtain ⟨Qc0,Qc1,Qc2⟩:=BK Q;have Ql:=Q.lt;obtain ⟨Xc0,Xc1,Xc2⟩:=BK X;have Xl:=X.lt;go_wp2_with fail;refine (C.out _).mono ?_;rintro e w' ⟨rfl,rfl⟩;go_wp2;go_ret;exact ⟨Ao (by rw [E.out]),H.out⟩
 · obtain ⟨rfl,rfl⟩:=hz rfl;cases hb:Ip b 2
   · have E:=hid (show FP b s0 0 0 true=A9 (-s0) (-1) 1 by rw [KY (b:=b) (s0:=s0) h (by simp [hb]) (by simp),Int.zero_sub]);rw [hb] at D2;have D2:=hid D2;have C:=hid (fun W=>AO (-s0) (-1) 1 _ W rfl);clear D1 hb h hz;go_enter Tryd.func57,Tryd.ntmps57;go_wp2_with fail;refine (V.out _).mono ?_;rintro e w1 ⟨rfl,B⟩;have P:CellsAt w1 w.heap.size (AQ i t x y A n c G m kk fp fq fs fz b):=(((CellsAt.new w _ _ _ rfl).alloc _).alloc _).step B;have Q:CellsAt w1 (w.heap.size+1) (ins s0 p0 z0):=((CellsAt.new _ _ _ _ (by simp)).alloc _).step B;have X:CellsAt w1 (w.heap.size+1+1) (ins 0 0 true):=(CellsAt.new _ _ _ _ (by simp)).step B
     have H:=hid (Ab (Aa (Aa (Aa (Ac w) _) _) _) B);clear B;obtain ⟨Pc0,Pc1,Pc2,Pc3,Pc4,Pc5,Pc6,Pc7,Pc8,Pc9,Pc10⟩:=AF P;have Pl:=P.lt;obtain ⟨Qc0,Qc1,Qc2⟩:=BK Q;have Ql:=Q.lt;obtain ⟨Xc0,Xc1,Xc2⟩:=BK X;have Xl:=X.lt;go_wp2_with fail;refine (D2.out _).mono ?_;rintro e w2 ⟨rfl,B⟩;replace P:=P.step B;replace Q:=Q.step B;replace X:=X.step B;replace H:=hid (Ab H.out B);clear Pc0 Pc1 Pc2 Pc3 Pc4 Pc5 Pc6 Pc7 Pc8 Pc9 Pc10 Qc0 Qc1 Qc2 Xc0 Xc1 Xc2 Pl Ql Xl;clear B;obtain ⟨Pc0,Pc1,Pc2,Pc3,Pc4,Pc5,Pc6,Pc7,Pc8,Pc9,Pc10⟩:=AF P;have Pl:=P.lt;obtain ⟨Qc0,Qc1,Qc2⟩:=BK Q;have Ql:=Q.lt
     obtain ⟨Xc0,Xc1,Xc2⟩:=BK X;have Xl:=X.lt;go_wp2_with fail;refine (C.out _).mono ?_;rintro e w' ⟨rfl,rfl⟩;go_wp2;go_ret;exact ⟨Ao (by rw [E.out]),H.out⟩
   · have E:=hid (Sk (s0:=s0) (s:=0) (p:=0) (z:=true) rfl hb);rw [hb] at D2;have D2:=hid D2;clear D1 hb h hz C;go_enter Tryd.func57,Tryd.ntmps57;go_wp2_with fail;refine (V.out _).mono ?_;rintro e w1 ⟨rfl,B⟩;have P:CellsAt w1 w.heap.size (AQ i t x y A n c G m kk fp fq fs fz b):=(((CellsAt.new w _ _ _ rfl).alloc _).alloc _).step B;have Q:CellsAt w1 (w.heap.size+1) (ins s0 p0 z0):=((CellsAt.new _ _ _ _ (by simp)).alloc _).step B;have X:CellsAt w1 (w.heap.size+1+1) (ins 0 0 true):=(CellsAt.new _ _ _ _ (by simp)).step B;have H:=hid (Ab (Aa (Aa (Aa (Ac w) _) _) _) B);clear B
     obtain ⟨Pc0,Pc1,Pc2,Pc3,Pc4,Pc5,Pc6,Pc7,Pc8,Pc9,Pc10⟩:=AF P;have Pl:=P.lt;obtain ⟨Qc0,Qc1,Qc2⟩:=BK Q;have Ql:=Q.lt;obtain ⟨Xc0,Xc1,Xc2⟩:=BK X;have Xl:=X.lt;go_wp2_with fail;refine (D2.out _).mono ?_;rintro e w2 ⟨rfl,B⟩;replace P:=P.step B;replace Q:=Q.step B;replace X:=X.step B;replace H:=hid (Ab H.out B);clear Pc0 Pc1 Pc2 Pc3 Pc4 Pc5 Pc6 Pc7 Pc8 Pc9 Pc10 Qc0 Qc1 Qc2 Xc0 Xc1 Xc2 Pl Ql Xl;clear B;obtain ⟨Pc0,Pc1,Pc2,Pc3,Pc4,Pc5,Pc6,Pc7,Pc8,Pc9,Pc10⟩:=AF P;have Pl:=P.lt;obtain ⟨Qc0,Qc1,Qc2⟩:=BK Q;have Ql:=Q.lt;obtain ⟨Xc0,Xc1,Xc2⟩:=BK X;have Xl:=X.lt;go_wp2;go_ret;exact ⟨Ao (by rw [E.out]),H.out⟩
end Go.Proofs.YtkpogcflgghfiaaDoor
namespace Go.Proofs.YtkpogcflgghfiaaDoor
open Go.RowKit
open M
def M.ifB (i t x y:Int) (ws gs:List Bx) (fp fq fs fz b s0 p0:Int) (z0:Bool) (s p:Int) (z:Bool):Bool:=Ch i t x y ws gs fp fq fs fz b&&Ds s0 p0 z0&&FP b s0 s p z
end Go.Proofs.YtkpogcflgghfiaaDoor
