import Derived.Test.YtkpogcflgghfiaaDoorZInS
import Derived.Test.YtkpogcflgghfiaaDoorZVecS
set_option maxRecDepth 100000
set_option maxHeartbeats 8000000
namespace Go.Proofs.YtkpogcflgghfiaaDoor
namespace M
structure St where
 k:Int
 ax:Int
 ay:Int
 fx:Int
 fy:Int
 u:Int
 g:Int
 d:Bool
 o:Bool
def fsX (fx fy u p:Int):Int:=if p=1 then cpX (fx+mu (dirX u) 200) (fy+mu (dirY u) 200) 2000 else if p=2 then mu fx 700 else mu fx 950
def fsY (fx fy u p:Int):Int:=if p=1 then cpY (fx+mu (dirX u) 200) (fy+mu (dirY u) 200) 2000 else if p=2 then mu fy 700 else mu fy 950
def mvA (ok:Bool) (a f:Int):Int:=if ok then a+f else a
def mvF (ok:Bool) (f:Int):Int:=if ok then f else -f.tdiv 2
def mvS (ws:List Bx) (s:St):St :=
 let p:=frB ws (s.ax+s.fx) s.ay
 let x:=mvA p s.ax s.fx
 let q:=frB ws x (s.ay+s.fy)
 ⟨s.k,x,mvA q s.ay s.fy,mvF p s.fx,mvF q s.fy,s.u,s.g,s.d,s.o⟩
def gtB (gs:List Bx) (g x y:Int):Bool:=decide (g<gs.length)&&h0B (gs.getD g.toNat bz).a (gs.getD g.toNat bz).b (gs.getD g.toNat bz).c (gs.getD g.toNat bz).d x y
def gtI (gs:List Bx) (g x y:Int):Int:=if gtB gs g x y then g+1 else g
def drM (ws:List Bx) (s:St) (t p:Int):St:=mvS ws ⟨s.k,s.ax,s.ay,fsX s.fx s.fy ((s.u+t) % 16) p,fsY s.fx s.fy ((s.u+t) % 16) p,(s.u+t) % 16,s.g,s.d,s.o⟩
def drS (ws gs:List Bx) (p q r z:Int) (s:St) (t pw:Int):St :=
 let a:=drM ws s t pw
 if vokB a.ax a.ay then ⟨a.k,a.ax,a.ay,a.fx,a.fy,a.u,gtI gs a.g a.ax a.ay,decide (gtI gs a.g a.ax a.ay=gs.length)&&h0B p q r z a.ax a.ay,a.o⟩
 else ⟨s.k,s.ax,s.ay,s.fx,s.fy,s.u,s.g,s.d,true⟩
def stS (ws gs:List Bx) (p q r z:Int) (s:St) (x:In):St :=
 if s.d||s.o then s
 else if x.z then ⟨s.k+1,s.ax,s.ay,s.fx,s.fy,s.u,s.g,s.d,s.o⟩
 else drS ws gs p q r z ⟨s.k+1,s.ax,s.ay,s.fx,s.fy,s.u,s.g,s.d,s.o⟩ x.s x.p
structure StB (m:Nat) (s:St):Prop where
 a:(-1000000≤s.ax∧s.ax≤1000000)∧(-1000000≤s.ay∧s.ay≤1000000)
 f:(-2000≤s.fx∧s.fx≤2000)∧(-2000≤s.fy∧s.fy≤2000)
 u:0≤s.u∧s.u≤15
 g:0≤s.g∧s.g≤m
 k:0≤s.k∧s.k≤1000000
theorem mu_small {a c:Int} (h1:-2000≤a) (h2:a≤2000) (c0:0≤c) (c1:c≤1000):-2000≤mu a c∧mu a c≤2000:=by
 unfold mu;have p1:a*c≤2000*c:=Int.mul_le_mul_of_nonneg_right h2 c0;have p2:-2000*c≤a*c:=Int.mul_le_mul_of_nonneg_right h1 c0;rcases Int.le_total 0 (a*c) with h | h
 · rw [Int.tdiv_eq_ediv_of_nonneg h];omega
 · have e:(a*c).tdiv 1000=-((-(a*c)).tdiv 1000):=by rw [Int.neg_tdiv,Int.neg_neg]
   rw [e,Int.tdiv_eq_ediv_of_nonneg (by omega)];omega
theorem dir_small {u:Int} (h0:0≤u) (h1:u≤15):(-1000≤dirX u∧dirX u≤1000)∧(-1000≤dirY u∧dirY u≤1000):=by
 have h:u=0∨u=1∨u=2∨u=3∨u=4∨u=5∨u=6∨u=7∨u=8∨u=9∨u=10∨u=11∨u=12∨u=13∨u=14∨u=15:=by omega
 rcases h with rfl | rfl | rfl | rfl | rfl | rfl | rfl | rfl | rfl | rfl | rfl | rfl | rfl | rfl | rfl | rfl<;>decide
theorem push_small {u:Int} (h0:0≤u) (h1:u≤15):(-200≤mu (dirX u) 200∧mu (dirX u) 200≤200)∧(-200≤mu (dirY u) 200∧mu (dirY u) 200≤200):=by
 have h:u=0∨u=1∨u=2∨u=3∨u=4∨u=5∨u=6∨u=7∨u=8∨u=9∨u=10∨u=11∨u=12∨u=13∨u=14∨u=15:=by omega
 rcases h with rfl | rfl | rfl | rfl | rfl | rfl | rfl | rfl | rfl | rfl | rfl | rfl | rfl | rfl | rfl | rfl<;>decide
theorem clamp_small {x y:Int} (h:vokB x y=true):(-2000≤cpX x y 2000∧cpX x y 2000≤2000)∧(-2000≤cpY x y 2000∧cpY x y 2000≤2000):=by
 have hc:cpB x y 2000=true:=cp_yes h (by decide);obtain ⟨X,Y,e1,e2,_,hv,_,hl,_⟩:=cp_true hc;rw [e1,e2];obtain ⟨s,es,_,m1,m2,_⟩:=vl_side hv;rw [vl_yes hv] at es;omega
theorem fs_small {fx fy u p:Int} (x1:-2000≤fx) (x2:fx≤2000) (y1:-2000≤fy) (y2:fy≤2000) (u0:0≤u) (u1:u≤15):(-2000≤fsX fx fy u p∧fsX fx fy u p≤2000)∧(-2000≤fsY fx fy u p∧fsY fx fy u p≤2000):=by
 have q:=push_small u0 u1;unfold fsX fsY;by_cases h1:p=1
 · rw [if_pos h1,if_pos h1];exact clamp_small (vok_mk ⟨⟨by omega,by omega⟩,by omega,by omega⟩)
 · rw [if_neg h1,if_neg h1];by_cases h2:p=2
   · rw [if_pos h2,if_pos h2];exact ⟨mu_small x1 x2 (by omega) (by omega),mu_small y1 y2 (by omega) (by omega)⟩
   · rw [if_neg h2,if_neg h2];exact ⟨mu_small x1 x2 (by omega) (by omega),mu_small y1 y2 (by omega) (by omega)⟩
theorem half_small {f:Int} (h1:-2000≤f) (h2:f≤2000):-2000≤-f.tdiv 2∧-f.tdiv 2≤2000:=by
 rcases Int.le_total 0 f with h | h
 · rw [Int.tdiv_eq_ediv_of_nonneg h];omega
 · have e:f.tdiv 2=-((-f).tdiv 2):=by rw [Int.neg_tdiv,Int.neg_neg]
   rw [e,Int.tdiv_eq_ediv_of_nonneg (by omega)];omega
theorem mvF_small {b:Bool} {f:Int} (h1:-2000≤f) (h2:f≤2000):-2000≤mvF b f∧mvF b f≤2000:=by
 cases b
 · exact half_small h1 h2
 · exact ⟨h1,h2⟩
theorem dr_keep {m:Nat} {ws gs:List Bx} {p q r z:Int} {s:St} {t pw:Int} (h:StB m s) (hm:gs.length=m) (_t1:-1≤t) (_t2:t≤1):StB m (drS ws gs p q r z s t pw):=by
 obtain ⟨⟨⟨a1,a2⟩,a3,a4⟩,⟨⟨f1,f2⟩,f3,f4⟩,⟨u0,u1⟩,⟨g0,g1⟩,hk⟩:=h;unfold drS;simp only;cases hv:vokB (drM ws s t pw).ax (drM ws s t pw).ay
 · exact ⟨⟨⟨a1,a2⟩,a3,a4⟩,⟨⟨f1,f2⟩,f3,f4⟩,⟨u0,u1⟩,⟨g0,g1⟩,hk⟩
 · have v:=(vok_iff _ _).1 hv;have uu:0≤(s.u+t) % 16∧(s.u+t) % 16≤15:=by omega
   have ff:=fs_small (p:=pw) f1 f2 f3 f4 uu.1 uu.2;refine ⟨v,⟨mvF_small ff.1.1 ff.1.2,mvF_small ff.2.1 ff.2.2⟩,uu,?_,hk⟩
   show 0≤gtI gs s.g _ _∧gtI gs s.g _ _≤m
   unfold gtI;split
   · rename_i hg;simp only [gtB,Bool.and_eq_true,decide_eq_true_eq] at hg;omega
   · omega
theorem st_keep {m:Nat} {ws gs:List Bx} {p q r z:Int} {s:St} {x:In} (h:StB m s) (hk:s.k<1000000) (hm:gs.length=m) (t1:-1≤x.s) (t2:x.s≤1):StB m (stS ws gs p q r z s x)∧(stS ws gs p q r z s x).k≤s.k+1:=by
 have h1:StB m ⟨s.k+1,s.ax,s.ay,s.fx,s.fy,s.u,s.g,s.d,s.o⟩:=⟨h.a,h.f,h.u,h.g,by have:=h.k; show 0≤s.k+1∧s.k+1≤1000000; omega⟩;unfold stS;cases hd:(s.d||s.o)
 · cases hz:x.z
   · refine ⟨dr_keep h1 hm t1 t2,?_⟩;simp only [Bool.false_eq_true,if_false];unfold drS;simp only;split
     · exact Int.le_refl _
     · exact Int.le_refl _
   · exact ⟨h1,Int.le_refl _⟩
 · exact ⟨h,by simp only [if_true]; omega⟩
end M
end Go.Proofs.YtkpogcflgghfiaaDoor
