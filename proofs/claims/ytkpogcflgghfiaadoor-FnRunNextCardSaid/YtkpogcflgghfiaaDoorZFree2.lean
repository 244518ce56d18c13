import Derived.Test.YtkpogcflgghfiaaDoorZLevS
import Derived.Test.YtkpogcflgghfiaaDoorZInS
import Derived.Test.YtkpogcflgghfiaaDoorZVecS
set_option linter.all false
set_option maxRecDepth 100000
set_option maxHeartbeats 8000000
open Go.Lib
namespace Go.Proofs.YtkpogcflgghfiaaDoor
open Go.RowKit
open M
theorem JU (a b c d x y r:Int) (w:World) (hb:CO a b c d=true) (x1:-2000000≤x) (x2:x≤2000000) (y1:-2000000≤y) (y2:y≤2000000) (r0:0≤r) (r1:r≤1000000):Calls Tryd.prog 76 #[box a b c d,Bl x y,.int .i64 r] w fun e w'=>e=.returned (.bool (LY a b c d x y r))∧Below w.heap.size w w':=by
 obtain ⟨⟨⟨a1,a2⟩,b1,b2⟩,⟨⟨c1,c2⟩,d1,d2⟩,ac,bd⟩:=(Ed a b c d).1 hb;have n1:-1000000≤max a (min x c)∧max a (min x c)≤1000000:=by omega
 have n2:-1000000≤max b (min y d)∧max b (min y d)≤1000000:=by omega
 have E:=hid (show LY a b c d x y r=decide ((x-max a (min x c))*(x-max a (min x c))+(y-max b (min y d))*(y-max b (min y d))≤r*r) from rfl);have Q:=hid (fun W=>G6 a b c d x y W);clear hb;generalize max a (min x c)=X at *;generalize max b (min y d)=Y at *;have m1:=Ce (a:=x-X) (b:=x-X) (by omega) (by omega) (by omega) (by omega);have m2:=Ce (a:=y-Y) (b:=y-Y) (by omega) (by omega) (by omega) (by omega);have m3:=Ce (a:=r) (b:=r) (by omega) (by omega) (by omega) (by omega);go_enter Tryd.func76,Tryd.ntmps76;go_wp2_with fail;refine (Q.out _).mono ?_;rintro e w1 ⟨rfl,B1⟩;obtain ⟨hc1,hf1⟩:=Aw B1
 have l0:w.heap.size<w1.heap.size:=by have:=B1.size; simp at this; omega
 have l1:w.heap.size+1<w1.heap.size:=by have:=B1.size; simp at this; omega
 have H1:=hid (Ab (Aa (Aa (Ac w) _) _) B1);clear B1 Q;go_wp2;go_ret;exact ⟨Ao (by rw [E.out]),Aa H1.out _⟩
theorem FS (i t x y:Int) (A:Option Addr) (n c:Nat) (G:Option Addr) (m k:Nat) (p q r s b:Int) (ws:List Bx) (u v:Int) (w:World) (I:Boxes w A n ws) (ok:Di ws=true) (u1:-2000000≤u) (u2:u≤2000000) (v1:-2000000≤v) (v2:v≤2000000) (hn:n≤281474976710656) :
 Calls Tryd.prog 56 #[CN i t x y A n c G m k p q r s b,Bl u v] w fun e w'=>e=.returned (.bool (Cp ws u v))∧Below w.heap.size w w':=by
 have hl:=hid I.1;have I:=hid I;have ok:=hid ok;go_enter Tryd.func56,Tryd.ntmps56;go_wp2
 go_loopw [5] (Mi w n ws u v (AQ i t x y A n c G m k p q r s b)) (fun i _=>n-(intOf i).toNat)
 case atStart=>exact ⟨0,Nat.zero_le _,rfl,rfl,(CellsAt.new w _ _ _ rfl).alloc _,PCell.new _ _ _ _ _ (by simp),Aa (Aa (Ac w) _) _⟩
 case round =>
  obtain ⟨j,hj,rfl,ha,L,P,B⟩:=hrel;have ha:=hid ha;have l4:=L.cell 4 _ rfl;have ll:=L.lt;have pl:=P.lt;by_cases hlt:j<n
  · obtain ⟨bb,off,rfl,hb,hcell⟩:=(I.out.step B).2 (by omega);have Z:=(hcell j hlt).lie hb;have hkl:j<ws.length:=by have:=hl.out; omega
    have HS:=Fs (f:=fun z=>!(z.hit u v)) hkl ha.out;have HN:=Jb (f:=fun z=>!(z.hit u v)) hkl;have HO:=Jc (f:=Bx.ok) ok.out hkl;have Hb:=hid B;clear hcell hkl B;generalize ws.getD j bz=z at *;obtain ⟨za,zb,zc,zd⟩:=z;simp only at Z;have C:=hid (fun W:World=>JU za zb zc zd u v 500 W HO u1 u2 v1 v2 (by omega) (by omega));cases hz:LY za zb zc zd u v 500
    · have E:=hid (HS (show (!(LY za zb zc zd u v 500))=true by rw [hz]; rfl));clear HN HS HO;rw [hz] at C;go_wp2_with fail
      go_region_held3 (fun w'=>(w'.cell? ⟨w.heap.size,4,none⟩=some (.slice (some ⟨bb,off,none⟩) n c))∧(w'.cell? ⟨bb,off+j*4,none⟩=some (.int .i64 za)∧w'.cell? ⟨bb,off+j*4+1,none⟩=some (.int .i64 zb)∧w'.cell? ⟨bb,off+j*4+2,none⟩=some (.int .i64 zc)∧w'.cell? ⟨bb,off+j*4+3,none⟩=some (.int .i64 zd))∧(w'.cell? ⟨w.heap.size+1,0,none⟩=some (.int .i64 u)∧w'.cell? ⟨w.heap.size+1,1,none⟩=some (.int .i64 v)))
       (exact ⟨Eh (by repeat (first | with_reducible exact L | with_reducible refine CellsAt.far ?_ (by omega) _ _ | with_reducible refine CellsAt.alloc ?_ _ | with_reducible refine CellsAt.drew ?_)),BP (by repeat (first | with_reducible exact Z | with_reducible refine BoxIn.far ?_ (by omega) _ _ | with_reducible refine BoxIn.alloc ?_ _ | with_reducible refine BoxIn.drew ?_)),DU (by repeat (first | with_reducible exact P | with_reducible refine PCell.far ?_ (by omega) _ _ | with_reducible refine PCell.alloc ?_ _ | with_reducible refine PCell.drew ?_))⟩)
       ((go_at_call 76; (with_reducible refine (C.out _).mono ?_); rintro e wn ⟨rfl,Bn⟩; have L:=CellsAt.step (by first | with_reducible exact L | with_reducible exact L.drew) Bn; have P:=PCell.step (by first | with_reducible exact P | with_reducible exact P.drew) Bn; have Z:=BoxIn.step (by first | with_reducible exact Z | with_reducible exact Z.drew) Bn; have Hb:=hid (Ab (by first | with_reducible exact Hb.out | with_reducible exact Ay Hb.out) Bn); clear Bn))
      all_goals
       go_wp2
       go_roundw
       case rel=>exact ⟨j+1,by omega,by go_num,E.out,L,P,Hb.out⟩
       case measure=>simp [intOf]; omega
    · have E:=hid (HN (show (!(LY za zb zc zd u v 500))=false by rw [hz]; rfl));clear HN HS HO;rw [hz] at C;go_wp2_with fail
      go_region_held3 (fun w'=>(w'.cell? ⟨w.heap.size,4,none⟩=some (.slice (some ⟨bb,off,none⟩) n c))∧(w'.cell? ⟨bb,off+j*4,none⟩=some (.int .i64 za)∧w'.cell? ⟨bb,off+j*4+1,none⟩=some (.int .i64 zb)∧w'.cell? ⟨bb,off+j*4+2,none⟩=some (.int .i64 zc)∧w'.cell? ⟨bb,off+j*4+3,none⟩=some (.int .i64 zd))∧(w'.cell? ⟨w.heap.size+1,0,none⟩=some (.int .i64 u)∧w'.cell? ⟨w.heap.size+1,1,none⟩=some (.int .i64 v)))
       (exact ⟨Eh (by repeat (first | with_reducible exact L | with_reducible refine CellsAt.far ?_ (by omega) _ _ | with_reducible refine CellsAt.alloc ?_ _ | with_reducible refine CellsAt.drew ?_)),BP (by repeat (first | with_reducible exact Z | with_reducible refine BoxIn.far ?_ (by omega) _ _ | with_reducible refine BoxIn.alloc ?_ _ | with_reducible refine BoxIn.drew ?_)),DU (by repeat (first | with_reducible exact P | with_reducible refine PCell.far ?_ (by omega) _ _ | with_reducible refine PCell.alloc ?_ _ | with_reducible refine PCell.drew ?_))⟩)
       ((go_at_call 76; (with_reducible refine (C.out _).mono ?_); rintro e wn ⟨rfl,Bn⟩; have L:=CellsAt.step (by first | with_reducible exact L | with_reducible exact L.drew) Bn; have P:=PCell.step (by first | with_reducible exact P | with_reducible exact P.drew) Bn; have Z:=BoxIn.step (by first | with_reducible exact Z | with_reducible exact Z.drew) Bn; have Hb:=hid (Ab (by first | with_reducible exact Hb.out | with_reducible exact Ay Hb.out) Bn); clear Bn))
      all_goals
       go_wp2;go_ret;exact ⟨Ao (by unfold Cp; rw [E.out]),Hb.out⟩
  · have E:=hid (GQ (f:=fun z=>!(z.hit u v)) (by have:=hl.out; omega) ha.out);have B:=hid B;go_wp2;go_ret;exact ⟨Ao (by unfold Cp; rw [E.out]),B.out⟩
end Go.Proofs.YtkpogcflgghfiaaDoor
namespace Go.Proofs.YtkpogcflgghfiaaDoor
namespace M
structure St where
 k:Int
 ax:Int
 ay:Int
 fx:Int
 fy:Int
 u:Int
 g:Int
 d:Bool
 o:Bool
def EI (fx fy u p:Int):Int:=if p=1 then JI (fx+mu (BF u) 200) (fy+mu (BG u) 200) 2000 else if p=2 then mu fx 700 else mu fx 950
def EJ (fx fy u p:Int):Int:=if p=1 then JJ (fx+mu (BF u) 200) (fy+mu (BG u) 200) 2000 else if p=2 then mu fy 700 else mu fy 950
def Im (ok:Bool) (a f:Int):Int:=if ok then a+f else a
def L6 (ok:Bool) (f:Int):Int:=if ok then f else -f.tdiv 2
def FT (ws:List Bx) (s:St):St :=
 let p:=Cp ws (s.ax+s.fx) s.ay
 let x:=Im p s.ax s.fx
 let q:=Cp ws x (s.ay+s.fy)
 ⟨s.k,x,Im q s.ay s.fy,L6 p s.fx,L6 q s.fy,s.u,s.g,s.d,s.o⟩
def Qa (gs:List Bx) (g x y:Int):Bool:=decide (g<gs.length)&&Dh (gs.getD g.toNat bz).a (gs.getD g.toNat bz).b (gs.getD g.toNat bz).c (gs.getD g.toNat bz).d x y
def EH (gs:List Bx) (g x y:Int):Int:=if Qa gs g x y then g+1 else g
def Rq (ws:List Bx) (s:St) (t p:Int):St:=FT ws ⟨s.k,s.ax,s.ay,EI s.fx s.fy ((s.u+t) % 16) p,EJ s.fx s.fy ((s.u+t) % 16) p,(s.u+t) % 16,s.g,s.d,s.o⟩
def GG (ws gs:List Bx) (p q r z:Int) (s:St) (t pw:Int):St :=
 let a:=Rq ws s t pw
 if As a.ax a.ay then ⟨a.k,a.ax,a.ay,a.fx,a.fy,a.u,EH gs a.g a.ax a.ay,decide (EH gs a.g a.ax a.ay=gs.length)&&Dh p q r z a.ax a.ay,a.o⟩
 else ⟨s.k,s.ax,s.ay,s.fx,s.fy,s.u,s.g,s.d,true⟩
def stS (ws gs:List Bx) (p q r z:Int) (s:St) (x:In):St :=
 if s.d||s.o then s
 else if x.z then ⟨s.k+1,s.ax,s.ay,s.fx,s.fy,s.u,s.g,s.d,s.o⟩
 else GG ws gs p q r z ⟨s.k+1,s.ax,s.ay,s.fx,s.fy,s.u,s.g,s.d,s.o⟩ x.s x.p
structure StB (m:Nat) (s:St):Prop where
 a:(-1000000≤s.ax∧s.ax≤1000000)∧(-1000000≤s.ay∧s.ay≤1000000)
 f:(-2000≤s.fx∧s.fx≤2000)∧(-2000≤s.fy∧s.fy≤2000)
 u:0≤s.u∧s.u≤15
 g:0≤s.g∧s.g≤m
 k:0≤s.k∧s.k≤1000000
theorem Dw {a c:Int} (h1:-2000≤a) (h2:a≤2000) (c0:0≤c) (c1:c≤1000):-2000≤mu a c∧mu a c≤2000:=by
 unfold mu;have p1:a*c≤2000*c:=Int.mul_le_mul_of_nonneg_right h2 c0;have p2:-2000*c≤a*c:=Int.mul_le_mul_of_nonneg_right h1 c0;rcases Int.le_total 0 (a*c) with h | h
 · rw [Int.tdiv_eq_ediv_of_nonneg h];omega
 · have e:(a*c).tdiv 1000=-((-(a*c)).tdiv 1000):=by rw [Int.neg_tdiv,Int.neg_neg]
   rw [e,Int.tdiv_eq_ediv_of_nonneg (by omega)];omega
theorem FU {u:Int} (h0:0≤u) (h1:u≤15):(-1000≤BF u∧BF u≤1000)∧(-1000≤BG u∧BG u≤1000):=by
 have h:u=0∨u=1∨u=2∨u=3∨u=4∨u=5∨u=6∨u=7∨u=8∨u=9∨u=10∨u=11∨u=12∨u=13∨u=14∨u=15:=by omega
 rcases h with rfl | rfl | rfl | rfl | rfl | rfl | rfl | rfl | rfl | rfl | rfl | rfl | rfl | rfl | rfl | rfl<;>decide
theorem C7 {u:Int} (h0:0≤u) (h1:u≤15):(-200≤mu (BF u) 200∧mu (BF u) 200≤200)∧(-200≤mu (BG u) 200∧mu (BG u) 200≤200):=by
 have h:u=0∨u=1∨u=2∨u=3∨u=4∨u=5∨u=6∨u=7∨u=8∨u=9∨u=10∨u=11∨u=12∨u=13∨u=14∨u=15:=by omega
 rcases h with rfl | rfl | rfl | rfl | rfl | rfl | rfl | rfl | rfl | rfl | rfl | rfl | rfl | rfl | rfl | rfl<;>decide
theorem JV {x y:Int} (h:As x y=true):(-2000≤JI x y 2000∧JI x y 2000≤2000)∧(-2000≤JJ x y 2000∧JJ x y 2000≤2000):=by
 have hc:KO x y 2000=true:=LR h (by decide);obtain ⟨X,Y,e1,e2,_,hv,_,hl,_⟩:=MO hc;rw [e1,e2];obtain ⟨s,es,_,m1,m2,_⟩:=MR hv;rw [Fh hv] at es;omega
theorem Dx {fx fy u p:Int} (x1:-2000≤fx) (x2:fx≤2000) (y1:-2000≤fy) (y2:fy≤2000) (u0:0≤u) (u1:u≤15):(-2000≤EI fx fy u p∧EI fx fy u p≤2000)∧(-2000≤EJ fx fy u p∧EJ fx fy u p≤2000):=by
 have q:=C7 u0 u1;unfold EI EJ;by_cases h1:p=1
 · rw [if_pos h1,if_pos h1];exact JV (Cw ⟨⟨by omega,by omega⟩,by omega,by omega⟩)
 · rw [if_neg h1,if_neg h1];by_cases h2:p=2
   · rw [if_pos h2,if_pos h2];exact ⟨Dw x1 x2 (by omega) (by omega),Dw y1 y2 (by omega) (by omega)⟩
   · rw [if_neg h2,if_neg h2];exact ⟨Dw x1 x2 (by omega) (by omega),Dw y1 y2 (by omega) (by omega)⟩
theorem C8 {f:Int} (h1:-2000≤f) (h2:f≤2000):-2000≤-f.tdiv 2∧-f.tdiv 2≤2000:=by
 rcases Int.le_total 0 f with h | h
 · rw [Int.tdiv_eq_ediv_of_nonneg h];omega
 · have e:f.tdiv 2=-((-f).tdiv 2):=by rw [Int.neg_tdiv,Int.neg_neg]
   rw [e,Int.tdiv_eq_ediv_of_nonneg (by omega)];omega
theorem Iy {b:Bool} {f:Int} (h1:-2000≤f) (h2:f≤2000):-2000≤L6 b f∧L6 b f≤2000:=by
 cases b
 · exact C8 h1 h2
 · exact ⟨h1,h2⟩
theorem Qq {m:Nat} {ws gs:List Bx} {p q r z:Int} {s:St} {t pw:Int} (h:StB m s) (hm:gs.length=m) (_t1:-1≤t) (_t2:t≤1):StB m (GG ws gs p q r z s t pw):=by
 obtain ⟨⟨⟨a1,a2⟩,a3,a4⟩,⟨⟨f1,f2⟩,f3,f4⟩,⟨u0,u1⟩,⟨g0,g1⟩,hk⟩:=h;unfold GG;simp only;cases hv:As (Rq ws s t pw).ax (Rq ws s t pw).ay
 · exact ⟨⟨⟨a1,a2⟩,a3,a4⟩,⟨⟨f1,f2⟩,f3,f4⟩,⟨u0,u1⟩,⟨g0,g1⟩,hk⟩
 · have v:=(AV _ _).1 hv;have uu:0≤(s.u+t) % 16∧(s.u+t) % 16≤15:=by omega
   have ff:=Dx (p:=pw) f1 f2 f3 f4 uu.1 uu.2;refine ⟨v,⟨Iy ff.1.1 ff.1.2,Iy ff.2.1 ff.2.2⟩,uu,?_,hk⟩
   show 0≤EH gs s.g _ _∧EH gs s.g _ _≤m
   unfold EH;split
   · rename_i hg;simp only [Qa,Bool.and_eq_true,decide_eq_true_eq] at hg;omega
   · omega
theorem L8 {m:Nat} {ws gs:List Bx} {p q r z:Int} {s:St} {x:In} (h:StB m s) (hk:s.k<1000000) (hm:gs.length=m) (t1:-1≤x.s) (t2:x.s≤1):StB m (stS ws gs p q r z s x)∧(stS ws gs p q r z s x).k≤s.k+1:=by
 have h1:StB m ⟨s.k+1,s.ax,s.ay,s.fx,s.fy,s.u,s.g,s.d,s.o⟩:=⟨h.a,h.f,h.u,h.g,by have:=h.k; show 0≤s.k+1∧s.k+1≤1000000; omega⟩;unfold stS;cases hd:(s.d||s.o)
 · cases hz:x.z
   · refine ⟨Qq h1 hm t1 t2,?_⟩;simp only [Bool.false_eq_true,if_false];unfold GG;simp only;split
     · exact Int.le_refl _
     · exact Int.le_refl _
   · exact ⟨h1,Int.le_refl _⟩
 · exact ⟨h,by simp only [if_true]; omega⟩
end M
end Go.Proofs.YtkpogcflgghfiaaDoor
