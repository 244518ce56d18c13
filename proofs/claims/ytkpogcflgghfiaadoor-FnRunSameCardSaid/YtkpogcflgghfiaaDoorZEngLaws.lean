import Derived.Test.YtkpogcflgghfiaaDoorZEngC
import Derived.Test.YtkpogcflgghfiaaDoorZLevS
set_option linter.all false
set_option maxRecDepth 100000
set_option maxHeartbeats 8000000
namespace Go.Proofs.YtkpogcflgghfiaaDoor
open Go.RowKit
open M
end Go.Proofs.YtkpogcflgghfiaaDoor
namespace Go.Proofs.YtkpogcflgghfiaaDoor
namespace M
theorem L9 {a c:Int} (h:c.natAbs≤1000):(mu a c).natAbs≤a.natAbs:=by
 unfold mu;rw [Int.natAbs_tdiv,Int.natAbs_mul];exact Nat.div_le_of_le_mul (Nat.le_trans (Nat.mul_le_mul_left _ h) (Nat.le_of_eq (Nat.mul_comm _ _)))
theorem Qu (f:Int):(-f.tdiv 2).natAbs≤f.natAbs:=by
 rw [Int.natAbs_neg,Int.natAbs_tdiv];exact Nat.div_le_self _ _
theorem Oi (b:Bool) (f:Int):(Ma b f).natAbs≤f.natAbs:=by
 cases b
 · exact Qu f
 · exact Nat.le_refl _
theorem Ru {x y x' y':Int} (hx:x'.natAbs≤x.natAbs) (hy:y'.natAbs≤y.natAbs):vl x' y'≤vl x y:=by
 have a:=BO hx;have b:=BO hy;have c:=BO (a:=0) (b:=x') (by omega);have d:=BO (a:=0) (b:=y') (by omega);exact QK (by omega) (by omega)
theorem Rv {fx fy u p:Int} (hp:p≠1):(EV fx fy u p).natAbs≤fx.natAbs∧(EW fx fy u p).natAbs≤fy.natAbs:=by
 unfold EV EW;rw [if_neg hp,if_neg hp];by_cases h2:p=2
 · rw [if_pos h2,if_pos h2];exact ⟨L9 (by decide),L9 (by decide)⟩
 · rw [if_neg h2,if_neg h2];exact ⟨L9 (by decide),L9 (by decide)⟩
theorem Sb {fx fy u p:Int} (hv:vl fx fy≤2000) (x1:-2000≤fx) (x2:fx≤2000) (y1:-2000≤fy) (y2:fy≤2000) (u0:0≤u) (u1:u≤15):vl (EV fx fy u p) (EW fx fy u p)≤2000:=by
 by_cases hp:p=1
 · have q:=Db u0 u1;have hc:KT (fx+mu (BG u) 200) (fy+mu (BH u) 200) 2000=true:=LW (Cz ⟨⟨by omega,by omega⟩,by omega,by omega⟩) (by decide);unfold EV EW;rw [if_pos hp,if_pos hp];obtain ⟨X,Y,e1,e2,_,_,_,hl,_⟩:=MX hc;rw [e1,e2];exact hl
 · have q:=Rv (fx:=fx) (fy:=fy) (u:=u) hp;exact Int.le_trans (Ru q.1 q.2) hv
theorem Oj {ws:List Bx} {k ax ay f1 f2 u g X Y P Q:Int} {d o:Bool} (e:F1 ws ⟨k,ax,ay,f1,f2,u,g,d,o⟩=⟨k,X,Y,P,Q,u,g,d,o⟩) (hf:Cv ws ax ay=true) :
 Cv ws X Y=true∧(X=ax∨X=ax+f1)∧(Y=ay∨Y=ay+f2)∧P.natAbs≤f1.natAbs∧Q.natAbs≤f2.natAbs∧(ws.length=0→X=ax+f1∧Y=ay+f2∧P=f1∧Q=f2):=by
 unfold F1 at e;simp only [St.mk.injEq,true_and,and_true] at e;obtain ⟨e1,e2,e3,e4⟩:=e;refine ⟨?_,?_,?_,by rw [← e3]; exact Oi _ _,by rw [← e4]; exact Oi _ _,?_⟩
 · cases p:Cv ws (ax+f1) ay
   · rw [p] at e1 e2;replace e1:ax=X:=e1;subst e1;cases q:Cv ws ax (ay+f2)
     · simp only [Is,Bool.false_eq_true,if_false,q] at e2;subst e2;exact hf
     · simp only [Is,Bool.false_eq_true,if_false,q,if_true] at e2;subst e2;exact q
   · rw [p] at e1 e2;replace e1:ax+f1=X:=e1;subst e1;cases q:Cv ws (ax+f1) (ay+f2)
     · simp only [Is,if_true,q,Bool.false_eq_true,if_false] at e2;subst e2;exact p
     · simp only [Is,if_true,q] at e2;subst e2;exact q
 · rw [← e1];unfold Is;split
   · exact .inr rfl
   · exact .inl rfl
 · rw [← e2];generalize Cv ws _ (ay+f2)=q;cases q
   · exact .inl rfl
   · exact .inr rfl
 · intro h;obtain rfl:=List.eq_nil_of_length_eq_zero h;refine ⟨e1.symm,e2.symm,e3.symm,e4.symm⟩
theorem Om (gs:List Bx) (g X Y:Int):EU gs g X Y=g∨(EU gs g X Y=g+1∧g<gs.length∧Dm (gs.getD g.toNat bz).a (gs.getD g.toNat bz).b (gs.getD g.toNat bz).c (gs.getD g.toNat bz).d X Y=true):=by
 unfold EU;cases h:Qf gs g X Y
 · exact .inl rfl
 · simp only [Qf,Bool.and_eq_true,decide_eq_true_eq] at h;exact .inr ⟨rfl,h.1,h.2⟩
theorem On (ws gs:List Bx) (fp fq fs fz k ax ay fx fy u g:Int) (d o:Bool) (s p:Int) (z:Bool) :
 ((d||o)=true∧stS ws gs fp fq fs fz ⟨k,ax,ay,fx,fy,u,g,d,o⟩ ⟨s,p,z⟩=⟨k,ax,ay,fx,fy,u,g,d,o⟩) ∨
 (d=false∧o=false∧z=true∧stS ws gs fp fq fs fz ⟨k,ax,ay,fx,fy,u,g,d,o⟩ ⟨s,p,z⟩=⟨k+1,ax,ay,fx,fy,u,g,false,false⟩) ∨
 (d=false∧o=false∧z=false∧stS ws gs fp fq fs fz ⟨k,ax,ay,fx,fy,u,g,d,o⟩ ⟨s,p,z⟩=⟨k+1,ax,ay,fx,fy,u,g,false,true⟩) ∨
 (d=false∧o=false∧z=false∧∃ X Y P Q,Au X Y=true∧F1 ws ⟨k+1,ax,ay,EV fx fy ((u+s) % 16) p,EW fx fy ((u+s) % 16) p,(u+s) % 16,g,false,false⟩=⟨k+1,X,Y,P,Q,(u+s) % 16,g,false,false⟩ ∧
  stS ws gs fp fq fs fz ⟨k,ax,ay,fx,fy,u,g,d,o⟩ ⟨s,p,z⟩=⟨k+1,X,Y,P,Q,(u+s) % 16,EU gs g X Y,decide (EU gs g X Y=gs.length)&&Dm fp fq fs fz X Y,false⟩):=by
 cases d
 · cases o
   · refine .inr ?_;cases z
     · refine .inr ?_;have e:stS ws gs fp fq fs fz ⟨k,ax,ay,fx,fy,u,g,false,false⟩ ⟨s,p,false⟩=GK ws gs fp fq fs fz ⟨k+1,ax,ay,fx,fy,u,g,false,false⟩ s p:=by simp [stS]
       have e2:Rw ws ⟨k+1,ax,ay,fx,fy,u,g,false,false⟩ s p=F1 ws ⟨k+1,ax,ay,EV fx fy ((u+s) % 16) p,EW fx fy ((u+s) % 16) p,(u+s) % 16,g,false,false⟩:=rfl;obtain ⟨X,Y,P,Q,e3⟩:∃ X Y P Q,F1 ws ⟨k+1,ax,ay,EV fx fy ((u+s) % 16) p,EW fx fy ((u+s) % 16) p,(u+s) % 16,g,false,false⟩=⟨k+1,X,Y,P,Q,(u+s) % 16,g,false,false⟩:=⟨_,_,_,_,rfl⟩;cases hv:Au X Y
       · refine .inl ⟨rfl,rfl,rfl,?_⟩;rw [e];unfold GK;rw [e2,e3];simp [hv]
       · refine .inr ⟨rfl,rfl,rfl,X,Y,P,Q,hv,e3,?_⟩;rw [e];unfold GK;rw [e2,e3];simp [hv]
     · exact .inl ⟨rfl,rfl,rfl,by simp [stS]⟩
   · exact .inl ⟨rfl,by simp [stS]⟩
 · exact .inl ⟨rfl,by simp [stS]⟩
theorem GR (k ax ay fx fy u g:Int) (d o:Bool):ownB k ax ay fx fy u g d o=true↔(0≤k∧k≤60)∧Au ax ay=true∧Au fx fy=true∧vl fx fy≤2000∧(0≤u∧u≤15)∧(0≤g∧g≤3)∧(d&&o)=false:=by
 simp only [ownB,Ba,Bool.and_eq_true,decide_eq_true_eq,Bool.not_eq_true']
theorem Jb (i t x y:Int) (ws gs:List Bx) (fp fq fs fz b k ax ay fx fy u g:Int) (d o:Bool):evB i t x y ws gs fp fq fs fz b k ax ay fx fy u g d o=true↔Cm i t x y ws gs fp fq fs fz b=true∧ownB k ax ay fx fy u g d o=true∧k≤t∧g≤gs.length∧Cv ws ax ay=true∧(d=true→g=gs.length):=by
 simp only [evB,Bool.and_eq_true,decide_eq_true_eq,Bool.or_eq_true,Bool.not_eq_true'];cases d<;>simp
theorem Hk (i t x y:Int) (ws gs:List Bx) (fp fq fs fz b k ax ay fx fy u g:Int) (d o:Bool) (s p:Int) (z:Bool):eoB i t x y ws gs fp fq fs fz b k ax ay fx fy u g d o s p z=true↔evB i t x y ws gs fp fq fs fz b k ax ay fx fy u g d o=true∧Dw s p z=true∧(k<t∨(d||o)=true):=by
 simp only [eoB,Bool.and_eq_true];cases d<;>cases o<;>simp
theorem Oo {i t x y:Int} {ws gs:List Bx} {fp fq fs fz b k ax ay fx fy u g:Int} {d o:Bool} {s p:Int} {z:Bool} (h:eoB i t x y ws gs fp fq fs fz b k ax ay fx fy u g d o s p z=true):esS i t x y ws gs fp fq fs fz b k ax ay fx fy u g d o s p z=stS ws gs fp fq fs fz ⟨k,ax,ay,fx,fy,u,g,d,o⟩ ⟨s,p,z⟩:=by simp [esS,h]
section
variable {i t x y:Int} {ws gs:List Bx} {fp fq fs fz b k ax ay fx fy u g:Int} {d o:Bool} {s p:Int} {z:Bool} {K X Y P Q U V:Int} {D O:Bool}
structure Tick (t:Int) (ws gs:List Bx) (fp fq fs fz k ax ay fx fy u g:Int) (d o:Bool) (s p:Int) (z:Bool) (K X Y P Q U V:Int) (D O:Bool):Prop where
 stop:(d||o)=true→K=k∧X=ax∧Y=ay∧P=fx∧Q=fy∧U=u∧V=g∧D=d∧O=o
 tick:(d||o)=false→K=k+1
 vok:Au X Y=true
 free:Cv ws X Y=true
 len:vl P Q≤2000
 near:(-2000≤X-ax∧X-ax≤2000)∧(-2000≤Y-ay∧Y-ay≤2000)
 gate:V=g∨(V=g+1∧g<gs.length∧Dm (gs.getD g.toNat bz).a (gs.getD g.toNat bz).b (gs.getD g.toNat bz).c (gs.getD g.toNat bz).d X Y=true)
 fin:d=false→D=true→V=gs.length∧Dm fp fq fs fz X Y=true
 over:o=false→O=true→X=ax∧Y=ay∧P=fx∧Q=fy∧U=u∧V=g∧D=d
 turn:(d||o)=false→O=false→U=(u+s) % 16
 roll:p≠1→P.natAbs≤fx.natAbs∧Q.natAbs≤fy.natAbs
 move:ws.length=0→(d||o)=false→O=false→z=false→X=ax+P∧Y=ay+Q∧P=EV fx fy ((u+s) % 16) p∧Q=EW fx fy ((u+s) % 16) p
 wait:(d||o)=false→z=true→K=k+1∧X=ax∧Y=ay∧P=fx∧Q=fy∧U=u∧V=g∧D=d∧O=o
 both:(D&&O)=false
 dgs:D=true→V=gs.length
 fr:(-2000≤P∧P≤2000)∧(-2000≤Q∧Q≤2000)
 ur:0≤U∧U≤15
 gr:0≤V∧V≤gs.length
theorem Jc (h:eoB i t x y ws gs fp fq fs fz b k ax ay fx fy u g d o s p z=true) (e:esS i t x y ws gs fp fq fs fz b k ax ay fx fy u g d o s p z=⟨K,X,Y,P,Q,U,V,D,O⟩):Tick t ws gs fp fq fs fz k ax ay fx fy u g d o s p z K X Y P Q U V D O:=by
 obtain ⟨hev,hin,hrun⟩:=(Hk ..).1 h;have hB:=Rt hev rfl;obtain ⟨hlv,how,hkt,hg,hfr,hdg⟩:=(Jb ..).1 hev;obtain ⟨hk,hat,hfa,hlen,hu,hg3,hdo⟩:=(GR ..).1 how;obtain ⟨_,⟨⟨f1,f2⟩,f3,f4⟩,_,_,_⟩:=hB;simp only at f1 f2 f3 f4;have hz:=(EY hin).2.2;rw [Oo h] at e;rcases On ws gs fp fq fs fz k ax ay fx fy u g d o s p z with ⟨h1,e1⟩ | ⟨rfl,rfl,rfl,e1⟩ | ⟨rfl,rfl,rfl,e1⟩ | ⟨rfl,rfl,rfl,A,B,C,E,hv,em,e1⟩
 · rw [e1] at e;injection e with a1 a2 a3 a4 a5 a6 a7 a8 a9;subst a1 a2 a3 a4 a5 a6 a7 a8 a9;exact ⟨fun _=>⟨rfl,rfl,rfl,rfl,rfl,rfl,rfl,rfl,rfl⟩,fun c=>(by rw [h1] at c; cases c),hat,hfr,hlen,by omega,.inl rfl,fun c c'=>(by rw [c] at c'; cases c'),fun c c'=>(by rw [c] at c'; cases c'),fun c=>(by rw [h1] at c; cases c),fun _=>⟨Nat.le_refl _,Nat.le_refl _⟩,fun _ c=>(by rw [h1] at c; cases c),fun c=>(by rw [h1] at c; cases c),hdo,hdg,⟨⟨f1,f2⟩,f3,f4⟩,hu,by omega⟩
 · rw [e1] at e;injection e with a1 a2 a3 a4 a5 a6 a7 a8 a9;subst a1 a2 a3 a4 a5 a6 a7 a8 a9;obtain ⟨rfl,rfl⟩:=hz rfl;exact ⟨fun c=>(by cases c),fun _=>rfl,hat,hfr,hlen,by omega,.inl rfl,fun _ c=>(by cases c),fun _ c=>(by cases c),fun _ _=>(by omega),fun _=>⟨Nat.le_refl _,Nat.le_refl _⟩,fun _ _ _ c=>(by cases c),fun _ _=>⟨rfl,rfl,rfl,rfl,rfl,rfl,rfl,rfl,rfl⟩,rfl,fun c=>(by cases c),⟨⟨f1,f2⟩,f3,f4⟩,hu,by omega⟩
 · rw [e1] at e;injection e with a1 a2 a3 a4 a5 a6 a7 a8 a9;subst a1 a2 a3 a4 a5 a6 a7 a8 a9;exact ⟨fun c=>(by cases c),fun _=>rfl,hat,hfr,hlen,by omega,.inl rfl,fun _ c=>(by cases c),fun _ _=>⟨rfl,rfl,rfl,rfl,rfl,rfl,rfl⟩,fun _ c=>(by cases c),fun _=>⟨Nat.le_refl _,Nat.le_refl _⟩,fun _ _ c=>(by cases c),fun _ c=>(by cases c),rfl,fun c=>(by cases c),⟨⟨f1,f2⟩,f3,f4⟩,hu,by omega⟩
 · rw [e1] at e;injection e with a1 a2 a3 a4 a5 a6 a7 a8 a9;subst a1 a2 a3 a4 a5 a6 a7 a8 a9;have uu:0≤(u+s) % 16∧(u+s) % 16≤15:=by omega
   obtain ⟨m1,m2,m3,m4,m5,m6⟩:=Oj em hfr;have ff:=DD (p:=p) f1 f2 f3 f4 uu.1 uu.2;have fl:=Sb (p:=p) hlen f1 f2 f3 f4 uu.1 uu.2;have gf:=Om gs g A B;refine ⟨fun c=>(by cases c),fun _=>rfl,hv,m1,Int.le_trans (Ru m4 m5) fl,by omega,gf,fun _ c=>?_,fun _ c=>(by cases c),fun _ _=>rfl,fun hp=>?_,fun hw _ _ _=>?_,fun _ c=>(by cases c),by simp,fun c=>?_,by omega,uu,by omega⟩
   · simp only [Bool.and_eq_true,decide_eq_true_eq] at c;exact c
   · have q:=Rv (fx:=fx) (fy:=fy) (u:=(u+s) % 16) hp;exact ⟨Nat.le_trans m4 q.1,Nat.le_trans m5 q.2⟩
   · obtain ⟨w1,w2,w3,w4⟩:=m6 hw;exact ⟨by rw [w3]; exact w1,by rw [w4]; exact w2,w3,w4⟩
   · simp only [Bool.and_eq_true,decide_eq_true_eq] at c;exact c.1
theorem IB (h:eoB i t x y ws gs fp fq fs fz b k ax ay fx fy u g d o s p z=true) (e:esS i t x y ws gs fp fq fs fz b k ax ay fx fy u g d o s p z=⟨K,X,Y,P,Q,U,V,D,O⟩):evB i t x y ws gs fp fq fs fz b K X Y P Q U V D O=true:=by
 have T:=Jc h e;obtain ⟨hev,hin,hrun⟩:=(Hk ..).1 h;obtain ⟨hlv,how,hkt,hg,hfr,hdg⟩:=(Jb ..).1 hev;obtain ⟨hk,hat,hfa,hlen,hu,hg3,hdo⟩:=(GR ..).1 how;have ht:=Kg hlv;have hgl:=((En ..).1 hlv).2.2.2.2.2.1;have hK:0≤K∧K≤t:=by
  cases c:(d||o)
  · have q:=T.tick c;rcases hrun with r | r
    · omega
    · rw [c] at r; cases r
  · have q:=(T.stop c).1;omega
 have q1:=T.fr;have q2:=T.gr;exact (Jb ..).2 ⟨hlv,(GR ..).2 ⟨by omega,T.vok,Cz (by omega),T.len,T.ur,by omega,T.both⟩,hK.2,q2.2,T.free,T.dgs⟩
theorem Oq (h:Cm i t x y ws gs fp fq fs fz b=true):evB i t x y ws gs fp fq fs fz b 0 x y 0 0 0 0 false false=true:=by
 have g:=(En ..).1 h;have ht:=Kg h;have z0:=Rr;rw [Fv z0.2] at z0;exact (Jb ..).2 ⟨h,(GR ..).2 ⟨by omega,g.2.2.1,z0.2,by omega,by omega,by omega,rfl⟩,by omega,by omega,g.2.2.2.2.2.2.2.2.2,fun c=>by cases c⟩
structure Round (i t x y:Int) (ws gs:List Bx) (fp fq fs fz b:Int) (j:Int) (k ax ay fx fy u g:Int) (d o:Bool):Prop where
 ev:evB i t x y ws gs fp fq fs fz b k ax ay fx fy u g d o=true
 pos:(d||o)=true∨(k=j∧u=j % 16)
theorem Round.go {j:Int} (R:Round i t x y ws gs fp fq fs fz b j k ax ay fx fy u g d o) (j1:j<16) (ht:17≤t):eoB i t x y ws gs fp fq fs fz b k ax ay fx fy u g d o 1 0 false=true:=by
 refine (Hk ..).2 ⟨R.ev,by decide,?_⟩;rcases R.pos with h | ⟨h,_⟩
 · exact .inr h
 · exact .inl (by omega)
theorem Round.next {j:Int} (R:Round i t x y ws gs fp fq fs fz b j k ax ay fx fy u g d o) (j1:j<16) (ht:17≤t) (e:esS i t x y ws gs fp fq fs fz b k ax ay fx fy u g d o 1 0 false=⟨K,X,Y,P,Q,U,V,D,O⟩):Round i t x y ws gs fp fq fs fz b (j+1) K X Y P Q U V D O:=by
 have h:=R.go j1 ht;have T:=Jc h e;refine ⟨IB h e,?_⟩;cases c:(d||o)
 · rcases R.pos with r | ⟨r1,r2⟩
   · rw [c] at r; cases r
   · cases co:O
     · have q:=T.turn c co;have q2:=T.tick c;exact .inr ⟨by omega,by rw [q,r2]; omega⟩
     · exact .inl (by simp)
 · obtain ⟨_,_,_,_,_,_,_,e1,e2⟩:=T.stop c;exact .inl (by rw [e1,e2]; exact c)
end
end M
end Go.Proofs.YtkpogcflgghfiaaDoor
