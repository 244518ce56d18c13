import Derived.Test.YtflmmdljkhdjlaaZInS
set_option linter.all false
set_option maxRecDepth 100000
set_option maxHeartbeats 8000000
namespace Go.Proofs.Ytflmmdljkhdjlaa
namespace M
structure St where
 k:Int
 ax:Int
 ay:Int
 fx:Int
 fy:Int
 u:Int
 g:Int
 d:Bool
 o:Bool
def EB(fx fy u p:Int):Int:=if p=1 then Jh (fx+mu (Dh u) 200) (fy+mu (Di u) 200) 2000 else if p=2 then mu fx 700 else mu fx 950
def EC(fx fy u p:Int):Int:=if p=1 then Ji (fx+mu (Dh u) 200) (fy+mu (Di u) 200) 2000 else if p=2 then mu fy 700 else mu fy 950
def Ik(ok:Bool)(a f:Int):Int:=if ok then a+f else a
def Js(ok:Bool)(f:Int):Int:=if ok then f else -f.tdiv 2
def Gc(ws:List Bx)(s:St):St :=
 let p:=Dm ws (s.ax+s.fx) s.ay
 let x:=Ik p s.ax s.fx
 let q:=Dm ws x (s.ay+s.fy)
 ⟨s.k,x,Ik q s.ay s.fy,Js p s.fx,Js q s.fy,s.u,s.g,s.d,s.o⟩
def Kk(gs:List Bx)(g x y:Int):Bool:=decide (g<gs.length)&&FB (gs.getD g.toNat bz).a (gs.getD g.toNat bz).b (gs.getD g.toNat bz).c (gs.getD g.toNat bz).d x y
def Gl(gs:List Bx)(g x y:Int):Int:=if Kk gs g x y then g+1 else g
def KO(ws:List Bx)(s:St)(t p:Int):St:=Gc ws ⟨s.k,s.ax,s.ay,EB s.fx s.fy ((s.u+t) % 16) p,EC s.fx s.fy ((s.u+t) % 16) p,(s.u+t) % 16,s.g,s.d,s.o⟩
def Hj(ws gs:List Bx)(p q r z:Int)(s:St)(t pw:Int):St :=
 let a:=KO ws s t pw
 if AG a.ax a.ay then ⟨a.k,a.ax,a.ay,a.fx,a.fy,a.u,Gl gs a.g a.ax a.ay,decide (Gl gs a.g a.ax a.ay=gs.length)&&FB p q r z a.ax a.ay,a.o⟩
 else ⟨s.k,s.ax,s.ay,s.fx,s.fy,s.u,s.g,s.d,true⟩
def Dk(ws gs:List Bx)(p q r z:Int)(s:St)(x:In):St :=
 if s.d||s.o then s
 else if x.z then ⟨s.k+1,s.ax,s.ay,s.fx,s.fy,s.u,s.g,s.d,s.o⟩
 else Hj ws gs p q r z ⟨s.k+1,s.ax,s.ay,s.fx,s.fy,s.u,s.g,s.d,s.o⟩ x.s x.p
structure StB(m:Nat)(s:St):Prop where
 a:(-1000000<=s.ax/\s.ax<=1000000)/\(-1000000<=s.ay/\s.ay<=1000000)
 f:(-2000<=s.fx/\s.fx<=2000)/\(-2000<=s.fy/\s.fy<=2000)
 u:0<=s.u/\s.u<=15
 g:0<=s.g/\s.g<=m
 k:0<=s.k/\s.k<=1000000
theorem CN{a c:Int}(h1:-2000<=a)(h2:a<=2000)(c0:0<=c)(c1:c<=1000):-2000<=mu a c/\mu a c<=2000:=by
 unfold mu;have p1:a*c<=2000*c:=Int.mul_le_mul_of_nonneg_right h2 c0;have p2:-2000*c<=a*c:=Int.mul_le_mul_of_nonneg_right h1 c0;rcases Int.le_total 0 (a*c) with h | h
 . rw[Int.tdiv_eq_ediv_of_nonneg h];omega
 . have e:(a*c).tdiv 1000=-((-(a*c)).tdiv 1000):=by rw[Int.neg_tdiv,Int.neg_neg]
   rw[e,Int.tdiv_eq_ediv_of_nonneg (by omega)];omega
theorem Hk{u:Int}(h0:0<=u)(h1:u<=15):(-1000<=Dh u/\Dh u<=1000)/\(-1000<=Di u/\Di u<=1000):=by
 have h:u=0\/u=1\/u=2\/u=3\/u=4\/u=5\/u=6\/u=7\/u=8\/u=9\/u=10\/u=11\/u=12\/u=13\/u=14\/u=15:=by omega
 rcases h with rfl | rfl | rfl | rfl | rfl | rfl | rfl | rfl | rfl | rfl | rfl | rfl | rfl | rfl | rfl | rfl<;>decide
theorem CB{u:Int}(h0:0<=u)(h1:u<=15):(-200<=mu (Dh u) 200/\mu (Dh u) 200<=200)/\(-200<=mu (Di u) 200/\mu (Di u) 200<=200):=by
 have h:u=0\/u=1\/u=2\/u=3\/u=4\/u=5\/u=6\/u=7\/u=8\/u=9\/u=10\/u=11\/u=12\/u=13\/u=14\/u=15:=by omega
 rcases h with rfl | rfl | rfl | rfl | rfl | rfl | rfl | rfl | rfl | rfl | rfl | rfl | rfl | rfl | rfl | rfl<;>decide
theorem FM{x y:Int}(h:AG x y=true):(-2000<=Jh x y 2000/\Jh x y 2000<=2000)/\(-2000<=Ji x y 2000/\Ji x y 2000<=2000):=by
 have hc:HG x y 2000=true:=Jj h (by decide);obtain⟨X,Y,e1,e2,_,hv,_,hl,_⟩:=Ha hc;rw[e1,e2];obtain⟨s,es,_,m1,m2,_⟩:=Hc hv;rw[Ew hv] at es;omega
theorem DW{fx fy u p:Int}(x1:-2000<=fx)(x2:fx<=2000)(y1:-2000<=fy)(y2:fy<=2000)(u0:0<=u)(u1:u<=15):(-2000<=EB fx fy u p/\EB fx fy u p<=2000)/\(-2000<=EC fx fy u p/\EC fx fy u p<=2000):=by
 have q:=CB u0 u1;unfold EB EC;by_cases h1:p=1
 . rw[if_pos h1,if_pos h1];exact FM (Dg ⟨⟨by omega,by omega⟩,by omega,by omega⟩)
 . rw[if_neg h1,if_neg h1];by_cases h2:p=2
   . rw[if_pos h2,if_pos h2];exact⟨CN x1 x2 (by omega) (by omega),CN y1 y2 (by omega) (by omega)⟩
   . rw[if_neg h2,if_neg h2];exact⟨CN x1 x2 (by omega) (by omega),CN y1 y2 (by omega) (by omega)⟩
theorem CC{f:Int}(h1:-2000<=f)(h2:f<=2000):-2000<=-f.tdiv 2/\-f.tdiv 2<=2000:=by
 rcases Int.le_total 0 f with h | h
 . rw[Int.tdiv_eq_ediv_of_nonneg h];omega
 . have e:f.tdiv 2=-((-f).tdiv 2):=by rw[Int.neg_tdiv,Int.neg_neg]
   rw[e,Int.tdiv_eq_ediv_of_nonneg (by omega)];omega
theorem EO{b:Bool}{f:Int}(h1:-2000<=f)(h2:f<=2000):-2000<=Js b f/\Js b f<=2000:=by
 cases b
 . exact CC h1 h2
 . exact⟨h1,h2⟩
theorem Jt{m:Nat}{ws gs:List Bx}{p q r z:Int}{s:St}{t pw:Int}(h:StB m s)(hm:gs.length=m)(_t1:-1<=t)(_t2:t<=1):StB m (Hj ws gs p q r z s t pw):=by
 obtain⟨⟨⟨a1,a2⟩,a3,a4⟩,⟨⟨f1,f2⟩,f3,f4⟩,⟨u0,u1⟩,⟨g0,g1⟩,hk⟩:=h;unfold Hj;simp only;cases hv:AG (KO ws s t pw).ax (KO ws s t pw).ay
 . exact⟨⟨⟨a1,a2⟩,a3,a4⟩,⟨⟨f1,f2⟩,f3,f4⟩,⟨u0,u1⟩,⟨g0,g1⟩,hk⟩
 . have v:=(Cd _ _).1 hv;have uu:0<=(s.u+t) % 16/\(s.u+t) % 16<=15:=by omega
   have ff:=DW (p:=pw) f1 f2 f3 f4 uu.1 uu.2;refine⟨v,⟨EO ff.1.1 ff.1.2,EO ff.2.1 ff.2.2⟩,uu,?_,hk⟩
   show 0<=Gl gs s.g _ _/\Gl gs s.g _ _<=m
   unfold Gl;split
   . rename_i hg;simp only[Kk,Bool.and_eq_true,decide_eq_true_eq] at hg;omega
   . omega
theorem GJ{m:Nat}{ws gs:List Bx}{p q r z:Int}{s:St}{x:In}(h:StB m s)(hk:s.k<1000000)(hm:gs.length=m)(t1:-1<=x.s)(t2:x.s<=1):StB m (Dk ws gs p q r z s x)/\(Dk ws gs p q r z s x).k<=s.k+1:=by
 have h1:StB m ⟨s.k+1,s.ax,s.ay,s.fx,s.fy,s.u,s.g,s.d,s.o⟩:=⟨h.a,h.f,h.u,h.g,by have:=h.k; show 0<=s.k+1/\s.k+1<=1000000; omega⟩;unfold Dk;cases hd:(s.d||s.o)
 . cases hz:x.z
   . refine⟨Jt h1 hm t1 t2,?_⟩;simp only[Bool.false_eq_true,if_false];unfold Hj;simp only;split
     . exact Int.le_refl _
     . exact Int.le_refl _
   . exact⟨h1,Int.le_refl _⟩
 . exact⟨h,by simp only[if_true]; omega⟩
end M
end Go.Proofs.Ytflmmdljkhdjlaa
