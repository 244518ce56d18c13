import Derived.Test.YtgbiagonfbnooaaDoorZInS
set_option linter.all false
set_option maxRecDepth 100000
set_option maxHeartbeats 8000000
open Go.Lib
namespace Go.Proofs.YtgbiagonfbnooaaDoor
open Go.RowKit
open M
theorem Fo(a b c d x y r:Int)(w:World)(hb:Ed a b c d=true)(x1:-2000000<=x)(x2:x<=2000000)(y1:-2000000<=y)(y2:y<=2000000)(r0:0<=r)(r1:r<=1000000):Calls Tryd.prog 113 #[box a b c d,Dp x y,.int .i64 r] w fun e w'=>e=.returned (.bool (HJ a b c d x y r))/\Below w.heap.size w w':=by
 obtain⟨⟨⟨a1,a2⟩,b1,b2⟩,⟨⟨c1,c2⟩,d1,d2⟩,ac,bd⟩:=(F2 a b c d).1 hb;have n1:-1000000<=max a (min x c)/\max a (min x c)<=1000000:=by omega
 have n2:-1000000<=max b (min y d)/\max b (min y d)<=1000000:=by omega
 have E:=hid (show HJ a b c d x y r=decide ((x-max a (min x c))*(x-max a (min x c))+(y-max b (min y d))*(y-max b (min y d))<=r*r) from rfl);have Q:=hid (fun W=>Dr a b c d x y W);clear hb;generalize max a (min x c)=X at *;generalize max b (min y d)=Y at *;have m1:=Bt (a:=x-X) (b:=x-X) (by omega) (by omega) (by omega) (by omega);have m2:=Bt (a:=y-Y) (b:=y-Y) (by omega) (by omega) (by omega) (by omega);have m3:=Bt (a:=r) (b:=r) (by omega) (by omega) (by omega) (by omega);go_enter Tryd.func113,Tryd.ntmps113;go_wp2_with fail;refine(Q.out _).mono ?_;rintro e w1 ⟨rfl,B1⟩;obtain⟨hc1,hf1⟩:=AA B1
 have l0:w.heap.size<w1.heap.size:=by have:=B1.size; simp at this; omega
 have l1:w.heap.size+1<w1.heap.size:=by have:=B1.size; simp at this; omega
 have H1:=hid (Aa (Ab (Ab (Ac w) _) _) B1);clear B1 Q;go_wp2;go_ret;exact⟨Am (by rw[E.out]),Ab H1.out _⟩
theorem CP(i t x y:Int)(A:Option Addr)(n c:Nat)(G:Option Addr)(m k:Nat)(p q r s b:Int)(ws:List Bx)(u v:Int)(w:World)(I:Boxes w A n ws)(ok:Cs ws=true)(u1:-2000000<=u)(u2:u<=2000000)(v1:-2000000<=v)(v2:v<=2000000)(hn:n<=281474976710656) :
 Calls Tryd.prog 92 #[Eu i t x y A n c G m k p q r s b,Dp u v] w fun e w'=>e=.returned (.bool (C8 ws u v))/\Below w.heap.size w w':=by
 have hl:=hid I.1;have I:=hid I;have ok:=hid ok;go_enter Tryd.func92,Tryd.ntmps92;go_wp2
 go_loopw [5] (GE w n ws u v (AR i t x y A n c G m k p q r s b)) (fun i _=>n-(intOf i).toNat)
 case atStart=>exact⟨0,Nat.zero_le _,rfl,rfl,(CellsAt.new w _ _ _ rfl).alloc _,PCell.new _ _ _ _ _ (by simp),Ab (Ab (Ac w) _) _⟩
 case round =>
  obtain⟨j,hj,rfl,ha,L,P,B⟩:=hrel;have ha:=hid ha;have l4:=L.cell 4 _ rfl;have ll:=L.lt;have pl:=P.lt;by_cases hlt:j<n
  . obtain⟨bb,off,rfl,hb,hcell⟩:=(I.out.step B).2 (by omega);have Z:=(hcell j hlt).lie hb;have hkl:j<ws.length:=by have:=hl.out; omega
    have HS:=DF (f:=fun z=>!(z.hit u v)) hkl ha.out;have HN:=Gg (f:=fun z=>!(z.hit u v)) hkl;have HO:=GD (f:=Bx.ok) ok.out hkl;have Hb:=hid B;clear hcell hkl B;generalize ws.getD j bz=z at *;obtain⟨za,zb,zc,zd⟩:=z;simp only at Z;have C:=hid (fun W:World=>Fo za zb zc zd u v 500 W HO u1 u2 v1 v2 (by omega) (by omega));cases hz:HJ za zb zc zd u v 500
    . have E:=hid (HS (show(!(HJ za zb zc zd u v 500))=true by rw[hz]; rfl));clear HN HS HO;rw[hz] at C;go_wp2_with fail
      go_region_held3 (fun w'=>(w'.cell? ⟨w.heap.size,4,none⟩=some (.slice (some ⟨bb,off,none⟩) n c))/\(w'.cell? ⟨bb,off+j*4,none⟩=some (.int .i64 za)/\w'.cell? ⟨bb,off+j*4+1,none⟩=some (.int .i64 zb)/\w'.cell? ⟨bb,off+j*4+2,none⟩=some (.int .i64 zc)/\w'.cell? ⟨bb,off+j*4+3,none⟩=some (.int .i64 zd))/\(w'.cell? ⟨w.heap.size+1,0,none⟩=some (.int .i64 u)/\w'.cell? ⟨w.heap.size+1,1,none⟩=some (.int .i64 v)))
       (exact⟨Cz (by repeat (first | with_reducible exact L | with_reducible refine CellsAt.far ?_ (by omega) _ _ | with_reducible refine CellsAt.alloc ?_ _ | with_reducible refine CellsAt.drew ?_)),Bf (by repeat (first | with_reducible exact Z | with_reducible refine BoxIn.far ?_ (by omega) _ _ | with_reducible refine BoxIn.alloc ?_ _ | with_reducible refine BoxIn.drew ?_)),Dk (by repeat (first | with_reducible exact P | with_reducible refine PCell.far ?_ (by omega) _ _ | with_reducible refine PCell.alloc ?_ _ | with_reducible refine PCell.drew ?_))⟩)
       ((go_at_call 113; (with_reducible refine(C.out _).mono ?_); rintro e wn ⟨rfl,Bn⟩; have L:=CellsAt.step (by first | with_reducible exact L | with_reducible exact L.drew) Bn; have P:=PCell.step (by first | with_reducible exact P | with_reducible exact P.drew) Bn; have Z:=BoxIn.step (by first | with_reducible exact Z | with_reducible exact Z.drew) Bn; have Hb:=hid (Aa (by first | with_reducible exact Hb.out | with_reducible exact Aw Hb.out) Bn); clear Bn))
      all_goals
       go_wp2
       go_roundw
       case rel=>exact⟨j+1,by omega,by go_num,E.out,L,P,Hb.out⟩
       case measure=>simp[intOf]; omega
    . have E:=hid (HN (show(!(HJ za zb zc zd u v 500))=false by rw[hz]; rfl));clear HN HS HO;rw[hz] at C;go_wp2_with fail
      go_region_held3 (fun w'=>(w'.cell? ⟨w.heap.size,4,none⟩=some (.slice (some ⟨bb,off,none⟩) n c))/\(w'.cell? ⟨bb,off+j*4,none⟩=some (.int .i64 za)/\w'.cell? ⟨bb,off+j*4+1,none⟩=some (.int .i64 zb)/\w'.cell? ⟨bb,off+j*4+2,none⟩=some (.int .i64 zc)/\w'.cell? ⟨bb,off+j*4+3,none⟩=some (.int .i64 zd))/\(w'.cell? ⟨w.heap.size+1,0,none⟩=some (.int .i64 u)/\w'.cell? ⟨w.heap.size+1,1,none⟩=some (.int .i64 v)))
       (exact⟨Cz (by repeat (first | with_reducible exact L | with_reducible refine CellsAt.far ?_ (by omega) _ _ | with_reducible refine CellsAt.alloc ?_ _ | with_reducible refine CellsAt.drew ?_)),Bf (by repeat (first | with_reducible exact Z | with_reducible refine BoxIn.far ?_ (by omega) _ _ | with_reducible refine BoxIn.alloc ?_ _ | with_reducible refine BoxIn.drew ?_)),Dk (by repeat (first | with_reducible exact P | with_reducible refine PCell.far ?_ (by omega) _ _ | with_reducible refine PCell.alloc ?_ _ | with_reducible refine PCell.drew ?_))⟩)
       ((go_at_call 113; (with_reducible refine(C.out _).mono ?_); rintro e wn ⟨rfl,Bn⟩; have L:=CellsAt.step (by first | with_reducible exact L | with_reducible exact L.drew) Bn; have P:=PCell.step (by first | with_reducible exact P | with_reducible exact P.drew) Bn; have Z:=BoxIn.step (by first | with_reducible exact Z | with_reducible exact Z.drew) Bn; have Hb:=hid (Aa (by first | with_reducible exact Hb.out | with_reducible exact Aw Hb.out) Bn); clear Bn))
      all_goals
       go_wp2;go_ret;exact⟨Am (by unfold C8; rw[E.out]),Hb.out⟩
  . have E:=hid (EW (f:=fun z=>!(z.hit u v)) (by have:=hl.out; omega) ha.out);have B:=hid B;go_wp2;go_ret;exact⟨Am (by unfold C8; rw[E.out]),B.out⟩
end Go.Proofs.YtgbiagonfbnooaaDoor
namespace Go.Proofs.YtgbiagonfbnooaaDoor
namespace M
structure St where
 k:Int
 ax:Int
 ay:Int
 fx:Int
 fy:Int
 u:Int
 g:Int
 d:Bool
 o:Bool
def Ef(fx fy u p:Int):Int:=if p=1 then Jw (fx+mu (CZ u) 200) (fy+mu (C6 u) 200) 2000 else if p=2 then mu fx 700 else mu fx 950
def Eg(fx fy u p:Int):Int:=if p=1 then Jy (fx+mu (CZ u) 200) (fy+mu (C6 u) 200) 2000 else if p=2 then mu fy 700 else mu fy 950
def Io(ok:Bool)(a f:Int):Int:=if ok then a+f else a
def JO(ok:Bool)(f:Int):Int:=if ok then f else -f.tdiv 2
def F1(ws:List Bx)(s:St):St :=
 let p:=C8 ws (s.ax+s.fx) s.ay
 let x:=Io p s.ax s.fx
 let q:=C8 ws x (s.ay+s.fy)
 ⟨s.k,x,Io q s.ay s.fy,JO p s.fx,JO q s.fy,s.u,s.g,s.d,s.o⟩
def KW(gs:List Bx)(g x y:Int):Bool:=decide (g<gs.length)&&Fa (gs.getD g.toNat bz).a (gs.getD g.toNat bz).b (gs.getD g.toNat bz).c (gs.getD g.toNat bz).d x y
def Gb(gs:List Bx)(g x y:Int):Int:=if KW gs g x y then g+1 else g
def LA(ws:List Bx)(s:St)(t p:Int):St:=F1 ws ⟨s.k,s.ax,s.ay,Ef s.fx s.fy ((s.u+t) % 16) p,Eg s.fx s.fy ((s.u+t) % 16) p,(s.u+t) % 16,s.g,s.d,s.o⟩
def He(ws gs:List Bx)(p q r z:Int)(s:St)(t pw:Int):St :=
 let a:=LA ws s t pw
 if AB a.ax a.ay then ⟨a.k,a.ax,a.ay,a.fx,a.fy,a.u,Gb gs a.g a.ax a.ay,decide (Gb gs a.g a.ax a.ay=gs.length)&&Fa p q r z a.ax a.ay,a.o⟩
 else ⟨s.k,s.ax,s.ay,s.fx,s.fy,s.u,s.g,s.d,true⟩
def C7(ws gs:List Bx)(p q r z:Int)(s:St)(x:In):St :=
 if s.d||s.o then s
 else if x.z then ⟨s.k+1,s.ax,s.ay,s.fx,s.fy,s.u,s.g,s.d,s.o⟩
 else He ws gs p q r z ⟨s.k+1,s.ax,s.ay,s.fx,s.fy,s.u,s.g,s.d,s.o⟩ x.s x.p
structure StB(m:Nat)(s:St):Prop where
 a:(-1000000<=s.ax/\s.ax<=1000000)/\(-1000000<=s.ay/\s.ay<=1000000)
 f:(-2000<=s.fx/\s.fx<=2000)/\(-2000<=s.fy/\s.fy<=2000)
 u:0<=s.u/\s.u<=15
 g:0<=s.g/\s.g<=m
 k:0<=s.k/\s.k<=1000000
theorem Cw{a c:Int}(h1:-2000<=a)(h2:a<=2000)(c0:0<=c)(c1:c<=1000):-2000<=mu a c/\mu a c<=2000:=by
 unfold mu;have p1:a*c<=2000*c:=Int.mul_le_mul_of_nonneg_right h2 c0;have p2:-2000*c<=a*c:=Int.mul_le_mul_of_nonneg_right h1 c0;rcases Int.le_total 0 (a*c) with h | h
 . rw[Int.tdiv_eq_ediv_of_nonneg h];omega
 . have e:(a*c).tdiv 1000=-((-(a*c)).tdiv 1000):=by rw[Int.neg_tdiv,Int.neg_neg]
   rw[e,Int.tdiv_eq_ediv_of_nonneg (by omega)];omega
theorem Hg{u:Int}(h0:0<=u)(h1:u<=15):(-1000<=CZ u/\CZ u<=1000)/\(-1000<=C6 u/\C6 u<=1000):=by
 have h:u=0\/u=1\/u=2\/u=3\/u=4\/u=5\/u=6\/u=7\/u=8\/u=9\/u=10\/u=11\/u=12\/u=13\/u=14\/u=15:=by omega
 rcases h with rfl | rfl | rfl | rfl | rfl | rfl | rfl | rfl | rfl | rfl | rfl | rfl | rfl | rfl | rfl | rfl<;>decide
theorem Cn{u:Int}(h0:0<=u)(h1:u<=15):(-200<=mu (CZ u) 200/\mu (CZ u) 200<=200)/\(-200<=mu (C6 u) 200/\mu (C6 u) 200<=200):=by
 have h:u=0\/u=1\/u=2\/u=3\/u=4\/u=5\/u=6\/u=7\/u=8\/u=9\/u=10\/u=11\/u=12\/u=13\/u=14\/u=15:=by omega
 rcases h with rfl | rfl | rfl | rfl | rfl | rfl | rfl | rfl | rfl | rfl | rfl | rfl | rfl | rfl | rfl | rfl<;>decide
theorem Fp{x y:Int}(h:AB x y=true):(-2000<=Jw x y 2000/\Jw x y 2000<=2000)/\(-2000<=Jy x y 2000/\Jy x y 2000<=2000):=by
 have hc:HI x y 2000=true:=Jz h (by decide);obtain⟨X,Y,e1,e2,_,hv,_,hl,_⟩:=G1 hc;rw[e1,e2];obtain⟨s,es,_,m1,m2,_⟩:=G3 hv;rw[Ea hv] at es;omega
theorem Dw{fx fy u p:Int}(x1:-2000<=fx)(x2:fx<=2000)(y1:-2000<=fy)(y2:fy<=2000)(u0:0<=u)(u1:u<=15):(-2000<=Ef fx fy u p/\Ef fx fy u p<=2000)/\(-2000<=Eg fx fy u p/\Eg fx fy u p<=2000):=by
 have q:=Cn u0 u1;unfold Ef Eg;by_cases h1:p=1
 . rw[if_pos h1,if_pos h1];exact Fp (CY ⟨⟨by omega,by omega⟩,by omega,by omega⟩)
 . rw[if_neg h1,if_neg h1];by_cases h2:p=2
   . rw[if_pos h2,if_pos h2];exact⟨Cw x1 x2 (by omega) (by omega),Cw y1 y2 (by omega) (by omega)⟩
   . rw[if_neg h2,if_neg h2];exact⟨Cw x1 x2 (by omega) (by omega),Cw y1 y2 (by omega) (by omega)⟩
theorem Co{f:Int}(h1:-2000<=f)(h2:f<=2000):-2000<=-f.tdiv 2/\-f.tdiv 2<=2000:=by
 rcases Int.le_total 0 f with h | h
 . rw[Int.tdiv_eq_ediv_of_nonneg h];omega
 . have e:f.tdiv 2=-((-f).tdiv 2):=by rw[Int.neg_tdiv,Int.neg_neg]
   rw[e,Int.tdiv_eq_ediv_of_nonneg (by omega)];omega
theorem Er{b:Bool}{f:Int}(h1:-2000<=f)(h2:f<=2000):-2000<=JO b f/\JO b f<=2000:=by
 cases b
 . exact Co h1 h2
 . exact⟨h1,h2⟩
theorem JP{m:Nat}{ws gs:List Bx}{p q r z:Int}{s:St}{t pw:Int}(h:StB m s)(hm:gs.length=m)(_t1:-1<=t)(_t2:t<=1):StB m (He ws gs p q r z s t pw):=by
 obtain⟨⟨⟨a1,a2⟩,a3,a4⟩,⟨⟨f1,f2⟩,f3,f4⟩,⟨u0,u1⟩,⟨g0,g1⟩,hk⟩:=h;unfold He;simp only;cases hv:AB (LA ws s t pw).ax (LA ws s t pw).ay
 . exact⟨⟨⟨a1,a2⟩,a3,a4⟩,⟨⟨f1,f2⟩,f3,f4⟩,⟨u0,u1⟩,⟨g0,g1⟩,hk⟩
 . have v:=(BJ _ _).1 hv;have uu:0<=(s.u+t) % 16/\(s.u+t) % 16<=15:=by omega
   have ff:=Dw (p:=pw) f1 f2 f3 f4 uu.1 uu.2;refine⟨v,⟨Er ff.1.1 ff.1.2,Er ff.2.1 ff.2.2⟩,uu,?_,hk⟩
   show 0<=Gb gs s.g _ _/\Gb gs s.g _ _<=m
   unfold Gb;split
   . rename_i hg;simp only[KW,Bool.and_eq_true,decide_eq_true_eq] at hg;omega
   . omega
theorem Gz{m:Nat}{ws gs:List Bx}{p q r z:Int}{s:St}{x:In}(h:StB m s)(hk:s.k<1000000)(hm:gs.length=m)(t1:-1<=x.s)(t2:x.s<=1):StB m (C7 ws gs p q r z s x)/\(C7 ws gs p q r z s x).k<=s.k+1:=by
 have h1:StB m ⟨s.k+1,s.ax,s.ay,s.fx,s.fy,s.u,s.g,s.d,s.o⟩:=⟨h.a,h.f,h.u,h.g,by have:=h.k; show 0<=s.k+1/\s.k+1<=1000000; omega⟩;unfold C7;cases hd:(s.d||s.o)
 . cases hz:x.z
   . refine⟨JP h1 hm t1 t2,?_⟩;simp only[Bool.false_eq_true,if_false];unfold He;simp only;split
     . exact Int.le_refl _
     . exact Int.le_refl _
   . exact⟨h1,Int.le_refl _⟩
 . exact⟨h,by simp only[if_true]; omega⟩
end M
end Go.Proofs.YtgbiagonfbnooaaDoor
