import Derived.Test.YtgbiagonfbnooaaGreatDoorZInS
set_option linter.all false
set_option maxRecDepth 100000
set_option maxHeartbeats 8000000
open Go.Lib
namespace Go.Proofs.YtgbiagonfbnooaaGreatDoor
open Go.RowKit
open M
theorem Gf(a b c d x y r:Int)(w:World)(hb:E5 a b c d=true)(x1:-2000000<=x)(x2:x<=2000000)(y1:-2000000<=y)(y2:y<=2000000)(r0:0<=r)(r1:r<=1000000):Calls Tryz.prog 103 #[box a b c d,Ei x y,.int .i64 r] w fun e w'=>e=.returned (.bool (Jo a b c d x y r))/\Below w.heap.size w w':=by
 obtain⟨⟨⟨a1,a2⟩,b1,b2⟩,⟨⟨c1,c2⟩,d1,d2⟩,ac,bd⟩:=(GY a b c d).1 hb;have n1:-1000000<=max a (min x c)/\max a (min x c)<=1000000:=by omega
 have n2:-1000000<=max b (min y d)/\max b (min y d)<=1000000:=by omega
 have E:=hid (show Jo a b c d x y r=decide ((x-max a (min x c))*(x-max a (min x c))+(y-max b (min y d))*(y-max b (min y d))<=r*r) from rfl);have Q:=hid (fun W=>Ek a b c d x y W);clear hb;generalize max a (min x c)=X at *;generalize max b (min y d)=Y at *;have m1:=BS (a:=x-X) (b:=x-X) (by omega) (by omega) (by omega) (by omega);have m2:=BS (a:=y-Y) (b:=y-Y) (by omega) (by omega) (by omega) (by omega);have m3:=BS (a:=r) (b:=r) (by omega) (by omega) (by omega) (by omega);go_enter Tryz.func103,Tryz.ntmps103;go_wp2_with fail;refine(Q.out _).mono ?_;rintro e w1 ⟨rfl,B1⟩;obtain⟨hc1,hf1⟩:=AC B1
 have l0:w.heap.size<w1.heap.size:=by have:=B1.size; simp at this; omega
 have l1:w.heap.size+1<w1.heap.size:=by have:=B1.size; simp at this; omega
 have H1:=hid (Aa (Ab (Ab (Ac w) _) _) B1);clear B1 Q;go_wp2;go_ret;exact⟨Al (by rw[E.out]),Ab H1.out _⟩
theorem Dx(i t x y:Int)(A:Option Addr)(n c:Nat)(G:Option Addr)(m k:Nat)(p q r s b:Int)(ws:List Bx)(u v:Int)(w:World)(I:Boxes w A n ws)(ok:C8 ws=true)(u1:-2000000<=u)(u2:u<=2000000)(v1:-2000000<=v)(v2:v<=2000000)(hn:n<=281474976710656) :
 Calls Tryz.prog 80 #[Fq i t x y A n c G m k p q r s b,Ei u v] w fun e w'=>e=.returned (.bool (DO ws u v))/\Below w.heap.size w w':=by
 have hl:=hid I.1;have I:=hid I;have ok:=hid ok;go_enter Tryz.func80,Tryz.ntmps80;go_wp2
 go_loopw [5] (HU w n ws u v (AW i t x y A n c G m k p q r s b)) (fun i _=>n-(RowKit.intOf i).toNat)
 case atStart=>exact⟨0,Nat.zero_le _,rfl,rfl,(CellsAt.new w _ _ _ rfl).alloc _,PCell.new _ _ _ _ _ (by simp),Ab (Ab (Ac w) _) _⟩
 case round =>
  obtain⟨j,hj,rfl,ha,L,P,B⟩:=hrel;have ha:=hid ha;have l4:=L.cell 4 _ rfl;have ll:=L.lt;have pl:=P.lt;by_cases hlt:j<n
  . obtain⟨bb,off,rfl,hb,hcell⟩:=(I.out.step B).2 (by omega);have Z:=(hcell j hlt).lie hb;have hkl:j<ws.length:=by have:=hl.out; omega
    have HS:=Eu (f:=fun z=>!(z.hit u v)) hkl ha.out;have HN:=Hd (f:=fun z=>!(z.hit u v)) hkl;have HO:=HT (f:=Bx.ok) ok.out hkl;have Hb:=hid B;clear hcell hkl B;generalize ws.getD j bz=z at *;obtain⟨za,zb,zc,zd⟩:=z;simp only at Z;have C:=hid (fun W:World=>Gf za zb zc zd u v 500 W HO u1 u2 v1 v2 (by omega) (by omega));cases hz:Jo za zb zc zd u v 500
    . have E:=hid (HS (show(!(Jo za zb zc zd u v 500))=true by rw[hz]; rfl));clear HN HS HO;rw[hz] at C;go_wp2_with fail
      go_region_held3 (fun w'=>(w'.cell? ⟨w.heap.size,4,none⟩=some (.slice (some ⟨bb,off,none⟩) n c))/\(w'.cell? ⟨bb,off+j*4,none⟩=some (.int .i64 za)/\w'.cell? ⟨bb,off+j*4+1,none⟩=some (.int .i64 zb)/\w'.cell? ⟨bb,off+j*4+2,none⟩=some (.int .i64 zc)/\w'.cell? ⟨bb,off+j*4+3,none⟩=some (.int .i64 zd))/\(w'.cell? ⟨w.heap.size+1,0,none⟩=some (.int .i64 u)/\w'.cell? ⟨w.heap.size+1,1,none⟩=some (.int .i64 v)))
       (exact⟨Dd (by repeat (first | with_reducible exact L | with_reducible refine CellsAt.far ?_ (by omega) _ _ | with_reducible refine CellsAt.alloc ?_ _ | with_reducible refine CellsAt.drew ?_)),Bu (by repeat (first | with_reducible exact Z | with_reducible refine BoxIn.far ?_ (by omega) _ _ | with_reducible refine BoxIn.alloc ?_ _ | with_reducible refine BoxIn.drew ?_)),Ed (by repeat (first | with_reducible exact P | with_reducible refine PCell.far ?_ (by omega) _ _ | with_reducible refine PCell.alloc ?_ _ | with_reducible refine PCell.drew ?_))⟩)
       ((go_at_call 103; (with_reducible refine(C.out _).mono ?_); rintro e wn ⟨rfl,Bn⟩; have L:=CellsAt.step (by first | with_reducible exact L | with_reducible exact L.drew) Bn; have P:=PCell.step (by first | with_reducible exact P | with_reducible exact P.drew) Bn; have Z:=BoxIn.step (by first | with_reducible exact Z | with_reducible exact Z.drew) Bn; have Hb:=hid (Aa (by first | with_reducible exact Hb.out | with_reducible exact Az Hb.out) Bn); clear Bn))
      all_goals
       go_wp2
       go_roundw
       case rel=>exact⟨j+1,by omega,by go_num,E.out,L,P,Hb.out⟩
       case measure=>simp[RowKit.intOf]; omega
    . have E:=hid (HN (show(!(Jo za zb zc zd u v 500))=false by rw[hz]; rfl));clear HN HS HO;rw[hz] at C;go_wp2_with fail
      go_region_held3 (fun w'=>(w'.cell? ⟨w.heap.size,4,none⟩=some (.slice (some ⟨bb,off,none⟩) n c))/\(w'.cell? ⟨bb,off+j*4,none⟩=some (.int .i64 za)/\w'.cell? ⟨bb,off+j*4+1,none⟩=some (.int .i64 zb)/\w'.cell? ⟨bb,off+j*4+2,none⟩=some (.int .i64 zc)/\w'.cell? ⟨bb,off+j*4+3,none⟩=some (.int .i64 zd))/\(w'.cell? ⟨w.heap.size+1,0,none⟩=some (.int .i64 u)/\w'.cell? ⟨w.heap.size+1,1,none⟩=some (.int .i64 v)))
       (exact⟨Dd (by repeat (first | with_reducible exact L | with_reducible refine CellsAt.far ?_ (by omega) _ _ | with_reducible refine CellsAt.alloc ?_ _ | with_reducible refine CellsAt.drew ?_)),Bu (by repeat (first | with_reducible exact Z | with_reducible refine BoxIn.far ?_ (by omega) _ _ | with_reducible refine BoxIn.alloc ?_ _ | with_reducible refine BoxIn.drew ?_)),Ed (by repeat (first | with_reducible exact P | with_reducible refine PCell.far ?_ (by omega) _ _ | with_reducible refine PCell.alloc ?_ _ | with_reducible refine PCell.drew ?_))⟩)
       ((go_at_call 103; (with_reducible refine(C.out _).mono ?_); rintro e wn ⟨rfl,Bn⟩; have L:=CellsAt.step (by first | with_reducible exact L | with_reducible exact L.drew) Bn; have P:=PCell.step (by first | with_reducible exact P | with_reducible exact P.drew) Bn; have Z:=BoxIn.step (by first | with_reducible exact Z | with_reducible exact Z.drew) Bn; have Hb:=hid (Aa (by first | with_reducible exact Hb.out | with_reducible exact Az Hb.out) Bn); clear Bn))
      all_goals
       go_wp2;go_ret;exact⟨Al (by unfold DO; rw[E.out]),Hb.out⟩
  . have E:=hid (FL (f:=fun z=>!(z.hit u v)) (by have:=hl.out; omega) ha.out);have B:=hid B;go_wp2;go_ret;exact⟨Al (by unfold DO; rw[E.out]),B.out⟩
end Go.Proofs.YtgbiagonfbnooaaGreatDoor
namespace Go.Proofs.YtgbiagonfbnooaaGreatDoor
namespace M
structure St where
 k:Int
 ax:Int
 ay:Int
 fx:Int
 fy:Int
 u:Int
 g:Int
 d:Bool
 o:Bool
def E8(fx fy u p:Int):Int:=if p=1 then Le (fx+mu (DI u) 200) (fy+mu (DJ u) 200) 2000 else if p=2 then mu fx 700 else mu fx 950
def E9(fx fy u p:Int):Int:=if p=1 then Lf (fx+mu (DI u) 200) (fy+mu (DJ u) 200) 2000 else if p=2 then mu fy 700 else mu fy 950
def JL(ok:Bool)(a f:Int):Int:=if ok then a+f else a
def Lw(ok:Bool)(f:Int):Int:=if ok then f else -f.tdiv 2
def GV(ws:List Bx)(s:St):St :=
 let p:=DO ws (s.ax+s.fx) s.ay
 let x:=JL p s.ax s.fx
 let q:=DO ws x (s.ay+s.fy)
 ⟨s.k,x,JL q s.ay s.fy,Lw p s.fx,Lw q s.fy,s.u,s.g,s.d,s.o⟩
def MN(gs:List Bx)(g x y:Int):Bool:=decide (g<gs.length)&&F4 (gs.getD g.toNat bz).a (gs.getD g.toNat bz).b (gs.getD g.toNat bz).c (gs.getD g.toNat bz).d x y
def G3(gs:List Bx)(g x y:Int):Int:=if MN gs g x y then g+1 else g
def Nu(ws:List Bx)(s:St)(t p:Int):St:=GV ws ⟨s.k,s.ax,s.ay,E8 s.fx s.fy ((s.u+t) % 16) p,E9 s.fx s.fy ((s.u+t) % 16) p,(s.u+t) % 16,s.g,s.d,s.o⟩
def IJ(ws gs:List Bx)(p q r z:Int)(s:St)(t pw:Int):St :=
 let a:=Nu ws s t pw
 if AD a.ax a.ay then ⟨a.k,a.ax,a.ay,a.fx,a.fy,a.u,G3 gs a.g a.ax a.ay,decide (G3 gs a.g a.ax a.ay=gs.length)&&F4 p q r z a.ax a.ay,a.o⟩
 else ⟨s.k,s.ax,s.ay,s.fx,s.fy,s.u,s.g,s.d,true⟩
def DL(ws gs:List Bx)(p q r z:Int)(s:St)(x:In):St :=
 if s.d||s.o then s
 else if x.z then ⟨s.k+1,s.ax,s.ay,s.fx,s.fy,s.u,s.g,s.d,s.o⟩
 else IJ ws gs p q r z ⟨s.k+1,s.ax,s.ay,s.fx,s.fy,s.u,s.g,s.d,s.o⟩ x.s x.p
structure StB(m:Nat)(s:St):Prop where
 a:(-1000000<=s.ax/\s.ax<=1000000)/\(-1000000<=s.ay/\s.ay<=1000000)
 f:(-2000<=s.fx/\s.fx<=2000)/\(-2000<=s.fy/\s.fy<=2000)
 u:0<=s.u/\s.u<=15
 g:0<=s.g/\s.g<=m
 k:0<=s.k/\s.k<=1000000
theorem Db{a c:Int}(h1:-2000<=a)(h2:a<=2000)(c0:0<=c)(c1:c<=1000):-2000<=mu a c/\mu a c<=2000:=by
 unfold mu;have p1:a*c<=2000*c:=Int.mul_le_mul_of_nonneg_right h2 c0;have p2:-2000*c<=a*c:=Int.mul_le_mul_of_nonneg_right h1 c0;rcases Int.le_total 0 (a*c) with h | h
 . rw[Int.tdiv_eq_ediv_of_nonneg h];omega
 . have e:(a*c).tdiv 1000=-((-(a*c)).tdiv 1000):=by rw[Int.neg_tdiv,Int.neg_neg]
   rw[e,Int.tdiv_eq_ediv_of_nonneg (by omega)];omega
theorem IK{u:Int}(h0:0<=u)(h1:u<=15):(-1000<=DI u/\DI u<=1000)/\(-1000<=DJ u/\DJ u<=1000):=by
 have h:u=0\/u=1\/u=2\/u=3\/u=4\/u=5\/u=6\/u=7\/u=8\/u=9\/u=10\/u=11\/u=12\/u=13\/u=14\/u=15:=by omega
 rcases h with rfl | rfl | rfl | rfl | rfl | rfl | rfl | rfl | rfl | rfl | rfl | rfl | rfl | rfl | rfl | rfl<;>decide
theorem CV{u:Int}(h0:0<=u)(h1:u<=15):(-200<=mu (DI u) 200/\mu (DI u) 200<=200)/\(-200<=mu (DJ u) 200/\mu (DJ u) 200<=200):=by
 have h:u=0\/u=1\/u=2\/u=3\/u=4\/u=5\/u=6\/u=7\/u=8\/u=9\/u=10\/u=11\/u=12\/u=13\/u=14\/u=15:=by omega
 rcases h with rfl | rfl | rfl | rfl | rfl | rfl | rfl | rfl | rfl | rfl | rfl | rfl | rfl | rfl | rfl | rfl<;>decide
theorem Gg{x y:Int}(h:AD x y=true):(-2000<=Le x y 2000/\Le x y 2000<=2000)/\(-2000<=Lf x y 2000/\Lf x y 2000<=2000):=by
 have hc:Jn x y 2000=true:=Lg h (by decide);obtain⟨X,Y,e1,e2,_,hv,_,hl,_⟩:=Iz hc;rw[e1,e2];obtain⟨s,es,_,m1,m2,_⟩:=IA hv;rw[Ou hv] at es;omega
theorem Ep{fx fy u p:Int}(x1:-2000<=fx)(x2:fx<=2000)(y1:-2000<=fy)(y2:fy<=2000)(u0:0<=u)(u1:u<=15):(-2000<=E8 fx fy u p/\E8 fx fy u p<=2000)/\(-2000<=E9 fx fy u p/\E9 fx fy u p<=2000):=by
 have q:=CV u0 u1;unfold E8 E9;by_cases h1:p=1
 . rw[if_pos h1,if_pos h1];exact Gg (DG ⟨⟨by omega,by omega⟩,by omega,by omega⟩)
 . rw[if_neg h1,if_neg h1];by_cases h2:p=2
   . rw[if_pos h2,if_pos h2];exact⟨Db x1 x2 (by omega) (by omega),Db y1 y2 (by omega) (by omega)⟩
   . rw[if_neg h2,if_neg h2];exact⟨Db x1 x2 (by omega) (by omega),Db y1 y2 (by omega) (by omega)⟩
theorem CW{f:Int}(h1:-2000<=f)(h2:f<=2000):-2000<=-f.tdiv 2/\-f.tdiv 2<=2000:=by
 rcases Int.le_total 0 f with h | h
 . rw[Int.tdiv_eq_ediv_of_nonneg h];omega
 . have e:f.tdiv 2=-((-f).tdiv 2):=by rw[Int.neg_tdiv,Int.neg_neg]
   rw[e,Int.tdiv_eq_ediv_of_nonneg (by omega)];omega
theorem Fo{b:Bool}{f:Int}(h1:-2000<=f)(h2:f<=2000):-2000<=Lw b f/\Lw b f<=2000:=by
 cases b
 . exact CW h1 h2
 . exact⟨h1,h2⟩
theorem Lx{m:Nat}{ws gs:List Bx}{p q r z:Int}{s:St}{t pw:Int}(h:StB m s)(hm:gs.length=m)(_t1:-1<=t)(_t2:t<=1):StB m (IJ ws gs p q r z s t pw):=by
 obtain⟨⟨⟨a1,a2⟩,a3,a4⟩,⟨⟨f1,f2⟩,f3,f4⟩,⟨u0,u1⟩,⟨g0,g1⟩,hk⟩:=h;unfold IJ;simp only;cases hv:AD (Nu ws s t pw).ax (Nu ws s t pw).ay
 . exact⟨⟨⟨a1,a2⟩,a3,a4⟩,⟨⟨f1,f2⟩,f3,f4⟩,⟨u0,u1⟩,⟨g0,g1⟩,hk⟩
 . have v:=(Cj _ _).1 hv;have uu:0<=(s.u+t) % 16/\(s.u+t) % 16<=15:=by omega
   have ff:=Ep (p:=pw) f1 f2 f3 f4 uu.1 uu.2;refine⟨v,⟨Fo ff.1.1 ff.1.2,Fo ff.2.1 ff.2.2⟩,uu,?_,hk⟩
   show 0<=G3 gs s.g _ _/\G3 gs s.g _ _<=m
   unfold G3;split
   . rename_i hg;simp only[MN,Bool.and_eq_true,decide_eq_true_eq] at hg;omega
   . omega
theorem HI{m:Nat}{ws gs:List Bx}{p q r z:Int}{s:St}{x:In}(h:StB m s)(hk:s.k<1000000)(hm:gs.length=m)(t1:-1<=x.s)(t2:x.s<=1):StB m (DL ws gs p q r z s x)/\(DL ws gs p q r z s x).k<=s.k+1:=by
 have h1:StB m ⟨s.k+1,s.ax,s.ay,s.fx,s.fy,s.u,s.g,s.d,s.o⟩:=⟨h.a,h.f,h.u,h.g,by have:=h.k; show 0<=s.k+1/\s.k+1<=1000000; omega⟩;unfold DL;cases hd:(s.d||s.o)
 . cases hz:x.z
   . refine⟨Lx h1 hm t1 t2,?_⟩;simp only[Bool.false_eq_true,if_false];unfold IJ;simp only;split
     . exact Int.le_refl _
     . exact Int.le_refl _
   . exact⟨h1,Int.le_refl _⟩
 . exact⟨h,by simp only[if_true]; omega⟩
end M
end Go.Proofs.YtgbiagonfbnooaaGreatDoor
