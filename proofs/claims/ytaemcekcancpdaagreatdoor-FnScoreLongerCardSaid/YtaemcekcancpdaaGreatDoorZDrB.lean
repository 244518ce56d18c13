import Derived.Test.YtaemcekcancpdaaGreatDoorZRdS
import Derived.Deep.DeepCutAuto
set_option linter.all false
set_option maxRecDepth 100000
set_option maxHeartbeats 8000000
open Go.Lib
namespace Go.Proofs.YtaemcekcancpdaaGreatDoor
open Go.RowKit
open Go.RowKit
theorem RdU.ne{B:Nat}{w:World}{r:Nat}{k:Int}(R:RdU B w r k):w.heap.size≠r:=by have:=R.here; have:=R.base; omega
def Pd(B:Nat)(r:Nat)(k:Int)(w:World)(e:Ending)(w':World):Prop :=
 ∃ p q s t:Int,((-1000001<=p/\p<=1000001)/\(-1000001<=q/\q<=1000001))/\((-1010000<=s/\s<=1010000)/\(-1010000<=t/\t<=1010000))/\e=.returned (box p q s t)/\RdU B w' r (k+12)/\Kept r w w'
def SO(a p:Int):Int:=IntKind.i64.wrap (a+IntKind.i64.wrap (p*100))
theorem MJ{a p:Int}(a1:-1000001<=a)(a2:a<=1000001)(p0:0<=p)(p1:p<50):-1010000<=SO a p/\SO a p<=1010000:=by
 unfold SO;rw[IntWalk.i64_in (p*100) (by omega),IntWalk.i64_in (a+p*100) (by omega)];omega
theorem Kept.sets{r:Nat}{w a:World}(h:Kept r w a){b:Nat}(hb:w.heap.size<=b)(v0 v1 v2 v3:Value):Kept r w ((((a.setCell ⟨b,0,none⟩ v0).setCell ⟨b,1,none⟩ v1).setCell ⟨b,2,none⟩ v2).setCell ⟨b,3,none⟩ v3):=(((h.set _ _ _ hb).set _ _ _ hb).set _ _ _ hb).set _ _ _ hb
theorem RdU.sets{B:Nat}{w:World}{r:Nat}{k:Int}(R:RdU B w r k){b:Nat}(hb:B<=b)(v0 v1 v2 v3:Value):RdU B ((((w.setCell ⟨b,0,none⟩ v0).setCell ⟨b,1,none⟩ v1).setCell ⟨b,2,none⟩ v2).setCell ⟨b,3,none⟩ v3) r k:=(((R.set _ _ _ hb).set _ _ _ hb).set _ _ _ hb).set _ _ _ hb
theorem BCell.fars{W:World}{b:Nat}{p q s t:Int}(h:BCell W b p q s t){c:Nat}(hne:c≠b)(v0 v1 v2 v3:Value):BCell ((((W.setCell ⟨c,0,none⟩ v0).setCell ⟨c,1,none⟩ v1).setCell ⟨c,2,none⟩ v2).setCell ⟨c,3,none⟩ v3) b p q s t:=(((h.far hne _ _).far hne _ _).far hne _ _).far hne _ _
theorem PCell.fars{W:World}{b:Nat}{x y:Int}(h:PCell W b x y){c:Nat}(hne:c≠b)(v0 v1 v2 v3:Value):PCell ((((W.setCell ⟨c,0,none⟩ v0).setCell ⟨c,1,none⟩ v1).setCell ⟨c,2,none⟩ v2).setCell ⟨c,3,none⟩ v3) b x y:=(((h.far hne _ _).far hne _ _).far hne _ _).far hne _ _
theorem BCell.newK{r:Nat}{W w':World}{ty:TypeId}(K:Kept r (W.alloc (.cells #[.int .i64 0,.int .i64 0,.int .i64 0,.int .i64 0] ty)) w')(h:W.heap.size≠r):BCell w' W.heap.size 0 0 0 0:=(BCell.new W W.heap.size 0 0 0 0 ty rfl).kept K h
theorem BCell.newD{r:Nat}{W w':World}{ty:TypeId}(K:Kept r (W.alloc (.cells #[.int .i64 0,.int .i64 0,.int .i64 0,.int .i64 0] ty)).drew w')(h:W.heap.size≠r):BCell w' W.heap.size 0 0 0 0:=(BCell.new W W.heap.size 0 0 0 0 ty rfl).drew.kept K h
theorem BCell.newE{r:Nat}{W w':World}{ob:Obj}{ty:TypeId}(K:Kept r ((W.alloc ob).alloc (.cells #[.int .i64 0,.int .i64 0,.int .i64 0,.int .i64 0] ty)).drew w')(h:W.heap.size+1≠r):BCell w' (W.heap.size+1) 0 0 0 0:=by
 have e:(W.alloc ob).heap.size=W.heap.size+1:=World.size_alloc _ _;have:=BCell.newD K (by rw[e]; exact h);rw[e] at this;exact this
theorem BW{W:World}{b:Nat}{x y:Int}(h:PCell W b x y):W.cell? ⟨b,0,none⟩=some (.int .i64 x)/\W.cell? ⟨b,1,none⟩=some (.int .i64 y):=⟨h.c0,h.c1⟩
def SP(B:Nat)(r:Nat)(k:Int)(w:World)(v:Value)(W:World):Prop :=
 ∃(b:Nat) (p q s t:Int),w.heap.size<b/\v=.pointer (some ⟨b,0,none⟩)/\BCell W b p q s t/\BCell W w.heap.size 0 0 0 0/\((-1000001<=p/\p<=1000001)/\(-1000001<=q/\q<=1000001))/\((-1010000<=s/\s<=1010000)/\(-1010000<=t/\t<=1010000))/\RdU B W r (k+10)/\Kept r w W
theorem DK{B:Nat}(r:Nat)(k:Int)(w:World)(R:RdU B w r k)(hk:k<=70000) :
 Calls Tryz.prog 37 #[.pointer (some ⟨r,0,none⟩)] w (Pd B r k w):=by
 have hr:=R.here;have hB:=R.base;have dn:w.heap.size≠r:=by omega
 go_enter Tryz.func37,Tryz.ntmps37;go_wp2_with fail;refine(Jm r k _ (R.alloc _) (by omega)).mono ?_;rintro e w1 ⟨x,y,⟨e1,e2⟩,⟨e3,e4⟩,rfl,R0,K0⟩;have D0:BCell w1 w.heap.size 0 0 0 0:=(BCell.new w w.heap.size 0 0 0 0 _ rfl).kept K0 dn;have J0:=hid ((Kept.refl r w).alloc _ |>.trans K0);clear K0 R;have d0l:=D0.lt;have gn:w1.heap.size≠r:=by omega
 go_upto_region 2 with fail;have D1:=D0.alloc (.cells #[.int .i64 x,.int .i64 y] 24);have G1:PCell (w1.alloc (.cells #[.int .i64 x,.int .i64 y] 24)) w1.heap.size x y:=PCell.new _ _ x y _ rfl;have R1:=R0.alloc (.cells #[.int .i64 x,.int .i64 y] 24);have J1:=hid (J0.out.alloc (.cells #[.int .i64 x,.int .i64 y] 24));clear J0 R0 D0;have gc0:=G1.c0;have gc1:=G1.c1;have gf0:=G1.f0;have gf1:=G1.f1;have gl:=G1.lt;have dc0:=D1.c0;have dc1:=D1.c1;have dc2:=D1.c2;have dc3:=D1.c3;have df0:=D1.f0;have df1:=D1.f1;have df2:=D1.f2;have df3:=D1.f3;have dl:=D1.lt
 go_cut [4] (SP B r k w)
 case first =>
  go_region_held3 (fun w'=>w'.cell? ⟨w1.heap.size,0,none⟩=some (.int .i64 x)/\w'.cell? ⟨w1.heap.size,1,none⟩=some (.int .i64 y))
   (exact BW (by repeat (first | with_reducible exact G3 | with_reducible exact G2 | with_reducible exact G1 | with_reducible refine PCell.far ?_ (by omega) _ _ | with_reducible refine PCell.alloc ?_ _ | with_reducible refine PCell.drew ?_)))
   (first | (have _q:=R2; go_at_call 23; refine(Ay _ 50 _ _ (by first | exact R2 | exact R2.alloc _) (by omega) (by omega) (by omega)).mono ?_; rintro e w3 ⟨x3,⟨s3,t3⟩,rfl,R3,K3⟩; have G3:=PCell.kept (by first | with_reducible exact G2 | with_reducible exact G2.drew | with_reducible exact G2.alloc _ | with_reducible exact G2.drew.alloc _ | with_reducible exact(G2.alloc _).drew) K3 gn; have D3:=BCell.kept (by first | with_reducible exact D2 | with_reducible exact D2.drew | with_reducible exact D2.alloc _ | with_reducible exact D2.drew.alloc _ | with_reducible exact(D2.alloc _).drew) K3 dn; have J3:=hid (Kept.trans (by first | exact J2.out | exact J2.out.drew1 | exact J2.out.alloc _ | exact(J2.out.alloc _).drew1) K3); (first | (have Z3:=BCell.kept (by first | with_reducible exact Z2 | with_reducible exact Z2.drew | with_reducible exact Z2.alloc _ | with_reducible exact Z2.drew.alloc _ | with_reducible exact(Z2.alloc _).drew) K3 (by omega); have zc0:=Z3.c0; have zc1:=Z3.c1; have zc2:=Z3.c2; have zc3:=Z3.c3; have zf0:=Z3.f0; have zf1:=Z3.f1; have zf2:=Z3.f2; have zf3:=Z3.f3; have zl:=Z3.lt) | (have Z3:=BCell.newK K3 (by omega); have zc0:=Z3.c0; have zc1:=Z3.c1; have zc2:=Z3.c2; have zc3:=Z3.c3; have zf0:=Z3.f0; have zf1:=Z3.f1; have zf2:=Z3.f2; have zf3:=Z3.f3; have zl:=Z3.lt) | skip); have dc0:=D3.c0; have dc1:=D3.c1; have dc2:=D3.c2; have dc3:=D3.c3; have df0:=D3.f0; have df1:=D3.f1; have df2:=D3.f2; have df3:=D3.f3; have dl:=D3.lt; have gc0:=G3.c0; have gc1:=G3.c1; have gf0:=G3.f0; have gf1:=G3.f1; have gl:=G3.lt; clear K3) | (go_at_call 23; refine(Ay _ 50 _ _ (by first | exact RdU.drew R1 | exact RdU.drew (R1.alloc _)) (by omega) (by omega) (by omega)).mono ?_; rintro e w2 ⟨x2,⟨s2,t2⟩,rfl,R2,K2⟩; have G2:=PCell.kept (by first | with_reducible exact G1 | with_reducible exact G1.drew | with_reducible exact G1.alloc _ | with_reducible exact G1.drew.alloc _ | with_reducible exact(G1.alloc _).drew) K2 gn; have D2:=BCell.kept (by first | with_reducible exact D1 | with_reducible exact D1.drew | with_reducible exact D1.alloc _ | with_reducible exact D1.drew.alloc _ | with_reducible exact(D1.alloc _).drew) K2 dn; have J2:=hid (Kept.trans (by first | exact J1.out | exact J1.out.drew1 | exact J1.out.alloc _ | exact(J1.out.alloc _).drew1) K2); (first | (have Z2:=BCell.newE K2 (by omega); have zn:=Z2.lt; have zc0:=Z2.c0; have zc1:=Z2.c1; have zc2:=Z2.c2; have zc3:=Z2.c3; have zf0:=Z2.f0; have zf1:=Z2.f1; have zf2:=Z2.f2; have zf3:=Z2.f3; have zl:=Z2.lt) | (have Z2:=BCell.newD K2 (by omega); have zn:=Z2.lt; have zc0:=Z2.c0; have zc1:=Z2.c1; have zc2:=Z2.c2; have zc3:=Z2.c3; have zf0:=Z2.f0; have zf1:=Z2.f1; have zf2:=Z2.f2; have zf3:=Z2.f3; have zl:=Z2.lt) | skip); have dc0:=D2.c0; have dc1:=D2.c1; have dc2:=D2.c2; have dc3:=D2.c3; have df0:=D2.f0; have df1:=D2.f1; have df2:=D2.f2; have df3:=D2.f3; have dl:=D2.lt; have gc0:=G2.c0; have gc1:=G2.c1; have gf0:=G2.f0; have gf1:=G2.f1; have gl:=G2.lt; clear K2))
  all_goals
   go_wp2_with fail
   go_meet
   exact⟨_,x,y,_,_,(by omega),rfl,(by first | exact BCell.new _ _ _ _ _ _ _ rfl | exact(((Z3.set0 _).set1 _).set2 _).set3 _),(by first | exact D3.alloc _ | exact D3.fars (by omega) _ _ _ _),⟨⟨e1,e2⟩,e3,e4⟩,⟨(by first | exact MJ e1 e2 s2 t2 | omega),(by first | exact MJ e3 e4 s3 t3 | omega)⟩,(by first | exact(R3.alloc _).mono (by omega) | exact(R3.sets (by omega) _ _ _ _).mono (by omega)),(by first | exact J3.out.alloc _ | exact J3.out.sets (by omega) _ _ _ _)⟩
 case rest =>
  obtain⟨b,p,q,s,t,hb,rfl,Z,D,⟨⟨p1,p2⟩,q1,q2⟩,⟨⟨m1,m2⟩,m3,m4⟩,R4,J4⟩:=hcut;have J4:=hid J4;clear gc0 gc1 gf0 gf1 gl dc0 dc1 dc2 dc3 df0 df1 df2 df3 dl G1 D1 R1 J1;have bn:b≠r:=by omega
  have nb:w.heap.size≠b:=by omega
  have bn2:b≠w.heap.size:=by omega
  have zc0:=Z.c0;have zc1:=Z.c1;have zc2:=Z.c2;have zc3:=Z.c3;have zf0:=Z.f0;have zf1:=Z.f1;have zf2:=Z.f2;have zf3:=Z.f3;have zl:=Z.lt;have dc0:=D.c0;have dc1:=D.c1;have dc2:=D.c2;have dc3:=D.c3;have df0:=D.f0;have df1:=D.f1;have df2:=D.f2;have df3:=D.f3;have dl:=D.lt;go_wp2_with fail;refine(Ay r 16 (k+10) _ R4 (by omega) (by omega) (by omega)).mono ?_;rintro e w5 ⟨x5,⟨s5,t5⟩,rfl,R5,K5⟩;have Z5:=Z.kept K5 bn;have D5:=D.kept K5 dn;have J5:=hid (J4.out.trans K5);clear K5 J4 R4 zc0 zc1 zc2 zc3 zf0 zf1 zf2 zf3 zl dc0 dc1 dc2 dc3 df0 df1 df2 df3 dl Z D;have zc0:=Z5.c0;have zc1:=Z5.c1;have zc2:=Z5.c2;have zc3:=Z5.c3;have zf0:=Z5.f0
  have zf1:=Z5.f1;have zf2:=Z5.f2;have zf3:=Z5.f3;have zl:=Z5.lt;have dc0:=D5.c0;have dc1:=D5.c1;have dc2:=D5.c2;have dc3:=D5.c3;have df0:=D5.f0;have df1:=D5.f1;have df2:=D5.f2;have df3:=D5.f3;have dl:=D5.lt;by_cases c0:x5=0
  . subst c0;go_wp2_with fail
    go_region_held3 (fun w'=>w'.cell? ⟨b,0,none⟩=some (.int .i64 p))
     (first | exact Z6.c0 | exact Z5.c0 | exact(Z6.set2 _).c0)
     (first | (go_at_call 23; refine(Ay _ 3 (k+10+1) _ (RdU.drew R5) (by omega) (by omega) (by omega)).mono ?_; rintro e w6 ⟨x6,⟨s6,t6⟩,rfl,R6,K6⟩; have Z6:=Z5.drew.kept K6 bn; have D6:=D5.drew.kept K6 dn; have J6:=hid (J5.out.drew1.trans K6); clear K6; have yc0:=Z6.c0; have yc1:=Z6.c1; have yc2:=Z6.c2; have yc3:=Z6.c3; have yf0:=Z6.f0; have yf1:=Z6.f1; have yf2:=Z6.f2; have yf3:=Z6.f3; have yl:=Z6.lt; have uc0:=D6.c0; have uc1:=D6.c1; have uc2:=D6.c2; have uc3:=D6.c3; have uf0:=D6.f0; have uf1:=D6.f1; have uf2:=D6.f2; have uf3:=D6.f3; have ul:=D6.lt))
    all_goals
     have R6':=hid R6;clear R6 R5 J5;go_wp2;exact bodyPost_ret (v:=box p q (p-x6) t) (by simp[results,Tryz.results37,go_sem,yc0,yc1,yc2,yc3,uc0,uc1,uc2,uc3,nb,bn2]) rfl ⟨p,q,_,t,⟨⟨p1,p2⟩,q1,q2⟩,⟨⟨by omega,by omega⟩,m3,m4⟩,rfl,((R6'.out.set _ _ _ (by omega)).sets (by omega) _ _ _ _).mono (by omega),(J6.out.set _ _ _ (by omega)).sets (by omega) _ _ _ _⟩
  . have d0:(x5==0)=false:=beq_eq_false_iff_ne.2 c0;have R5':=hid R5;clear c0 R5;go_wp2;exact bodyPost_ret (v:=box p q s t) (by simp[results,Tryz.results37,go_sem,zc0,zc1,zc2,zc3,dc0,dc1,dc2,dc3]) rfl ⟨p,q,s,t,⟨⟨p1,p2⟩,q1,q2⟩,⟨⟨m1,m2⟩,m3,m4⟩,rfl,(R5'.out.sets (by omega) _ _ _ _).mono (by omega),J5.out.sets (by omega) _ _ _ _⟩
end Go.Proofs.YtaemcekcancpdaaGreatDoor
