import Derived.Test.YtaemcekcancpdaaGreatDoorZEngB
set_option linter.all false
set_option maxRecDepth 100000
set_option maxHeartbeats 8000000
open Go.Lib
namespace Go.Proofs.YtaemcekcancpdaaGreatDoor
open Go.RowKit
open M
theorem HG(i t x y:Int)(A:Option Addr)(n c:Nat)(G:Option Addr)(m kk:Nat)(fp fq fs fz b:Int)(ws gs:List Bx)(k ax ay fx fy u:Int)(gn:Nat)(d o:Bool)(s p:Int)(z:Bool)(w:World)(I:Boxes w A n ws)(J:Boxes w G m gs)(ok:Dh ws=true)(hn:n<=281474976710656)(hm:m<=281474976710656)(hB:StB m ⟨k,ax,ay,fx,fy,u,gn,d,o⟩)(hk9:k<1000000)(s1:-1<=s)(s2:s<=1) :
 Calls Tryz.prog 43 #[CX i t x y A n c G m kk fp fq fs fz b,Cd k ax ay fx fy u gn d o,DZ s p z] w fun e w'=>(∃ K X Y P Q U V D O,stS ws gs fp fq fs fz ⟨k,ax,ay,fx,fy,u,gn,d,o⟩ ⟨s,p,z⟩=⟨K,X,Y,P,Q,U,V,D,O⟩/\e=.returned (Cd K X Y P Q U V D O))/\Below w.heap.size w w':=by
 have k0:=hB.k.1;simp only at k0;have hB1:StB m ⟨k+1,ax,ay,fx,fy,u,gn,d,o⟩:=⟨hB.a,hB.f,hB.u,hB.g,by show 0<=k+1/\k+1<=1000000; omega⟩;have C:=fun(W:World) (Z:Boxes W A n ws) (Y:Boxes W G m gs)=>NO i t x y A n c G m kk fp fq fs fz b ws gs (k+1) ax ay fx fy u gn d o s p z W Z Y ok hn hm hB1 s1 s2;have I:=hid I;have J:=hid J;clear hB hB1
 have L:CellsAt ((((w.alloc (.cells #[.int .i64 i,.int .i64 t,.int .i64 x,.int .i64 y,.slice A n c,.slice G m kk,.int .i64 fp,.int .i64 fq,.int .i64 fs,.int .i64 fz,.int .i64 b] 29)).alloc (.cells #[.int .i64 k,.int .i64 ax,.int .i64 ay,.int .i64 fx,.int .i64 fy,.int .i64 u,.int .i64 gn,.bool d,.bool o] 34)).alloc (.cells #[.int .i64 s,.int .i64 p,.bool z] 65)).alloc (.cells #[.int .i64 0,.int .i64 0,.int .i64 0,.int .i64 0,.int .i64 0,.int .i64 0,.int .i64 0,.bool false,.bool false] 34)) w.heap.size (AX i t x y A n c G m kk fp fq fs fz b):=(((CellsAt.new w _ _ _ rfl).alloc _).alloc _).alloc _
 have S:CellsAt ((((w.alloc (.cells #[.int .i64 i,.int .i64 t,.int .i64 x,.int .i64 y,.slice A n c,.slice G m kk,.int .i64 fp,.int .i64 fq,.int .i64 fs,.int .i64 fz,.int .i64 b] 29)).alloc (.cells #[.int .i64 k,.int .i64 ax,.int .i64 ay,.int .i64 fx,.int .i64 fy,.int .i64 u,.int .i64 gn,.bool d,.bool o] 34)).alloc (.cells #[.int .i64 s,.int .i64 p,.bool z] 65)).alloc (.cells #[.int .i64 0,.int .i64 0,.int .i64 0,.int .i64 0,.int .i64 0,.int .i64 0,.int .i64 0,.bool false,.bool false] 34)) (w.heap.size+1) (AB k ax ay fx fy u gn d o):=((CellsAt.new _ _ _ _ (by simp)).alloc _).alloc _
 have X:CellsAt ((((w.alloc (.cells #[.int .i64 i,.int .i64 t,.int .i64 x,.int .i64 y,.slice A n c,.slice G m kk,.int .i64 fp,.int .i64 fq,.int .i64 fs,.int .i64 fz,.int .i64 b] 29)).alloc (.cells #[.int .i64 k,.int .i64 ax,.int .i64 ay,.int .i64 fx,.int .i64 fy,.int .i64 u,.int .i64 gn,.bool d,.bool o] 34)).alloc (.cells #[.int .i64 s,.int .i64 p,.bool z] 65)).alloc (.cells #[.int .i64 0,.int .i64 0,.int .i64 0,.int .i64 0,.int .i64 0,.int .i64 0,.int .i64 0,.bool false,.bool false] 34)) (w.heap.size+1+1) (ins s p z):=(CellsAt.new _ _ _ _ (by simp)).alloc _
 have D:CellsAt ((((w.alloc (.cells #[.int .i64 i,.int .i64 t,.int .i64 x,.int .i64 y,.slice A n c,.slice G m kk,.int .i64 fp,.int .i64 fq,.int .i64 fs,.int .i64 fz,.int .i64 b] 29)).alloc (.cells #[.int .i64 k,.int .i64 ax,.int .i64 ay,.int .i64 fx,.int .i64 fy,.int .i64 u,.int .i64 gn,.bool d,.bool o] 34)).alloc (.cells #[.int .i64 s,.int .i64 p,.bool z] 65)).alloc (.cells #[.int .i64 0,.int .i64 0,.int .i64 0,.int .i64 0,.int .i64 0,.int .i64 0,.int .i64 0,.bool false,.bool false] 34)) (w.heap.size+1+1+1) (AB 0 0 0 0 0 0 0 false false):=CellsAt.new _ _ _ _ (by simp)
 have H:=hid (Aa (Aa (Aa (Aa (Ac w) (.cells #[.int .i64 i,.int .i64 t,.int .i64 x,.int .i64 y,.slice A n c,.slice G m kk,.int .i64 fp,.int .i64 fq,.int .i64 fs,.int .i64 fz,.int .i64 b] 29)) (.cells #[.int .i64 k,.int .i64 ax,.int .i64 ay,.int .i64 fx,.int .i64 fy,.int .i64 u,.int .i64 gn,.bool d,.bool o] 34)) (.cells #[.int .i64 s,.int .i64 p,.bool z] 65)) (.cells #[.int .i64 0,.int .i64 0,.int .i64 0,.int .i64 0,.int .i64 0,.int .i64 0,.int .i64 0,.bool false,.bool false] 34));cases d
 rotate_left
 . have E:=hid (show stS ws gs fp fq fs fz ⟨k,ax,ay,fx,fy,u,gn,true,o⟩ ⟨s,p,z⟩=⟨k,ax,ay,fx,fy,u,gn,true,o⟩ by simp[stS]);clear C;obtain⟨Sc0,Sc1,Sc2,Sc3,Sc4,Sc5,Sc6,Sc7,Sc8⟩:=Be S;have Sl:=S.lt;go_enter Tryz.func43,Tryz.ntmps43;go_upto_region 2 with fail;clear Sc0 Sc1 Sc2 Sc3 Sc4 Sc5 Sc6 Sc7 Sc8 Sl ;refine wp_region_lit ?_;refine Af rfl 34 (.tmp 4) rfl (w.heap.size+1) rfl (AB k ax ay fx fy u gn true o) S Tryz.underlying34 rfl Ae ?_;refine Ai rfl 34 (.tmp 6) (.tmp 13) rfl (w.heap.size+1+1+1) rfl (AB k ax ay fx fy u gn true o) rfl _ D (by simp) Ae rfl ?_;intro w8 K N;clear S D
   replace H:=hid (Ao H.out K (by omega));go_wp2;exact bodyPost_ret (v:=Cd k ax ay fx fy u gn true o) (An rfl (w.heap.size+1+1+1) rfl (AB k ax ay fx fy u gn true o) N Tryz.underlying34 rfl Ae) rfl ⟨⟨_,_,_,_,_,_,_,_,_,E.out,rfl⟩,H.out⟩
 cases o
 rotate_left
 . have E:=hid (show stS ws gs fp fq fs fz ⟨k,ax,ay,fx,fy,u,gn,false,true⟩ ⟨s,p,z⟩=⟨k,ax,ay,fx,fy,u,gn,false,true⟩ by simp[stS]);clear C;obtain⟨Sc0,Sc1,Sc2,Sc3,Sc4,Sc5,Sc6,Sc7,Sc8⟩:=Be S;have Sl:=S.lt;go_enter Tryz.func43,Tryz.ntmps43;go_upto_region 2 with fail;clear Sc0 Sc1 Sc2 Sc3 Sc4 Sc5 Sc6 Sc7 Sc8 Sl ;refine wp_region_lit ?_;refine Af rfl 34 (.tmp 4) rfl (w.heap.size+1) rfl (AB k ax ay fx fy u gn false true) S Tryz.underlying34 rfl Ae ?_;refine Ai rfl 34 (.tmp 6) (.tmp 13) rfl (w.heap.size+1+1+1) rfl (AB k ax ay fx fy u gn false true) rfl _ D (by simp) Ae rfl ?_;intro w8 K N;clear S D
   replace H:=hid (Ao H.out K (by omega));go_wp2;exact bodyPost_ret (v:=Cd k ax ay fx fy u gn false true) (An rfl (w.heap.size+1+1+1) rfl (AB k ax ay fx fy u gn false true) N Tryz.underlying34 rfl Ae) rfl ⟨⟨_,_,_,_,_,_,_,_,_,E.out,rfl⟩,H.out⟩
 cases z
 rotate_left
 . have E:=hid (show stS ws gs fp fq fs fz ⟨k,ax,ay,fx,fy,u,gn,false,false⟩ ⟨s,p,true⟩=⟨k+1,ax,ay,fx,fy,u,gn,false,false⟩ by simp[stS]);clear C;obtain⟨Sc0,Sc1,Sc2,Sc3,Sc4,Sc5,Sc6,Sc7,Sc8⟩:=Be S;have Sl:=S.lt;have Sf0:=S.fr 0;have Sf1:=S.fr 1;have Sf2:=S.fr 2;have Sf3:=S.fr 3;have Sf4:=S.fr 4;have Sf5:=S.fr 5;have Sf6:=S.fr 6;have Sf7:=S.fr 7;have Sf8:=S.fr 8;obtain⟨Xc0,Xc1,Xc2⟩:=BQ X;have Xl:=X.lt;go_enter Tryz.func43,Tryz.ntmps43;go_upto_region 5 with fail
   refine AD (fun W'=>CellsAt W' w.heap.size (AX i t x y A n c G m kk fp fq fs fz b)/\CellsAt W' (w.heap.size+1) (AB (k+1) ax ay fx fy u gn false false)/\CellsAt W' (w.heap.size+1+1) (ins s p true)/\CellsAt W' (w.heap.size+1+1+1) (AB 0 0 0 0 0 0 0 false false)/\Below w.heap.size w W') ⟨(((CellsAt.new w _ _ _ rfl).alloc _).alloc _).alloc _,((CellsAt.new _ _ _ _ (by simp)).alloc _).alloc _,(CellsAt.new _ _ _ _ (by simp)).alloc _,CellsAt.new _ _ _ _ (by simp),Aa (Aa (Aa (Aa (Ac w) _) _) _) _⟩ ?_;clear L S X D H Sc0 Sc1 Sc2 Sc3 Sc4 Sc5 Sc6 Sc7 Sc8 Sl Xc0 Xc1 Xc2 Xl Sf0 Sf1 Sf2 Sf3 Sf4 Sf5 Sf6 Sf7 Sf8;rintro w1 ⟨L,S,X,D,H⟩
   replace H:=hid H;refine wp_region_lit ?_;refine Af rfl 34 (.tmp 4) rfl (w.heap.size+1) rfl (AB (k+1) ax ay fx fy u gn false false) S Tryz.underlying34 rfl Ae ?_;refine Ai rfl 34 (.tmp 6) (.tmp 20) rfl (w.heap.size+1+1+1) rfl (AB (k+1) ax ay fx fy u gn false false) rfl _ D (by simp) Ae rfl ?_;intro w8 K N;clear S D;replace H:=hid (Ao H.out K (by omega));go_wp2;exact bodyPost_ret (v:=Cd (k+1) ax ay fx fy u gn false false) (An rfl (w.heap.size+1+1+1) rfl (AB (k+1) ax ay fx fy u gn false false) N Tryz.underlying34 rfl Ae) rfl ⟨⟨_,_,_,_,_,_,_,_,_,E.out,rfl⟩,H.out⟩
 have ES:=hid (show stS ws gs fp fq fs fz ⟨k,ax,ay,fx,fy,u,gn,false,false⟩ ⟨s,p,false⟩=Hg ws gs fp fq fs fz ⟨k+1,ax,ay,fx,fy,u,gn,false,false⟩ s p by simp[stS]);replace C:=hid C;obtain⟨Sc0,Sc1,Sc2,Sc3,Sc4,Sc5,Sc6,Sc7,Sc8⟩:=Be S;have Sl:=S.lt;have Sf0:=S.fr 0;have Sf1:=S.fr 1;have Sf2:=S.fr 2;have Sf3:=S.fr 3;have Sf4:=S.fr 4;have Sf5:=S.fr 5;have Sf6:=S.fr 6;have Sf7:=S.fr 7;have Sf8:=S.fr 8;obtain⟨Xc0,Xc1,Xc2⟩:=BQ X;have Xl:=X.lt;go_enter Tryz.func43,Tryz.ntmps43;go_upto_region 6 with fail
 refine AD (fun W'=>CellsAt W' w.heap.size (AX i t x y A n c G m kk fp fq fs fz b)/\CellsAt W' (w.heap.size+1) (AB (k+1) ax ay fx fy u gn false false)/\CellsAt W' (w.heap.size+1+1) (ins s p false)/\CellsAt W' (w.heap.size+1+1+1) (AB 0 0 0 0 0 0 0 false false)/\Below w.heap.size w W') ⟨(((CellsAt.new w _ _ _ rfl).alloc _).alloc _).alloc _,((CellsAt.new _ _ _ _ (by simp)).alloc _).alloc _,(CellsAt.new _ _ _ _ (by simp)).alloc _,CellsAt.new _ _ _ _ (by simp),Aa (Aa (Aa (Aa (Ac w) _) _) _) _⟩ ?_;clear L S X D H Sc0 Sc1 Sc2 Sc3 Sc4 Sc5 Sc6 Sc7 Sc8 Sl Xc0 Xc1 Xc2 Xl Sf0 Sf1 Sf2 Sf3 Sf4 Sf5 Sf6 Sf7 Sf8;rintro w1 ⟨L,S,X,D,H⟩
 replace H:=hid H;obtain⟨Lc0,Lc1,Lc2,Lc3,Lc4,Lc5,Lc6,Lc7,Lc8,Lc9,Lc10⟩:=AL L;have Ll:=L.lt;obtain⟨Sc0,Sc1,Sc2,Sc3,Sc4,Sc5,Sc6,Sc7,Sc8⟩:=Be S;have Sl:=S.lt;obtain⟨Xc0,Xc1,Xc2⟩:=BQ X;have Xl:=X.lt;go_wp2_with fail;refine(C.out _ (I.out.step H.out) (J.out.step H.out)).mono ?_;rintro e w2 ⟨⟨K,X',Y',P',Q',U',V',D',O',eM,rfl⟩,B⟩;replace L:=L.step B;replace S:=S.step B;replace X:=X.step B;replace D:=D.step B;replace H:=hid (Ab H.out B);clear B;clear Lc0 Lc1 Lc2 Lc3 Lc4 Lc5 Lc6 Lc7 Lc8 Lc9 Lc10 Ll Sc0 Sc1 Sc2 Sc3 Sc4 Sc5 Sc6 Sc7 Sc8 Sl Xc0 Xc1 Xc2 Xl  C;have E:=hid (ES.out.trans eM);clear eM ES L S X
 go_wp2_with (refine Ai rfl 34 (.tmp 6) (.tmp 24) rfl (w.heap.size+1+1+1) rfl (AB K X' Y' P' Q' U' V' D' O') rfl _ D (by simp) Ae rfl ?_);intro w8 Kp N;clear D;replace H:=hid (Ao H.out Kp (by omega));go_wp2;exact bodyPost_ret (v:=Cd K X' Y' P' Q' U' V' D' O') (An rfl (w.heap.size+1+1+1) rfl (AB K X' Y' P' Q' U' V' D' O') N Tryz.underlying34 rfl Ae) rfl ⟨⟨_,_,_,_,_,_,_,_,_,E.out,rfl⟩,H.out⟩
open Go.RowKit
open M
def M.ownB(k ax ay fx fy u g:Int)(d o:Bool):Bool:=Bc k 0 60&&(Aw ax ay&&(Aw fx fy&&(decide (vl fx fy<=2000)&&(Bc u 0 15&&(Bc g 0 3&&!(d&&o))))))
open Go.RowKit
open M
def M.evB(i t x y:Int)(ws gs:List Bx)(fp fq fs fz b:Int)(k ax ay fx fy u g:Int)(d o:Bool):Bool:=Cr i t x y ws gs fp fq fs fz b&&(ownB k ax ay fx fy u g d o&&(decide (k<=t)&&(decide (g<=gs.length)&&(Cw ws ax ay&&(!d||decide (g=gs.length))))))
theorem SR{k ax ay fx fy u g:Int}{d o:Bool}(h:ownB k ax ay fx fy u g d o=true):Aw ax ay=true/\(0<=g/\g<=3):=by
 simp only[ownB,Bool.and_eq_true] at h;exact⟨h.2.1,by simpa[Bc] using h.2.2.2.2.2.1⟩
open Go.RowKit
open M
def M.eoB(i t x y:Int)(ws gs:List Bx)(fp fq fs fz b:Int)(k ax ay fx fy u g:Int)(d o:Bool)(s p:Int)(z:Bool):Bool:=evB i t x y ws gs fp fq fs fz b k ax ay fx fy u g d o&&(DY s p z&&!(decide (t<=k)&&(!d&&!o)))
def M.esS(i t x y:Int)(ws gs:List Bx)(fp fq fs fz b:Int)(k ax ay fx fy u g:Int)(d o:Bool)(s p:Int)(z:Bool):St:=if eoB i t x y ws gs fp fq fs fz b k ax ay fx fy u g d o s p z then stS ws gs fp fq fs fz ⟨k,ax,ay,fx,fy,u,g,d,o⟩ ⟨s,p,z⟩ else ⟨0,0,0,0,0,0,0,false,false⟩
theorem LU{i t x y:Int}{ws gs:List Bx}{fp fq fs fz b:Int}{k ax ay fx fy u g:Int}{d o:Bool}(h:evB i t x y ws gs fp fq fs fz b k ax ay fx fy u g d o=true):Cr i t x y ws gs fp fq fs fz b=true/\ownB k ax ay fx fy u g d o=true/\g<=gs.length/\Cw ws ax ay=true:=by
 simp only[evB,Bool.and_eq_true,decide_eq_true_eq] at h;exact⟨h.1,h.2.1,h.2.2.2.1,h.2.2.2.2.1⟩
theorem Sr{i t x y:Int}{ws gs:List Bx}{fp fq fs fz b:Int}{k ax ay fx fy u g:Int}{d o:Bool}{m:Nat}(h:evB i t x y ws gs fp fq fs fz b k ax ay fx fy u g d o=true)(hm:gs.length=m):StB m ⟨k,ax,ay,fx,fy,u,g,d,o⟩:=by
 obtain⟨_,h2,h3,_⟩:=LU h;have h2':=h2;simp only[ownB,Bool.and_eq_true,decide_eq_true_eq] at h2;obtain⟨k1,a1,f1,l1,u1,g1,_⟩:=h2;obtain⟨q,e,_,m1,m2,_⟩:=NF f1;rw[Fz f1] at e;have k2:0<=k/\k<=60:=by simpa[Bc] using k1
 have u2:0<=u/\u<=15:=by simpa[Bc] using u1
 have g2:0<=g/\g<=3:=by simpa[Bc] using g1
 exact⟨(AZ ax ay).1 a1,⟨⟨by show -2000<=fx; omega,by show fx<=2000; omega⟩,by show -2000<=fy; omega,by show fy<=2000; omega⟩,u2,⟨g2.1,by show g<=(m:Int); omega⟩,by show 0<=k; omega,by show k<=1000000; omega⟩
open Go.RowKit
open M
end Go.Proofs.YtaemcekcancpdaaGreatDoor
namespace Go.Proofs.YtaemcekcancpdaaGreatDoor
namespace M
theorem MQ{a c:Int}(h:c.natAbs<=1000):(mu a c).natAbs<=a.natAbs:=by
 unfold mu;rw[Int.natAbs_tdiv,Int.natAbs_mul];exact Nat.div_le_of_le_mul (Nat.le_trans (Nat.mul_le_mul_left _ h) (Nat.le_of_eq (Nat.mul_comm _ _)))
theorem Ri(f:Int):(-f.tdiv 2).natAbs<=f.natAbs:=by
 rw[Int.natAbs_neg,Int.natAbs_tdiv];exact Nat.div_le_self _ _
theorem Pj(b:Bool)(f:Int):(MX b f).natAbs<=f.natAbs:=by
 cases b
 . exact Ri f
 . exact Nat.le_refl _
theorem Su{x y x' y':Int}(hx:x'.natAbs<=x.natAbs)(hy:y'.natAbs<=y.natAbs):vl x' y'<=vl x y:=by
 have a:=BS hx;have b:=BS hy;have c:=BS (a:=0) (b:=x') (by omega);have d:=BS (a:=0) (b:=y') (by omega);exact RA (by omega) (by omega)
theorem Sv{fx fy u p:Int}(hp:p≠1):(E6 fx fy u p).natAbs<=fx.natAbs/\(E7 fx fy u p).natAbs<=fy.natAbs:=by
 unfold E6 E7;rw[if_neg hp,if_neg hp];by_cases h2:p=2
 . rw[if_pos h2,if_pos h2];exact⟨MQ (by decide),MQ (by decide)⟩
 . rw[if_neg h2,if_neg h2];exact⟨MQ (by decide),MQ (by decide)⟩
theorem SS{fx fy u p:Int}(hv:vl fx fy<=2000)(x1:-2000<=fx)(x2:fx<=2000)(y1:-2000<=fy)(y2:fy<=2000)(u0:0<=u)(u1:u<=15):vl (E6 fx fy u p) (E7 fx fy u p)<=2000:=by
 by_cases hp:p=1
 . have q:=De u0 u1;have hc:LJ (fx+mu (BL u) 200) (fy+mu (BM u) 200) 2000=true:=My (CH ⟨⟨by omega,by omega⟩,by omega,by omega⟩) (by decide);unfold E6 E7;rw[if_pos hp,if_pos hp];obtain⟨X,Y,e1,e2,_,_,_,hl,_⟩:=ND hc;rw[e1,e2];exact hl
 . have q:=Sv (fx:=fx) (fy:=fy) (u:=u) hp;exact Int.le_trans (Su q.1 q.2) hv
theorem Pk{ws:List Bx}{k ax ay f1 f2 u g X Y P Q:Int}{d o:Bool}(e:Gp ws ⟨k,ax,ay,f1,f2,u,g,d,o⟩=⟨k,X,Y,P,Q,u,g,d,o⟩)(hf:Cw ws ax ay=true) :
 Cw ws X Y=true/\(X=ax\/X=ax+f1)/\(Y=ay\/Y=ay+f2)/\P.natAbs<=f1.natAbs/\Q.natAbs<=f2.natAbs/\(ws.length=0->X=ax+f1/\Y=ay+f2/\P=f1/\Q=f2):=by
 unfold Gp at e;simp only[St.mk.injEq,true_and,and_true] at e;obtain⟨e1,e2,e3,e4⟩:=e;refine⟨?_,?_,?_,by rw[<- e3]; exact Pj _ _,by rw[<- e4]; exact Pj _ _,?_⟩
 . cases p:Cw ws (ax+f1) ay
   . rw[p] at e1 e2;replace e1:ax=X:=e1;subst e1;cases q:Cw ws ax (ay+f2)
     . simp only[IZ,Bool.false_eq_true,if_false,q] at e2;subst e2;exact hf
     . simp only[IZ,Bool.false_eq_true,if_false,q,if_true] at e2;subst e2;exact q
   . rw[p] at e1 e2;replace e1:ax+f1=X:=e1;subst e1;cases q:Cw ws (ax+f1) (ay+f2)
     . simp only[IZ,if_true,q,Bool.false_eq_true,if_false] at e2;subst e2;exact p
     . simp only[IZ,if_true,q] at e2;subst e2;exact q
 . rw[<- e1];unfold IZ;split
   . exact .inr rfl
   . exact .inl rfl
 . rw[<- e2];generalize Cw ws _ (ay+f2)=q;cases q
   . exact .inl rfl
   . exact .inr rfl
 . intro h;obtain rfl:=List.eq_nil_of_length_eq_zero h;refine⟨e1.symm,e2.symm,e3.symm,e4.symm⟩
theorem Pm(gs:List Bx)(g X Y:Int):EY gs g X Y=g\/(EY gs g X Y=g+1/\g<gs.length/\Du (gs.getD g.toNat bz).a (gs.getD g.toNat bz).b (gs.getD g.toNat bz).c (gs.getD g.toNat bz).d X Y=true):=by
 unfold EY;cases h:QW gs g X Y
 . exact .inl rfl
 . simp only[QW,Bool.and_eq_true,decide_eq_true_eq] at h;exact .inr ⟨rfl,h.1,h.2⟩
theorem Pn(ws gs:List Bx)(fp fq fs fz k ax ay fx fy u g:Int)(d o:Bool)(s p:Int)(z:Bool) :
 ((d||o)=true/\stS ws gs fp fq fs fz ⟨k,ax,ay,fx,fy,u,g,d,o⟩ ⟨s,p,z⟩=⟨k,ax,ay,fx,fy,u,g,d,o⟩) \/
 (d=false/\o=false/\z=true/\stS ws gs fp fq fs fz ⟨k,ax,ay,fx,fy,u,g,d,o⟩ ⟨s,p,z⟩=⟨k+1,ax,ay,fx,fy,u,g,false,false⟩) \/
 (d=false/\o=false/\z=false/\stS ws gs fp fq fs fz ⟨k,ax,ay,fx,fy,u,g,d,o⟩ ⟨s,p,z⟩=⟨k+1,ax,ay,fx,fy,u,g,false,true⟩) \/
 (d=false/\o=false/\z=false/\∃ X Y P Q,Aw X Y=true/\Gp ws ⟨k+1,ax,ay,E6 fx fy ((u+s) % 16) p,E7 fx fy ((u+s) % 16) p,(u+s) % 16,g,false,false⟩=⟨k+1,X,Y,P,Q,(u+s) % 16,g,false,false⟩ /\
  stS ws gs fp fq fs fz ⟨k,ax,ay,fx,fy,u,g,d,o⟩ ⟨s,p,z⟩=⟨k+1,X,Y,P,Q,(u+s) % 16,EY gs g X Y,decide (EY gs g X Y=gs.length)&&Du fp fq fs fz X Y,false⟩):=by
 cases d
 . cases o
   . refine .inr ?_;cases z
     . refine .inr ?_;have e:stS ws gs fp fq fs fz ⟨k,ax,ay,fx,fy,u,g,false,false⟩ ⟨s,p,false⟩=Hg ws gs fp fq fs fz ⟨k+1,ax,ay,fx,fy,u,g,false,false⟩ s p:=by simp[stS]
       have e2:Sw ws ⟨k+1,ax,ay,fx,fy,u,g,false,false⟩ s p=Gp ws ⟨k+1,ax,ay,E6 fx fy ((u+s) % 16) p,E7 fx fy ((u+s) % 16) p,(u+s) % 16,g,false,false⟩:=rfl;obtain⟨X,Y,P,Q,e3⟩:∃ X Y P Q,Gp ws ⟨k+1,ax,ay,E6 fx fy ((u+s) % 16) p,E7 fx fy ((u+s) % 16) p,(u+s) % 16,g,false,false⟩=⟨k+1,X,Y,P,Q,(u+s) % 16,g,false,false⟩:=⟨_,_,_,_,rfl⟩;cases hv:Aw X Y
       . refine .inl ⟨rfl,rfl,rfl,?_⟩;rw[e];unfold Hg;rw[e2,e3];simp[hv]
       . refine .inr ⟨rfl,rfl,rfl,X,Y,P,Q,hv,e3,?_⟩;rw[e];unfold Hg;rw[e2,e3];simp[hv]
     . exact .inl ⟨rfl,rfl,rfl,by simp[stS]⟩
   . exact .inl ⟨rfl,by simp[stS]⟩
 . exact .inl ⟨rfl,by simp[stS]⟩
theorem Hl(k ax ay fx fy u g:Int)(d o:Bool):ownB k ax ay fx fy u g d o=true↔(0<=k/\k<=60)/\Aw ax ay=true/\Aw fx fy=true/\vl fx fy<=2000/\(0<=u/\u<=15)/\(0<=g/\g<=3)/\(d&&o)=false:=by
 simp only[ownB,Bc,Bool.and_eq_true,decide_eq_true_eq,Bool.not_eq_true']
theorem JJ(i t x y:Int)(ws gs:List Bx)(fp fq fs fz b k ax ay fx fy u g:Int)(d o:Bool):evB i t x y ws gs fp fq fs fz b k ax ay fx fy u g d o=true↔Cr i t x y ws gs fp fq fs fz b=true/\ownB k ax ay fx fy u g d o=true/\k<=t/\g<=gs.length/\Cw ws ax ay=true/\(d=true->g=gs.length):=by
 simp only[evB,Bool.and_eq_true,decide_eq_true_eq,Bool.or_eq_true,Bool.not_eq_true'];cases d<;>simp
theorem JK(i t x y:Int)(ws gs:List Bx)(fp fq fs fz b k ax ay fx fy u g:Int)(d o:Bool)(s p:Int)(z:Bool):eoB i t x y ws gs fp fq fs fz b k ax ay fx fy u g d o s p z=true↔evB i t x y ws gs fp fq fs fz b k ax ay fx fy u g d o=true/\DY s p z=true/\(k<t\/(d||o)=true):=by
 simp only[eoB,Bool.and_eq_true];cases d<;>cases o<;>simp
theorem Po{i t x y:Int}{ws gs:List Bx}{fp fq fs fz b k ax ay fx fy u g:Int}{d o:Bool}{s p:Int}{z:Bool}(h:eoB i t x y ws gs fp fq fs fz b k ax ay fx fy u g d o s p z=true):esS i t x y ws gs fp fq fs fz b k ax ay fx fy u g d o s p z=stS ws gs fp fq fs fz ⟨k,ax,ay,fx,fy,u,g,d,o⟩ ⟨s,p,z⟩:=by simp[esS,h]
section
variable {i t x y:Int} {ws gs:List Bx} {fp fq fs fz b k ax ay fx fy u g:Int} {d o:Bool} {s p:Int} {z:Bool} {K X Y P Q U V:Int} {D O:Bool}
structure Tick(t:Int)(ws gs:List Bx)(fp fq fs fz k ax ay fx fy u g:Int)(d o:Bool)(s p:Int)(z:Bool)(K X Y P Q U V:Int)(D O:Bool):Prop where
 stop:(d||o)=true->K=k/\X=ax/\Y=ay/\P=fx/\Q=fy/\U=u/\V=g/\D=d/\O=o
 tick:(d||o)=false->K=k+1
 vok:Aw X Y=true
 free:Cw ws X Y=true
 len:vl P Q<=2000
 near:(-2000<=X-ax/\X-ax<=2000)/\(-2000<=Y-ay/\Y-ay<=2000)
 gate:V=g\/(V=g+1/\g<gs.length/\Du (gs.getD g.toNat bz).a (gs.getD g.toNat bz).b (gs.getD g.toNat bz).c (gs.getD g.toNat bz).d X Y=true)
 fin:d=false->D=true->V=gs.length/\Du fp fq fs fz X Y=true
 over:o=false->O=true->X=ax/\Y=ay/\P=fx/\Q=fy/\U=u/\V=g/\D=d
 turn:(d||o)=false->O=false->U=(u+s) % 16
 roll:p≠1->P.natAbs<=fx.natAbs/\Q.natAbs<=fy.natAbs
 move:ws.length=0->(d||o)=false->O=false->z=false->X=ax+P/\Y=ay+Q/\P=E6 fx fy ((u+s) % 16) p/\Q=E7 fx fy ((u+s) % 16) p
 wait:(d||o)=false->z=true->K=k+1/\X=ax/\Y=ay/\P=fx/\Q=fy/\U=u/\V=g/\D=d/\O=o
 both:(D&&O)=false
 dgs:D=true->V=gs.length
 fr:(-2000<=P/\P<=2000)/\(-2000<=Q/\Q<=2000)
 ur:0<=U/\U<=15
 gr:0<=V/\V<=gs.length
theorem JL(h:eoB i t x y ws gs fp fq fs fz b k ax ay fx fy u g d o s p z=true)(e:esS i t x y ws gs fp fq fs fz b k ax ay fx fy u g d o s p z=⟨K,X,Y,P,Q,U,V,D,O⟩):Tick t ws gs fp fq fs fz k ax ay fx fy u g d o s p z K X Y P Q U V D O:=by
 obtain⟨hev,hin,hrun⟩:=(JK ..).1 h;have hB:=Sr hev rfl;obtain⟨hlv,how,hkt,hg,hfr,hdg⟩:=(JJ ..).1 hev;obtain⟨hk,hat,hfa,hlen,hu,hg3,hdo⟩:=(Hl ..).1 how;obtain⟨_,⟨⟨f1,f2⟩,f3,f4⟩,_,_,_⟩:=hB;simp only at f1 f2 f3 f4;have hz:=(E4 hin).2.2;rw[Po h] at e;rcases Pn ws gs fp fq fs fz k ax ay fx fy u g d o s p z with⟨h1,e1⟩ | ⟨rfl,rfl,rfl,e1⟩ | ⟨rfl,rfl,rfl,e1⟩ | ⟨rfl,rfl,rfl,A,B,C,E,hv,em,e1⟩
 . rw[e1] at e;injection e with a1 a2 a3 a4 a5 a6 a7 a8 a9;subst a1 a2 a3 a4 a5 a6 a7 a8 a9;exact⟨fun _=>⟨rfl,rfl,rfl,rfl,rfl,rfl,rfl,rfl,rfl⟩,fun c=>(by rw[h1] at c; cases c),hat,hfr,hlen,by omega,.inl rfl,fun c c'=>(by rw[c] at c'; cases c'),fun c c'=>(by rw[c] at c'; cases c'),fun c=>(by rw[h1] at c; cases c),fun _=>⟨Nat.le_refl _,Nat.le_refl _⟩,fun _ c=>(by rw[h1] at c; cases c),fun c=>(by rw[h1] at c; cases c),hdo,hdg,⟨⟨f1,f2⟩,f3,f4⟩,hu,by omega⟩
 . rw[e1] at e;injection e with a1 a2 a3 a4 a5 a6 a7 a8 a9;subst a1 a2 a3 a4 a5 a6 a7 a8 a9;obtain⟨rfl,rfl⟩:=hz rfl;exact⟨fun c=>(by cases c),fun _=>rfl,hat,hfr,hlen,by omega,.inl rfl,fun _ c=>(by cases c),fun _ c=>(by cases c),fun _ _=>(by omega),fun _=>⟨Nat.le_refl _,Nat.le_refl _⟩,fun _ _ _ c=>(by cases c),fun _ _=>⟨rfl,rfl,rfl,rfl,rfl,rfl,rfl,rfl,rfl⟩,rfl,fun c=>(by cases c),⟨⟨f1,f2⟩,f3,f4⟩,hu,by omega⟩
 . rw[e1] at e;injection e with a1 a2 a3 a4 a5 a6 a7 a8 a9;subst a1 a2 a3 a4 a5 a6 a7 a8 a9;exact⟨fun c=>(by cases c),fun _=>rfl,hat,hfr,hlen,by omega,.inl rfl,fun _ c=>(by cases c),fun _ _=>⟨rfl,rfl,rfl,rfl,rfl,rfl,rfl⟩,fun _ c=>(by cases c),fun _=>⟨Nat.le_refl _,Nat.le_refl _⟩,fun _ _ c=>(by cases c),fun _ c=>(by cases c),rfl,fun c=>(by cases c),⟨⟨f1,f2⟩,f3,f4⟩,hu,by omega⟩
 . rw[e1] at e;injection e with a1 a2 a3 a4 a5 a6 a7 a8 a9;subst a1 a2 a3 a4 a5 a6 a7 a8 a9;have uu:0<=(u+s) % 16/\(u+s) % 16<=15:=by omega
   obtain⟨m1,m2,m3,m4,m5,m6⟩:=Pk em hfr;have ff:=DO (p:=p) f1 f2 f3 f4 uu.1 uu.2;have fl:=SS (p:=p) hlen f1 f2 f3 f4 uu.1 uu.2;have gf:=Pm gs g A B;refine⟨fun c=>(by cases c),fun _=>rfl,hv,m1,Int.le_trans (Su m4 m5) fl,by omega,gf,fun _ c=>?_,fun _ c=>(by cases c),fun _ _=>rfl,fun hp=>?_,fun hw _ _ _=>?_,fun _ c=>(by cases c),by simp,fun c=>?_,by omega,uu,by omega⟩
   . simp only[Bool.and_eq_true,decide_eq_true_eq] at c;exact c
   . have q:=Sv (fx:=fx) (fy:=fy) (u:=(u+s) % 16) hp;exact⟨Nat.le_trans m4 q.1,Nat.le_trans m5 q.2⟩
   . obtain⟨w1,w2,w3,w4⟩:=m6 hw;exact⟨by rw[w3]; exact w1,by rw[w4]; exact w2,w3,w4⟩
   . simp only[Bool.and_eq_true,decide_eq_true_eq] at c;exact c.1
theorem NP(h:eoB i t x y ws gs fp fq fs fz b k ax ay fx fy u g d o s p z=true)(e:esS i t x y ws gs fp fq fs fz b k ax ay fx fy u g d o s p z=⟨K,X,Y,P,Q,U,V,D,O⟩):evB i t x y ws gs fp fq fs fz b K X Y P Q U V D O=true:=by
 have T:=JL h e;obtain⟨hev,hin,hrun⟩:=(JK ..).1 h;obtain⟨hlv,how,hkt,hg,hfr,hdg⟩:=(JJ ..).1 hev;obtain⟨hk,hat,hfa,hlen,hu,hg3,hdo⟩:=(Hl ..).1 how;have ht:=KP hlv;have hgl:=((Di ..).1 hlv).2.2.2.2.2.1;have hK:0<=K/\K<=t:=by
  cases c:(d||o)
  . have q:=T.tick c;rcases hrun with r | r
    . omega
    . rw[c] at r; cases r
  . have q:=(T.stop c).1;omega
 have q1:=T.fr;have q2:=T.gr;exact(JJ ..).2 ⟨hlv,(Hl ..).2 ⟨by omega,T.vok,CH (by omega),T.len,T.ur,by omega,T.both⟩,hK.2,q2.2,T.free,T.dgs⟩
theorem Pp(h:Cr i t x y ws gs fp fq fs fz b=true):evB i t x y ws gs fp fq fs fz b 0 x y 0 0 0 0 false false=true:=by
 have g:=(Di ..).1 h;have ht:=KP h;have z0:=Sp;rw[Fz z0.2] at z0;exact(JJ ..).2 ⟨h,(Hl ..).2 ⟨by omega,g.2.2.1,z0.2,by omega,by omega,by omega,rfl⟩,by omega,by omega,g.2.2.2.2.2.2.2.2.2,fun c=>by cases c⟩
end
end M
end Go.Proofs.YtaemcekcancpdaaGreatDoor
