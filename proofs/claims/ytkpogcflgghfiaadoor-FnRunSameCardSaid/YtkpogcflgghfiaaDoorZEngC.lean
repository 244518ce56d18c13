import Derived.Test.YtkpogcflgghfiaaDoorZEngB
import Derived.Test.YtkpogcflgghfiaaDoorZHead
import Derived.Test.YtkpogcflgghfiaaDoorZInS
import Derived.Maps.OwnSet
set_option linter.all false
set_option maxRecDepth 100000
set_option maxHeartbeats 8000000
open Go.Lib
namespace Go.Proofs.YtkpogcflgghfiaaDoor
open Go.RowKit
open M
theorem Hj (i t x y:Int) (A:Option Addr) (n c:Nat) (G:Option Addr) (m kk:Nat) (fp fq fs fz b:Int) (ws gs:List Bx) (k ax ay fx fy u:Int) (gn:Nat) (d o:Bool) (s p:Int) (z:Bool) (w:World) (I:Boxes w A n ws) (J:Boxes w G m gs) (ok:Dn ws=true) (hn:n≤281474976710656) (hm:m≤281474976710656) (hB:StB m ⟨k,ax,ay,fx,fy,u,gn,d,o⟩) (hk9:k<1000000) (s1:-1≤s) (s2:s≤1) :
 Calls Tryd.prog 37 #[CR i t x y A n c G m kk fp fq fs fz b,BZ k ax ay fx fy u gn d o,Dx s p z] w fun e w'=>(∃ K X Y P Q U V D O,stS ws gs fp fq fs fz ⟨k,ax,ay,fx,fy,u,gn,d,o⟩ ⟨s,p,z⟩=⟨K,X,Y,P,Q,U,V,D,O⟩∧e=.returned (BZ K X Y P Q U V D O))∧Below w.heap.size w w':=by
 have k0:=hB.k.1;simp only at k0;have hB1:StB m ⟨k+1,ax,ay,fx,fy,u,gn,d,o⟩:=⟨hB.a,hB.f,hB.u,hB.g,by show 0≤k+1∧k+1≤1000000; omega⟩;have C:=fun (W:World) (Z:Boxes W A n ws) (Y:Boxes W G m gs)=>M6 i t x y A n c G m kk fp fq fs fz b ws gs (k+1) ax ay fx fy u gn d o s p z W Z Y ok hn hm hB1 s1 s2;have I:=hid I;have J:=hid J;clear hB hB1
 have L:CellsAt ((((w.alloc (.cells #[.int .i64 i,.int .i64 t,.int .i64 x,.int .i64 y,.slice A n c,.slice G m kk,.int .i64 fp,.int .i64 fq,.int .i64 fs,.int .i64 fz,.int .i64 b] 29)).alloc (.cells #[.int .i64 k,.int .i64 ax,.int .i64 ay,.int .i64 fx,.int .i64 fy,.int .i64 u,.int .i64 gn,.bool d,.bool o] 34)).alloc (.cells #[.int .i64 s,.int .i64 p,.bool z] 39)).alloc (.cells #[.int .i64 0,.int .i64 0,.int .i64 0,.int .i64 0,.int .i64 0,.int .i64 0,.int .i64 0,.bool false,.bool false] 34)) w.heap.size (AV i t x y A n c G m kk fp fq fs fz b):=(((CellsAt.new w _ _ _ rfl).alloc _).alloc _).alloc _
 have S:CellsAt ((((w.alloc (.cells #[.int .i64 i,.int .i64 t,.int .i64 x,.int .i64 y,.slice A n c,.slice G m kk,.int .i64 fp,.int .i64 fq,.int .i64 fs,.int .i64 fz,.int .i64 b] 29)).alloc (.cells #[.int .i64 k,.int .i64 ax,.int .i64 ay,.int .i64 fx,.int .i64 fy,.int .i64 u,.int .i64 gn,.bool d,.bool o] 34)).alloc (.cells #[.int .i64 s,.int .i64 p,.bool z] 39)).alloc (.cells #[.int .i64 0,.int .i64 0,.int .i64 0,.int .i64 0,.int .i64 0,.int .i64 0,.int .i64 0,.bool false,.bool false] 34)) (w.heap.size+1) (Ax k ax ay fx fy u gn d o):=((CellsAt.new _ _ _ _ (by simp)).alloc _).alloc _
 have X:CellsAt ((((w.alloc (.cells #[.int .i64 i,.int .i64 t,.int .i64 x,.int .i64 y,.slice A n c,.slice G m kk,.int .i64 fp,.int .i64 fq,.int .i64 fs,.int .i64 fz,.int .i64 b] 29)).alloc (.cells #[.int .i64 k,.int .i64 ax,.int .i64 ay,.int .i64 fx,.int .i64 fy,.int .i64 u,.int .i64 gn,.bool d,.bool o] 34)).alloc (.cells #[.int .i64 s,.int .i64 p,.bool z] 39)).alloc (.cells #[.int .i64 0,.int .i64 0,.int .i64 0,.int .i64 0,.int .i64 0,.int .i64 0,.int .i64 0,.bool false,.bool false] 34)) (w.heap.size+1+1) (ins s p z):=(CellsAt.new _ _ _ _ (by simp)).alloc _
 have D:CellsAt ((((w.alloc (.cells #[.int .i64 i,.int .i64 t,.int .i64 x,.int .i64 y,.slice A n c,.slice G m kk,.int .i64 fp,.int .i64 fq,.int .i64 fs,.int .i64 fz,.int .i64 b] 29)).alloc (.cells #[.int .i64 k,.int .i64 ax,.int .i64 ay,.int .i64 fx,.int .i64 fy,.int .i64 u,.int .i64 gn,.bool d,.bool o] 34)).alloc (.cells #[.int .i64 s,.int .i64 p,.bool z] 39)).alloc (.cells #[.int .i64 0,.int .i64 0,.int .i64 0,.int .i64 0,.int .i64 0,.int .i64 0,.int .i64 0,.bool false,.bool false] 34)) (w.heap.size+1+1+1) (Ax 0 0 0 0 0 0 0 false false):=CellsAt.new _ _ _ _ (by simp)
 have H:=hid (Aa (Aa (Aa (Aa (Ac w) (.cells #[.int .i64 i,.int .i64 t,.int .i64 x,.int .i64 y,.slice A n c,.slice G m kk,.int .i64 fp,.int .i64 fq,.int .i64 fs,.int .i64 fz,.int .i64 b] 29)) (.cells #[.int .i64 k,.int .i64 ax,.int .i64 ay,.int .i64 fx,.int .i64 fy,.int .i64 u,.int .i64 gn,.bool d,.bool o] 34)) (.cells #[.int .i64 s,.int .i64 p,.bool z] 39)) (.cells #[.int .i64 0,.int .i64 0,.int .i64 0,.int .i64 0,.int .i64 0,.int .i64 0,.int .i64 0,.bool false,.bool false] 34));cases d
 rotate_left
 · have E:=hid (show stS ws gs fp fq fs fz ⟨k,ax,ay,fx,fy,u,gn,true,o⟩ ⟨s,p,z⟩=⟨k,ax,ay,fx,fy,u,gn,true,o⟩ by simp [stS]);clear C;obtain ⟨Sc0,Sc1,Sc2,Sc3,Sc4,Sc5,Sc6,Sc7,Sc8⟩:=A9 S;have Sl:=S.lt;go_enter Tryd.func37,Tryd.ntmps37;go_upto_region 2 with fail;clear Sc0 Sc1 Sc2 Sc3 Sc4 Sc5 Sc6 Sc7 Sc8 Sl ;refine wp_region_lit ?_;refine Af rfl 34 (.tmp 4) rfl (w.heap.size+1) rfl (Ax k ax ay fx fy u gn true o) S Tryd.underlying34 rfl Ad ?_;refine Ah rfl 34 (.tmp 6) (.tmp 13) rfl (w.heap.size+1+1+1) rfl (Ax k ax ay fx fy u gn true o) rfl _ D (by simp) Ad rfl ?_;intro w8 K N;clear S D
   replace H:=hid (Ak H.out K (by omega));go_wp2;exact bodyPost_ret (v:=BZ k ax ay fx fy u gn true o) (Aj rfl (w.heap.size+1+1+1) rfl (Ax k ax ay fx fy u gn true o) N Tryd.underlying34 rfl Ad) rfl ⟨⟨_,_,_,_,_,_,_,_,_,E.out,rfl⟩,H.out⟩
 cases o
 rotate_left
 · have E:=hid (show stS ws gs fp fq fs fz ⟨k,ax,ay,fx,fy,u,gn,false,true⟩ ⟨s,p,z⟩=⟨k,ax,ay,fx,fy,u,gn,false,true⟩ by simp [stS]);clear C;obtain ⟨Sc0,Sc1,Sc2,Sc3,Sc4,Sc5,Sc6,Sc7,Sc8⟩:=A9 S;have Sl:=S.lt;go_enter Tryd.func37,Tryd.ntmps37;go_upto_region 2 with fail;clear Sc0 Sc1 Sc2 Sc3 Sc4 Sc5 Sc6 Sc7 Sc8 Sl ;refine wp_region_lit ?_;refine Af rfl 34 (.tmp 4) rfl (w.heap.size+1) rfl (Ax k ax ay fx fy u gn false true) S Tryd.underlying34 rfl Ad ?_;refine Ah rfl 34 (.tmp 6) (.tmp 13) rfl (w.heap.size+1+1+1) rfl (Ax k ax ay fx fy u gn false true) rfl _ D (by simp) Ad rfl ?_;intro w8 K N;clear S D
   replace H:=hid (Ak H.out K (by omega));go_wp2;exact bodyPost_ret (v:=BZ k ax ay fx fy u gn false true) (Aj rfl (w.heap.size+1+1+1) rfl (Ax k ax ay fx fy u gn false true) N Tryd.underlying34 rfl Ad) rfl ⟨⟨_,_,_,_,_,_,_,_,_,E.out,rfl⟩,H.out⟩
 cases z
 rotate_left
 · have E:=hid (show stS ws gs fp fq fs fz ⟨k,ax,ay,fx,fy,u,gn,false,false⟩ ⟨s,p,true⟩=⟨k+1,ax,ay,fx,fy,u,gn,false,false⟩ by simp [stS]);clear C;obtain ⟨Sc0,Sc1,Sc2,Sc3,Sc4,Sc5,Sc6,Sc7,Sc8⟩:=A9 S;have Sl:=S.lt;have Sf0:=S.fr 0;have Sf1:=S.fr 1;have Sf2:=S.fr 2;have Sf3:=S.fr 3;have Sf4:=S.fr 4;have Sf5:=S.fr 5;have Sf6:=S.fr 6;have Sf7:=S.fr 7;have Sf8:=S.fr 8;obtain ⟨Xc0,Xc1,Xc2⟩:=BM X;have Xl:=X.lt;go_enter Tryd.func37,Tryd.ntmps37;go_upto_region 5 with fail
   refine Az (fun W'=>CellsAt W' w.heap.size (AV i t x y A n c G m kk fp fq fs fz b)∧CellsAt W' (w.heap.size+1) (Ax (k+1) ax ay fx fy u gn false false)∧CellsAt W' (w.heap.size+1+1) (ins s p true)∧CellsAt W' (w.heap.size+1+1+1) (Ax 0 0 0 0 0 0 0 false false)∧Below w.heap.size w W') ⟨(((CellsAt.new w _ _ _ rfl).alloc _).alloc _).alloc _,((CellsAt.new _ _ _ _ (by simp)).alloc _).alloc _,(CellsAt.new _ _ _ _ (by simp)).alloc _,CellsAt.new _ _ _ _ (by simp),Aa (Aa (Aa (Aa (Ac w) _) _) _) _⟩ ?_;clear L S X D H Sc0 Sc1 Sc2 Sc3 Sc4 Sc5 Sc6 Sc7 Sc8 Sl Xc0 Xc1 Xc2 Xl Sf0 Sf1 Sf2 Sf3 Sf4 Sf5 Sf6 Sf7 Sf8;rintro w1 ⟨L,S,X,D,H⟩
   replace H:=hid H;refine wp_region_lit ?_;refine Af rfl 34 (.tmp 4) rfl (w.heap.size+1) rfl (Ax (k+1) ax ay fx fy u gn false false) S Tryd.underlying34 rfl Ad ?_;refine Ah rfl 34 (.tmp 6) (.tmp 20) rfl (w.heap.size+1+1+1) rfl (Ax (k+1) ax ay fx fy u gn false false) rfl _ D (by simp) Ad rfl ?_;intro w8 K N;clear S D;replace H:=hid (Ak H.out K (by omega));go_wp2;exact bodyPost_ret (v:=BZ (k+1) ax ay fx fy u gn false false) (Aj rfl (w.heap.size+1+1+1) rfl (Ax (k+1) ax ay fx fy u gn false false) N Tryd.underlying34 rfl Ad) rfl ⟨⟨_,_,_,_,_,_,_,_,_,E.out,rfl⟩,H.out⟩
 have ES:=hid (show stS ws gs fp fq fs fz ⟨k,ax,ay,fx,fy,u,gn,false,false⟩ ⟨s,p,false⟩=GK ws gs fp fq fs fz ⟨k+1,ax,ay,fx,fy,u,gn,false,false⟩ s p by simp [stS]);replace C:=hid C;obtain ⟨Sc0,Sc1,Sc2,Sc3,Sc4,Sc5,Sc6,Sc7,Sc8⟩:=A9 S;have Sl:=S.lt;have Sf0:=S.fr 0;have Sf1:=S.fr 1;have Sf2:=S.fr 2;have Sf3:=S.fr 3;have Sf4:=S.fr 4;have Sf5:=S.fr 5;have Sf6:=S.fr 6;have Sf7:=S.fr 7;have Sf8:=S.fr 8;obtain ⟨Xc0,Xc1,Xc2⟩:=BM X;have Xl:=X.lt;go_enter Tryd.func37,Tryd.ntmps37;go_upto_region 6 with fail
 refine Az (fun W'=>CellsAt W' w.heap.size (AV i t x y A n c G m kk fp fq fs fz b)∧CellsAt W' (w.heap.size+1) (Ax (k+1) ax ay fx fy u gn false false)∧CellsAt W' (w.heap.size+1+1) (ins s p false)∧CellsAt W' (w.heap.size+1+1+1) (Ax 0 0 0 0 0 0 0 false false)∧Below w.heap.size w W') ⟨(((CellsAt.new w _ _ _ rfl).alloc _).alloc _).alloc _,((CellsAt.new _ _ _ _ (by simp)).alloc _).alloc _,(CellsAt.new _ _ _ _ (by simp)).alloc _,CellsAt.new _ _ _ _ (by simp),Aa (Aa (Aa (Aa (Ac w) _) _) _) _⟩ ?_;clear L S X D H Sc0 Sc1 Sc2 Sc3 Sc4 Sc5 Sc6 Sc7 Sc8 Sl Xc0 Xc1 Xc2 Xl Sf0 Sf1 Sf2 Sf3 Sf4 Sf5 Sf6 Sf7 Sf8;rintro w1 ⟨L,S,X,D,H⟩
 replace H:=hid H;obtain ⟨Lc0,Lc1,Lc2,Lc3,Lc4,Lc5,Lc6,Lc7,Lc8,Lc9,Lc10⟩:=AG L;have Ll:=L.lt;obtain ⟨Sc0,Sc1,Sc2,Sc3,Sc4,Sc5,Sc6,Sc7,Sc8⟩:=A9 S;have Sl:=S.lt;obtain ⟨Xc0,Xc1,Xc2⟩:=BM X;have Xl:=X.lt;go_wp2_with fail;refine (C.out _ (I.out.step H.out) (J.out.step H.out)).mono ?_;rintro e w2 ⟨⟨K,X',Y',P',Q',U',V',D',O',eM,rfl⟩,B⟩;replace L:=L.step B;replace S:=S.step B;replace X:=X.step B;replace D:=D.step B;replace H:=hid (Ab H.out B);clear B;clear Lc0 Lc1 Lc2 Lc3 Lc4 Lc5 Lc6 Lc7 Lc8 Lc9 Lc10 Ll Sc0 Sc1 Sc2 Sc3 Sc4 Sc5 Sc6 Sc7 Sc8 Sl Xc0 Xc1 Xc2 Xl  C;have E:=hid (ES.out.trans eM);clear eM ES L S X
 go_wp2_with (refine Ah rfl 34 (.tmp 6) (.tmp 24) rfl (w.heap.size+1+1+1) rfl (Ax K X' Y' P' Q' U' V' D' O') rfl _ D (by simp) Ad rfl ?_);intro w8 Kp N;clear D;replace H:=hid (Ak H.out Kp (by omega));go_wp2;exact bodyPost_ret (v:=BZ K X' Y' P' Q' U' V' D' O') (Aj rfl (w.heap.size+1+1+1) rfl (Ax K X' Y' P' Q' U' V' D' O') N Tryd.underlying34 rfl Ad) rfl ⟨⟨_,_,_,_,_,_,_,_,_,E.out,rfl⟩,H.out⟩
end Go.Proofs.YtkpogcflgghfiaaDoor
namespace Go.Proofs.YtkpogcflgghfiaaDoor
open Go.RowKit
open M
def M.ownB (k ax ay fx fy u g:Int) (d o:Bool):Bool:=Ba k 0 60&&(Au ax ay&&(Au fx fy&&(decide (vl fx fy≤2000)&&(Ba u 0 15&&(Ba g 0 3&&!(d&&o))))))
end Go.Proofs.YtkpogcflgghfiaaDoor
namespace Go.Proofs.YtkpogcflgghfiaaDoor
open Go.RowKit
open M
def M.evB (i t x y:Int) (ws gs:List Bx) (fp fq fs fz b:Int) (k ax ay fx fy u g:Int) (d o:Bool):Bool:=Cm i t x y ws gs fp fq fs fz b&&(ownB k ax ay fx fy u g d o&&(decide (k≤t)&&(decide (g≤gs.length)&&(Cv ws ax ay&&(!d||decide (g=gs.length))))))
end Go.Proofs.YtkpogcflgghfiaaDoor
namespace Go.Proofs.YtkpogcflgghfiaaDoor
open Go.RowKit
open M
def M.eoB (i t x y:Int) (ws gs:List Bx) (fp fq fs fz b:Int) (k ax ay fx fy u g:Int) (d o:Bool) (s p:Int) (z:Bool):Bool:=evB i t x y ws gs fp fq fs fz b k ax ay fx fy u g d o&&(Dw s p z&&!(decide (t≤k)&&(!d&&!o)))
def M.esS (i t x y:Int) (ws gs:List Bx) (fp fq fs fz b:Int) (k ax ay fx fy u g:Int) (d o:Bool) (s p:Int) (z:Bool):St:=if eoB i t x y ws gs fp fq fs fz b k ax ay fx fy u g d o s p z then stS ws gs fp fq fs fz ⟨k,ax,ay,fx,fy,u,g,d,o⟩ ⟨s,p,z⟩ else ⟨0,0,0,0,0,0,0,false,false⟩
theorem Oh {i t x y:Int} {ws gs:List Bx} {fp fq fs fz b:Int} {k ax ay fx fy u g:Int} {d o:Bool} (h:evB i t x y ws gs fp fq fs fz b k ax ay fx fy u g d o=true):Cm i t x y ws gs fp fq fs fz b=true∧ownB k ax ay fx fy u g d o=true∧g≤gs.length∧Cv ws ax ay=true:=by
 simp only [evB,Bool.and_eq_true,decide_eq_true_eq] at h;exact ⟨h.1,h.2.1,h.2.2.2.1,h.2.2.2.2.1⟩
theorem Rt {i t x y:Int} {ws gs:List Bx} {fp fq fs fz b:Int} {k ax ay fx fy u g:Int} {d o:Bool} {m:Nat} (h:evB i t x y ws gs fp fq fs fz b k ax ay fx fy u g d o=true) (hm:gs.length=m):StB m ⟨k,ax,ay,fx,fy,u,g,d,o⟩:=by
 obtain ⟨_,h2,h3,_⟩:=Oh h;have h2':=h2;simp only [ownB,Bool.and_eq_true,decide_eq_true_eq] at h2;obtain ⟨k1,a1,f1,l1,u1,g1,_⟩:=h2;obtain ⟨q,e,_,m1,m2,_⟩:=MZ f1;rw [Fv f1] at e;have k2:0≤k∧k≤60:=by simpa [Ba] using k1
 have u2:0≤u∧u≤15:=by simpa [Ba] using u1
 have g2:0≤g∧g≤3:=by simpa [Ba] using g1
 exact ⟨(AW ax ay).1 a1,⟨⟨by show -2000≤fx; omega,by show fx≤2000; omega⟩,by show -2000≤fy; omega,by show fy≤2000; omega⟩,u2,⟨g2.1,by show g≤(m:Int); omega⟩,by show 0≤k; omega,by show k≤1000000; omega⟩
end Go.Proofs.YtkpogcflgghfiaaDoor
namespace Go.Proofs.YtkpogcflgghfiaaDoor
open Go.RowKit
open Go.Maps
open M
theorem JX {P:Program} {e:TypeId} (he:P.underlying e=some .bool) {v:Value} {z:DataW Unit × List MemPlace} (h:plainElem P e v=some z):∃ x,v=.bool x∧z=(.lit (.bool x),[]):=by
 unfold plainElem at h;rw [he] at h;cases v<;>simp at h
 exact ⟨_,rfl,h.symm⟩
abbrev Tz (x y:Bool):DataW Unit:=.map [(.int .i64 1,.lit (.bool x)),(.int .i64 2,.lit (.bool y))]
def Bans (w:World) (b:Nat) (x y:Bool):Prop:=w.ownsMap (H:=Unit) Tryd.prog 3 (plainElem Tryd.prog 4) b 2 (Tz x y)
theorem Bans.step {w w':World} {b:Nat} {x y:Bool} (h:Bans w b x y) (B:Below w.heap.size w w'):Bans w' b x y:=by
 have hl:=World.ownsMap.lt h;obtain ⟨es,clock,hb,F,hs,hD⟩:=h;exact ⟨es,clock,(B.block b hl).trans hb,F,hs,hD⟩
theorem Bans.alloc {w:World} {b:Nat} {x y:Bool} (h:Bans w b x y) (o:Obj):Bans (w.alloc o) b x y:=World.ownsMap.alloc h o
theorem Bans.drew {w:World} {b:Nat} {x y:Bool} (h:Bans w b x y):Bans w.drew b x y:=h
theorem Bans.kept {w w':World} {b r:Nat} {x y:Bool} (h:Bans w b x y) (K:Kept r w w') (hne:b≠r):Bans w' b x y:=by
 have hl:=World.ownsMap.lt h;obtain ⟨es,clock,hb,F,hs,hD⟩:=h;exact ⟨es,clock,(K.block b hl hne).trans hb,F,hs,hD⟩
theorem BD:Keyed Tryd.prog 3:=int_keyed Tryd.underlying3
theorem IA (w:World):(zeroValue 4).run Tryd.prog w=.ok (.bool false) w:=by kernel_rfl
theorem Bans.look {w:World} {b:Nat} {x y:Bool} (h:Bans w b x y) :
 (Instr.lookup 94 (.map (some b)) (.int .i64 1) false).run Tryd.prog w=.ok (.bool x) w∧(Instr.lookup 94 (.map (some b)) (.int .i64 2) false).run Tryd.prog w=.ok (.bool y) w:=by
 constructor
 · obtain ⟨v,ps,hrun,hv⟩:=World.ownsMap.lookup h BD Tryd.underlying94 (IA w) (plainElem_bool Tryd.underlying4 false) (keyOf_int_mk (k:=3) Tryd.underlying3 (q:=.i64) (a:=1) (by decide));obtain ⟨u,rfl,hc⟩:=JX Tryd.underlying4 hv;have e:u=x:=by
    have:=(Prod.mk.inj hc).1;simpa [Tz,DataW.atKey,Lit.sameKey] using this.symm
   rw [hrun,e]
 · obtain ⟨v,ps,hrun,hv⟩:=World.ownsMap.lookup h BD Tryd.underlying94 (IA w) (plainElem_bool Tryd.underlying4 false) (keyOf_int_mk (k:=3) Tryd.underlying3 (q:=.i64) (a:=2) (by decide));obtain ⟨u,rfl,hc⟩:=JX Tryd.underlying4 hv;have e:u=y:=by
    have:=(Prod.mk.inj hc).1;simpa [Tz,DataW.atKey,Lit.sameKey] using this.symm
   rw [hrun,e]
end Go.Proofs.YtkpogcflgghfiaaDoor
