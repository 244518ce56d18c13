import Derived.Test.YtaemcekcancpdaaGreatDoorZEng
import Derived.Test.YtaemcekcancpdaaGreatDoorZVecDirB
import Derived.Test.YtaemcekcancpdaaGreatDoorZInRow
import Derived.Handy
set_option linter.all false
set_option maxRecDepth 100000
set_option maxHeartbeats 8000000
open Go.Lib
namespace Go.Proofs.YtaemcekcancpdaaGreatDoor
open Go.RowKit
open M
theorem C0(u s:Int)(w:World)(u0:0<=u)(u1:u<=15)(s1:-1<=s)(s2:s<=1):Calls Tryz.prog 83 #[.int .i64 u,.int .i64 s] w fun e w'=>e=.returned (.int .i64 ((u+s) % 16))/\Below w.heap.size w w':=by
 go_enter Tryz.func83,Tryz.ntmps83;go_wp2;go_ret;exact⟨BK (by omega),Ac w⟩
theorem Rj{u:Int}(u0:0<=u)(u1:u<=15):QF (BL u) (BM u) 200=mu (BL u) 200/\QG (BL u) (BM u) 200=mu (BM u) 200/\QH (BL u) (BM u) 200=true:=by
 have dd:=Gq u0 u1;have q:=De u0 u1;exact SH (CH ⟨⟨by omega,by omega⟩,by omega,by omega⟩) (by decide) rfl rfl (CH ⟨⟨by omega,by omega⟩,by omega,by omega⟩)
theorem LV(fx fy u:Int)(w:World)(x1:-2000<=fx)(x2:fx<=2000)(y1:-2000<=fy)(y2:fy<=2000)(u0:0<=u)(u1:u<=15)(hQ:Quarter w) :
 Calls Tryz.prog 84 #[Bs fx fy,.int .i64 u] w fun e w'=>e=.returned (Bs (E6 fx fy u 1) (E7 fx fy u 1))/\Below w.heap.size w w':=by
 have q:=De u0 u1;have dd:=Gq u0 u1;have C1:=fun(W:World) (Z:Quarter W)=>QA u W Z;have C2:=fun W=>IQ (BL u) (BM u) 200 W;obtain⟨r1,r2,r3⟩:=Rj u0 u1;rw[BR (show 0<=u/\u<=15 from⟨u0,u1⟩)] at C1;rw[r1,r2,r3] at C2;have E:E6 fx fy u 1=Kw (fx+mu (BL u) 200) (fy+mu (BM u) 200) 2000/\E7 fx fy u 1=Kx (fx+mu (BL u) 200) (fy+mu (BM u) 200) 2000:=⟨by simp[E6],by simp[E7]⟩;have E:=hid E;clear r1 r2 r3;generalize mu (BL u) 200=e1 at *;generalize mu (BM u) 200=e2 at *;generalize BL u=f1 at *;generalize BM u=f2 at *;obtain⟨⟨q1,q2⟩,q3,q4⟩:=q
 have v3:Aw (fx+e1) (fy+e2)=true:=CH ⟨⟨by omega,by omega⟩,by omega,by omega⟩;have C3:=fun W=>QC fx fy e1 e2 W;obtain⟨r1,r2,r3⟩:=UN (x:=fx) (y:=fy) (u:=e1) (v:=e2) (CH ⟨⟨by omega,by omega⟩,by omega,by omega⟩) (CH ⟨⟨by omega,by omega⟩,by omega,by omega⟩) v3;rw[r1,r2,r3] at C3;have C4:=fun W=>Mv (fx+e1) (fy+e2) 2000 W;rw[My v3 (by decide)] at C4;generalize Kw (fx+e1) (fy+e2) 2000=g1 at *;generalize Kx (fx+e1) (fy+e2) 2000=g2 at *;have C1:=hid C1;have C2:=hid C2;have C3:=hid C3;have C4:=hid C4;have hQ:=hid hQ;clear r1 r2 r3 v3 dd q1 q2 q3 q4
 have P:CellsAt ((w.alloc (.cells #[.int .i64 fx,.int .i64 fy] 24)).alloc (.cells #[.int .i64 0,.int .i64 0] 24)) w.heap.size [.int .i64 (fx),.int .i64 (fy)]:=(CellsAt.new w _ _ _ rfl).alloc _;have D:CellsAt ((w.alloc (.cells #[.int .i64 fx,.int .i64 fy] 24)).alloc (.cells #[.int .i64 0,.int .i64 0] 24)) (w.heap.size+1) [.int .i64 (0),.int .i64 (0)]:=CellsAt.new _ _ _ _ (by simp);have H:=hid (Aa (Aa (Ac w) (.cells #[.int .i64 fx,.int .i64 fy] 24)) (.cells #[.int .i64 0,.int .i64 0] 24));go_enter Tryz.func84,Tryz.ntmps84;have Pc0:=P.cell 0 _ rfl;have Pc1:=P.cell 1 _ rfl;have Pl:=P.lt;have Dc0:=D.cell 0 _ rfl;have Dc1:=D.cell 1 _ rfl
 have Dl:=D.lt;go_wp2_with fail;clear Pc0 Pc1 Pl Dc0 Dc1 Dl;refine(C1.out _ (hQ.out.step H.out)).mono ?_;rintro e w1 ⟨rfl,B⟩;replace P:=P.step B;replace D:=D.step B;replace H:=hid (Ab H.out B);clear B;have Pc0:=P.cell 0 _ rfl;have Pc1:=P.cell 1 _ rfl;have Pl:=P.lt;have Dc0:=D.cell 0 _ rfl;have Dc1:=D.cell 1 _ rfl;have Dl:=D.lt;go_wp2_with fail;clear Pc0 Pc1 Pl Dc0 Dc1 Dl;refine(C2.out _).mono ?_;rintro e w2 ⟨rfl,B⟩;replace P:=P.alloc (.cells #[.int .i64 f1,.int .i64 f2] 24);replace D:=D.alloc (.cells #[.int .i64 f1,.int .i64 f2] 24);replace H:=hid (Aa H.out (.cells #[.int .i64 f1,.int .i64 f2] 24));replace P:=P.step B;replace D:=D.step B
 replace H:=hid (Ab H.out B);clear B;have Pc0:=P.cell 0 _ rfl;have Pc1:=P.cell 1 _ rfl;have Pl:=P.lt;have Dc0:=D.cell 0 _ rfl;have Dc1:=D.cell 1 _ rfl;have Dl:=D.lt;go_wp2_with fail;clear Pc0 Pc1 Pl Dc0 Dc1 Dl;refine(C3.out _).mono ?_;rintro e w3 ⟨rfl,B⟩;replace P:=P.alloc (.cells #[.int .i64 e1,.int .i64 e2] 24);replace D:=D.alloc (.cells #[.int .i64 e1,.int .i64 e2] 24);replace H:=hid (Aa H.out (.cells #[.int .i64 e1,.int .i64 e2] 24));replace P:=P.step B;replace D:=D.step B;replace H:=hid (Ab H.out B);clear B;have Pc0:=P.cell 0 _ rfl;have Pc1:=P.cell 1 _ rfl;have Pl:=P.lt;have Dc0:=D.cell 0 _ rfl;have Dc1:=D.cell 1 _ rfl
 have Dl:=D.lt;go_wp2_with fail;clear Pc0 Pc1 Pl Dc0 Dc1 Dl;refine(C4.out _).mono ?_;rintro e w4 ⟨rfl,B⟩;replace P:=P.alloc (.cells #[.int .i64 (fx+e1),.int .i64 (fy+e2)] 24);replace D:=D.alloc (.cells #[.int .i64 (fx+e1),.int .i64 (fy+e2)] 24);replace H:=hid (Aa H.out (.cells #[.int .i64 (fx+e1),.int .i64 (fy+e2)] 24));replace P:=P.step B;replace D:=D.step B;replace H:=hid (Ab H.out B);clear B;have Pc0:=P.cell 0 _ rfl;have Pc1:=P.cell 1 _ rfl;have Pl:=P.lt;have Dc0:=D.cell 0 _ rfl;have Dc1:=D.cell 1 _ rfl;have Dl:=D.lt;go_upto_region 5 with fail;clear Pc0 Pc1 Pl Dc0 Dc1 Dl
 have U:CellsAt (w4.alloc (.cells #[.int .i64 g1,.int .i64 g2] 24)) w4.heap.size [.int .i64 (g1),.int .i64 (g2)]:=CellsAt.new _ _ _ _ rfl;replace D:=D.alloc (.cells #[.int .i64 g1,.int .i64 g2] 24);replace H:=hid (Aa H.out (.cells #[.int .i64 g1,.int .i64 g2] 24));refine wp_region_lit ?_;refine Af rfl 24 (.tmp 11) rfl w4.heap.size rfl [.int .i64 (g1),.int .i64 (g2)] U Tryz.underlying24 rfl Ca ?_;refine Ai rfl 24 (.tmp 4) (.tmp 34) rfl (w.heap.size+1) rfl [.int .i64 (g1),.int .i64 (g2)] rfl _ D (by simp) Ca rfl ?_;intro w5 K N;go_wp2
 exact bodyPost_ret (v:=Bs g1 g2) (An rfl (w.heap.size+1) rfl [.int .i64 (g1),.int .i64 (g2)] N Tryz.underlying24 rfl Ca) rfl ⟨by rw[E.out.1,E.out.2],Ao H.out K (by omega)⟩
theorem HH(fx fy c:Int)(w:World)(x1:-2000<=fx)(x2:fx<=2000)(y1:-2000<=fy)(y2:fy<=2000)(c0:0<=c)(c1:c<=1000) :
 Calls Tryz.prog 85 #[Bs fx fy,.int .i64 c] w fun e w'=>e=.returned (Bs (mu fx c) (mu fy c))/\Below w.heap.size w w':=by
 have q1:=DN x1 x2 c0 c1;have q2:=DN y1 y2 c0 c1;have C1:=fun W=>IQ fx fy c W;obtain⟨r1,r2,r3⟩:=SH (x:=fx) (y:=fy) (k:=c) (CH ⟨⟨by omega,by omega⟩,by omega,by omega⟩) (Gv (by omega)) rfl rfl (CH ⟨⟨by omega,by omega⟩,by omega,by omega⟩);rw[r1,r2,r3] at C1;generalize mu fx c=g1 at *;generalize mu fy c=g2 at *;have C1:=hid C1;clear r1 r2 r3;have P:CellsAt ((w.alloc (.cells #[.int .i64 fx,.int .i64 fy] 24)).alloc (.cells #[.int .i64 0,.int .i64 0] 24)) w.heap.size [.int .i64 (fx),.int .i64 (fy)]:=(CellsAt.new w _ _ _ rfl).alloc _
 have D:CellsAt ((w.alloc (.cells #[.int .i64 fx,.int .i64 fy] 24)).alloc (.cells #[.int .i64 0,.int .i64 0] 24)) (w.heap.size+1) [.int .i64 (0),.int .i64 (0)]:=CellsAt.new _ _ _ _ (by simp);have H:=hid (Aa (Aa (Ac w) (.cells #[.int .i64 fx,.int .i64 fy] 24)) (.cells #[.int .i64 0,.int .i64 0] 24));go_enter Tryz.func85,Tryz.ntmps85;have Pc0:=P.cell 0 _ rfl;have Pc1:=P.cell 1 _ rfl;have Pl:=P.lt;have Dc0:=D.cell 0 _ rfl;have Dc1:=D.cell 1 _ rfl;have Dl:=D.lt;go_wp2_with fail;clear Pc0 Pc1 Pl Dc0 Dc1 Dl;refine(C1.out _).mono ?_;rintro e w1 ⟨rfl,B⟩;replace P:=P.step B;replace D:=D.step B;replace H:=hid (Ab H.out B);clear B
 have Pc0:=P.cell 0 _ rfl;have Pc1:=P.cell 1 _ rfl;have Pl:=P.lt;have Dc0:=D.cell 0 _ rfl;have Dc1:=D.cell 1 _ rfl;have Dl:=D.lt;go_upto_region 2 with fail;clear Pc0 Pc1 Pl Dc0 Dc1 Dl;have U:CellsAt (w1.alloc (.cells #[.int .i64 g1,.int .i64 g2] 24)) w1.heap.size [.int .i64 (g1),.int .i64 (g2)]:=CellsAt.new _ _ _ _ rfl;replace D:=D.alloc (.cells #[.int .i64 g1,.int .i64 g2] 24);replace H:=hid (Aa H.out (.cells #[.int .i64 g1,.int .i64 g2] 24));refine wp_region_lit ?_;refine Af rfl 24 (.tmp 5) rfl w1.heap.size rfl [.int .i64 (g1),.int .i64 (g2)] U Tryz.underlying24 rfl Ca ?_
 refine Ai rfl 24 (.tmp 4) (.tmp 13) rfl (w.heap.size+1) rfl [.int .i64 (g1),.int .i64 (g2)] rfl _ D (by simp) Ca rfl ?_;intro w2 K N;go_wp2;exact bodyPost_ret (v:=Bs g1 g2) (An rfl (w.heap.size+1) rfl [.int .i64 (g1),.int .i64 (g2)] N Tryz.underlying24 rfl Ca) rfl ⟨rfl,Ao H.out K (by omega)⟩
def ctl(s p:Int)(z:Bool):Value:=if z then .iface 119 (.agg #[]) else if p=1 then .iface 123 (.agg #[.int .i64 s]) else if p=2 then .iface 125 (.agg #[.int .i64 s]) else .iface 126 (.agg #[.int .i64 s])
theorem KD(s p:Int)(z:Bool)(w:World):Calls Tryz.prog 74 #[DZ s p z] w fun e w'=>e=.returned (ctl s p z)/\Below w.heap.size w w':=by
 cases z
 rotate_left
 . go_enter Tryz.func74,Tryz.ntmps74;go_wp2;go_ret;exact⟨rfl,Aa (Aa (Ac w) _) _⟩
 by_cases h1:p=1
 . subst h1;go_enter Tryz.func74,Tryz.ntmps74;go_wp2;go_ret;exact⟨rfl,Aa (Aa (Ac w) _) _⟩
 have d1:(p==1)=false:=beq_eq_false_iff_ne.2 h1;by_cases h2:p=2
 . subst h2;go_enter Tryz.func74,Tryz.ntmps74;go_wp2;go_ret;exact⟨rfl,Aa (Aa (Ac w) _) _⟩
 have d2:(p==2)=false:=beq_eq_false_iff_ne.2 h2;have E:=hid (show ctl s p false=.iface 126 (.agg #[.int .i64 s]) by simp[ctl,h1,h2]);clear h1 h2;go_enter Tryz.func74,Tryz.ntmps74;go_wp2;go_ret;exact⟨by rw[E.out]; rfl,Aa (Aa (Ac w) _) _⟩
theorem Gg(s:Int)(w:World):Calls Tryz.prog 127 #[.agg #[.int .i64 s]] w fun e w'=>e=.returned (.int .i64 s)/\Below w.heap.size w w':=by
 go_enter Tryz.func127,Tryz.ntmps127;go_wp2;go_ret;exact⟨rfl,Aa (Ac w) _⟩
theorem HI(w:World):Calls Tryz.prog 126 #[.agg #[]] w fun e w'=>e=.returned (.int .i64 0)/\Below w.heap.size w w':=by
 go_enter Tryz.func126,Tryz.ntmps126;go_wp2;go_ret;exact⟨rfl,Aa (Ac w) _⟩
end Go.Proofs.YtaemcekcancpdaaGreatDoor
