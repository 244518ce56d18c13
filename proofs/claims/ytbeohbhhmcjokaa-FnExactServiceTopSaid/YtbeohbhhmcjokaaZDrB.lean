import Derived.Test.YtbeohbhhmcjokaaZFree2
import Derived.Test.YtbeohbhhmcjokaaZBoxP
set_option linter.all false
set_option maxRecDepth 100000
set_option maxHeartbeats 8000000
open Go.Lib
namespace Go.Proofs.Ytbeohbhhmcjokaa
open Go.RowKit
open Go.RowKit
theorem RdU.ne{B:Nat}{w:World}{r:Nat}{k:Int}(R:RdU B w r k):w.heap.size≠r:=by have:=R.here; have:=R.base; omega
theorem BCell.newK{r:Nat}{W w':World}{ty:TypeId}(K:Kept r (W.alloc (.cells #[.int .i64 0,.int .i64 0,.int .i64 0,.int .i64 0] ty)) w')(h:W.heap.size≠r):BCell w' W.heap.size 0 0 0 0:=(BCell.new W W.heap.size 0 0 0 0 ty rfl).kept K h
open Go.RowKit
theorem Gl{w a:World}(h:Below w.heap.size w a){b:Nat}(hb:w.heap.size<=b)(v0 v1:Value):Below w.heap.size w ((a.setCell ⟨b,0,none⟩ v0).setCell ⟨b,1,none⟩ v1):=Ag (Ag h _ _ _ hb) _ _ _ hb
theorem PCell.far2{W:World}{b:Nat}{x y:Int}(h:PCell W b x y){c:Nat}(hne:c≠b)(v0 v1:Value):PCell ((W.setCell ⟨c,0,none⟩ v0).setCell ⟨c,1,none⟩ v1) b x y:=(h.far hne _ _).far hne _ _
theorem BCell.far2{W:World}{b:Nat}{p q s t:Int}(h:BCell W b p q s t){c:Nat}(hne:c≠b)(v0 v1:Value):BCell ((W.setCell ⟨c,0,none⟩ v0).setCell ⟨c,1,none⟩ v1) b p q s t:=(h.far hne _ _).far hne _ _
open Go.RowKit
open M
theorem BJ(x y:Int)(w:World):Calls Try.prog 61 #[Ce x y] w fun e w'=>e=.returned (Ce x y)/\Below w.heap.size w w':=by
 go_enter Try.func61,Try.ntmps61;go_wp2;exact bodyPost_ret (v:=Ce x y) (by simp[results,Try.results61,go_sem]) rfl ⟨rfl,(by repeat (first | exact Ac _ | assumption | refine Ab ?_ _ | refine Ar ?_ _ | refine Ag ?_ _ _ _ (by omega)))⟩
theorem Bi(x y:Int)(w:World):Calls Try.prog 69 #[Ce x y,Ce x y] w fun e w'=>e=.returned (.bool true)/\Below w.heap.size w w':=by
 go_enter Try.func69,Try.ntmps69;go_wp2;go_ret;exact⟨rfl,(by repeat (first | exact Ac _ | assumption | refine Ab ?_ _ | refine Ar ?_ _ | refine Ag ?_ _ _ _ (by omega)))⟩
open Go.RowKit
open M
theorem CN(p q s t:Int)(w:World):Calls Try.prog 63 #[box p q s t] w fun e w'=>e=.returned (box p q s t)/\Below w.heap.size w w':=by
 go_enter Try.func63,Try.ntmps63;go_wp2_with fail;refine(BJ _ _ _).mono ?_;rintro e w1 ⟨rfl,B1⟩;have P1:BCell w1 w.heap.size p q s t:=(((BCell.new w w.heap.size p q s t _ rfl).alloc _).alloc _).step B1;have D1:BCell w1 (w.heap.size+1) 0 0 0 0:=((BCell.new _ (w.heap.size+1) 0 0 0 0 _ (by simp)).alloc _).step B1;have O1:BCell w1 (w.heap.size+1+1) 0 0 0 0:=(BCell.new _ (w.heap.size+1+1) 0 0 0 0 _ (by simp)).step B1;have H1:=hid (Aa (Ab (Ab (Ab (Ac w) _) _) _) B1);clear B1;have pc0:=P1.c0;have pc1:=P1.c1;have pc2:=P1.c2;have pc3:=P1.c3;have pf0:=P1.f0;have pf1:=P1.f1;have pf2:=P1.f2;have pf3:=P1.f3;have pl:=P1.lt
 have dc0:=D1.c0;have dc1:=D1.c1;have dc2:=D1.c2;have dc3:=D1.c3;have df0:=D1.f0;have df1:=D1.f1;have df2:=D1.f2;have df3:=D1.f3;have dl:=D1.lt;have oc0:=O1.c0;have oc1:=O1.c1;have oc2:=O1.c2;have oc3:=O1.c3;have of0:=O1.f0;have of1:=O1.f1;have of2:=O1.f2;have of3:=O1.f3;have ol:=O1.lt;go_wp2_with fail;refine(BJ _ _ _).mono ?_;rintro e w2 ⟨rfl,B2⟩;have P2:=(P1.far2 (c:=w.heap.size+1+1) (by omega) (.int .i64 p) (.int .i64 q)).step B2;have D2:=(D1.far2 (c:=w.heap.size+1+1) (by omega) (.int .i64 p) (.int .i64 q)).step B2;have O2:=((O1.set0 p).set1 q).step B2
 have H2:=hid (Aa (Gl H1.out (b:=w.heap.size+1+1) (by omega) (.int .i64 p) (.int .i64 q)) B2);clear B2 H1 P1 D1 O1 pc0 pc1 pc2 pc3 pf0 pf1 pf2 pf3 pl dc0 dc1 dc2 dc3 df0 df1 df2 df3 dl oc0 oc1 oc2 oc3 of0 of1 of2 of3 ol;have dc0:=D2.c0;have dc1:=D2.c1;have dc2:=D2.c2;have dc3:=D2.c3;have df0:=D2.f0;have df1:=D2.f1;have df2:=D2.f2;have df3:=D2.f3;have dl:=D2.lt;have oc0:=O2.c0;have oc1:=O2.c1;have oc2:=O2.c2;have oc3:=O2.c3;have of0:=O2.f0;have of1:=O2.f1;have of2:=O2.f2;have of3:=O2.f3;have ol:=O2.lt;go_wp2
 exact bodyPost_ret (v:=box p q s t) (by simp[results,Try.results63,go_sem,dc0,dc1,dc2,dc3,oc0,oc1,oc2,oc3]) rfl ⟨rfl,by repeat (first | with_reducible exact H2.out | with_reducible refine Ag ?_ _ _ _ (by omega) | with_reducible refine Ab ?_ _)⟩
open Go.RowKit
open M
theorem Cj(p q s t:Int)(w:World):Calls Try.prog 71 #[box p q s t,box p q s t] w fun e w'=>e=.returned (.bool true)/\Below w.heap.size w w':=by
 have O0:BCell ((w.alloc (.cells #[.int .i64 p,.int .i64 q,.int .i64 s,.int .i64 t] 56)).alloc (.cells #[.int .i64 p,.int .i64 q,.int .i64 s,.int .i64 t] 56)) w.heap.size p q s t:=(BCell.new w w.heap.size p q s t _ rfl).alloc _;have O1:BCell ((w.alloc (.cells #[.int .i64 p,.int .i64 q,.int .i64 s,.int .i64 t] 56)).alloc (.cells #[.int .i64 p,.int .i64 q,.int .i64 s,.int .i64 t] 56)) (w.heap.size+1) p q s t:=BCell.new _ (w.heap.size+1) p q s t _ (by simp);go_enter Try.func71,Try.ntmps71;go_wp2_with fail;refine(Bi _ _ _).mono ?_;rintro e w1 ⟨rfl,B1⟩;have O2:=O0.step B1;have O3:=O1.step B1;have H1:=hid (Aa (Ab (Ab (Ac w) _) _) B1)
 clear B1 O0 O1;have ac0:=O2.c0;have ac1:=O2.c1;have ac2:=O2.c2;have ac3:=O2.c3;have af0:=O2.f0;have af1:=O2.f1;have af2:=O2.f2;have af3:=O2.f3;have al:=O2.lt;have bc0:=O3.c0;have bc1:=O3.c1;have bc2:=O3.c2;have bc3:=O3.c3;have bf0:=O3.f0;have bf1:=O3.f1;have bf2:=O3.f2;have bf3:=O3.f3;have bl:=O3.lt;go_wp2_with fail;refine(Bi _ _ _).mono ?_;rintro e w2 ⟨rfl,B2⟩;have H2:=hid (Aa H1.out B2);clear B2 H1 O2 O3 ac0 ac1 ac2 ac3 af0 af1 af2 af3 al bc0 bc1 bc2 bc3 bf0 bf1 bf2 bf3 bl;go_wp2;go_ret;exact⟨rfl,H2.out⟩
end Go.Proofs.Ytbeohbhhmcjokaa
