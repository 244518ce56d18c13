import Derived.Test.YtgbiagonfbnooaaGreatDoorZRepR
import Derived.Test.YtgbiagonfbnooaaGreatDoorZTxG
set_option linter.all false
set_option maxRecDepth 100000
set_option maxHeartbeats 8000000
open Go.Lib
namespace Go.Proofs.YtgbiagonfbnooaaGreatDoor
open Go.RowKit
open M
theorem M.rtxt_some{r:Rep}(h:Bq r=true):rtxt r=E7 r:=by rw[rtxt,h]; rfl
theorem M.rtext_some{r:Rep}(h:Bq r=true):rtext r=E7 r:=by rw[rtext,h]; rfl
theorem D5(l p s:Int)(A:Option Addr)(n c:Nat)(H:Option Addr)(m d:Nat)(t:Int)(A2:Option Addr)(n2 c2:Nat)(H2:Option Addr)(m2 d2:Nat)(xs:List In)(hs:List Int)(w:World)
 (Y:Inputs w A n xs) (Z:Ints w H m hs) (Y2:Inputs w A2 n2 xs) (Z2:Ints w H2 m2 hs) (hn:n<=1048576) (hm:m<=1048576) :
 Calls Tryz.prog 11 #[CH l p s A n c H m d t,CH l p s A2 n2 c2 H2 m2 d2 t] w fun e w'=>e=.returned (.bool true)/\Below w.heap.size w w':=by
 obtain rfl:n2=n:=Y2.1.symm.trans Y.1;obtain rfl:m2=m:=Z2.1.symm.trans Z.1;have D1:CellsAt ((w.alloc (.cells #[.int .i64 l,.int .i64 p,.int .i64 s,.slice A n2 c,.slice H m2 d,.int .i64 t] 26)).alloc (.cells #[.int .i64 l,.int .i64 p,.int .i64 s,.slice A2 n2 c2,.slice H2 m2 d2,.int .i64 t] 26)) w.heap.size (AR l p s A n2 c H m2 d t):=(CellsAt.new w _ _ _ rfl).alloc _
 have D2:CellsAt ((w.alloc (.cells #[.int .i64 l,.int .i64 p,.int .i64 s,.slice A n2 c,.slice H m2 d,.int .i64 t] 26)).alloc (.cells #[.int .i64 l,.int .i64 p,.int .i64 s,.slice A2 n2 c2,.slice H2 m2 d2,.int .i64 t] 26)) (w.heap.size+1) (AR l p s A2 n2 c2 H2 m2 d2 t):=CellsAt.new _ _ _ _ (by simp);have BB:Below w.heap.size w ((w.alloc (.cells #[.int .i64 l,.int .i64 p,.int .i64 s,.slice A n2 c,.slice H m2 d,.int .i64 t] 26)).alloc (.cells #[.int .i64 l,.int .i64 p,.int .i64 s,.slice A2 n2 c2,.slice H2 m2 d2,.int .i64 t] 26)):=Ab (Ab (Ac w) _) _;replace Y:=hid (Y.step BB);replace Z:=hid (Z.step BB);replace Y2:=hid (Y2.step BB)
 replace Z2:=hid (Z2.step BB);replace BB:=hid BB;replace D1:=hid D1;replace D2:=hid D2;go_enter Tryz.func11,Tryz.ntmps11;go_upto_region 1 with fail;generalize ((w.alloc (.cells #[.int .i64 l,.int .i64 p,.int .i64 s,.slice A n2 c,.slice H m2 d,.int .i64 t] 26)).alloc (.cells #[.int .i64 l,.int .i64 p,.int .i64 s,.slice A2 n2 c2,.slice H2 m2 d2,.int .i64 t] 26))=W at *;replace D1:=D1.out;replace D2:=D2.out;have a0:=D1.cell 0 _ rfl;have a1:=D1.cell 1 _ rfl;have a2:=D1.cell 2 _ rfl;have a3:=D1.cell 3 _ rfl;have a4:=D1.cell 4 _ rfl;have a5:=D1.cell 5 _ rfl;have al:=D1.lt;have b0:=D2.cell 0 _ rfl;have b1:=D2.cell 1 _ rfl;have b2:=D2.cell 2 _ rfl
 have b3:=D2.cell 3 _ rfl;have b4:=D2.cell 4 _ rfl;have b5:=D2.cell 5 _ rfl;have bl:=D2.lt;replace D1:=hid D1;replace D2:=hid D2;go_wp2_with fail;refine(DV A A2 n2 c c2 xs _ Y.out Y2.out hn).mono ?_;rintro e w1 ⟨rfl,B⟩;clear a0 a1 a2 a3 a4 a5 al b0 b1 b2 b3 b4 b5 bl;replace D1:=D1.out.step B;replace D2:=D2.out.step B;replace Z:=hid (Z.out.step B);replace Z2:=hid (Z2.out.step B);replace BB:=hid (Aa BB.out B);clear B Y Y2;have a4:=D1.cell 4 _ rfl;have al:=D1.lt;have b4:=D2.cell 4 _ rfl;have bl:=D2.lt;go_wp2_with fail;refine(Fc H H2 m2 d d2 hs _ Z.out Z2.out hm).mono ?_;rintro e w2 ⟨rfl,B⟩;replace BB:=Aa BB.out B;go_wp2
 go_ret;exact⟨rfl,BB⟩
end Go.Proofs.YtgbiagonfbnooaaGreatDoor
