import Derived.Test.YtkpogcflgghfiaaDoorZCelS
import Derived.Deep.RegionHeld
import Derived.Deep.RegionHeld3
import Derived.Test.YtkpogcflgghfiaaDoorZHashS
import Derived.Test.YtkpogcflgghfiaaDoorZRdS
import Derived.Test.YtkpogcflgghfiaaDoorZEngP
import Derived.Test.YtkpogcflgghfiaaDoorZEngLaws
set_option maxRecDepth 100000
set_option maxHeartbeats 8000000
open Go.Lib
namespace Go.Proofs.YtkpogcflgghfiaaDoor
open Go.RowKit
def Enters (P:Program) (f:FuncId):Prop:=∃ fn,P.funcs[f]?=some fn∧(fn.name == "runtime.NumGoroutine")=false∧fn.body.isNone=false
theorem run_callFunc {P:Program} {f:FuncId} (hf:Enters P f) (vs:Array Value) (w:World):(callFunc f vs).run P w=.ok (.enter f vs) w:=by
 obtain ⟨fn,h1,h2,h3⟩:=hf;unfold callFunc;simp only [Sem.run_bind,show (program:Sem Program).run P w=.ok P w from rfl,Result.andThen_ok,h1,h2,h3];rfl
theorem wp_of_enter {P:Program} {w:World} {o:Oper} {a:Act} {K:Act→World→Prop} {Q:Exit→Act→World→Prop} {f:FuncId} {vs:Array Value} (e:(execOp a.eval o).run P w=.ok (.enter f vs) w) {R:Ending→World→Prop} (hc:Calls P f vs w R)
 (h:∀ e w',R e w'→∃ v,e=.returned v∧K (a.put o.dst v) w'):o.wp P a w K Q:=by
 unfold Oper.wp;rw [e,Oper.upon_enter];refine hc.mono fun e w' hR=>?_;obtain ⟨v,rfl,hK⟩:=h e w' hR;exact hK
theorem wp_call_fn {P:Program} {w:World} {o:Oper} {a:Act} {K:Act→World→Prop} {Q:Exit→Act→World→Prop} {f:FuncId} (hf:Enters P f) (xs:Array Operand) (ts:Array TypeId)
 (ho:o.op=.call { callee:=.value (.func f),args:=xs,argTypes:=ts }) (vs:Array Value) (hv:xs.map a.eval=vs) {R:Ending→World→Prop} (hc:Calls P f vs w R)
 (h:∀ e w',R e w'→∃ v,e=.returned v∧K (a.put o.dst v) w'):o.wp P a w K Q:=by
 refine wp_of_enter ?_ hc h;unfold execOp;have e0:(#[]++vs++#[]:Array Value)=vs:=by simp
 simp only [ho,resolve,invoke,Deferred.ofValue,hv,Sem.run_bind,Sem.run_pure,Result.andThen_ok,Act.eval,e0];exact run_callFunc hf vs w
theorem wp_invoke_fn {P:Program} {w:World} {o:Oper} {a:Act} {K:Act→World→Prop} {Q:Exit→Act→World→Prop} {f:FuncId} (hf:Enters P f) (x:Operand) (name:String) (xs:Array Operand) (ts:Array TypeId)
 (ho:o.op=.call { callee:=.invoke x name,args:=xs,argTypes:=ts }) (t:TypeId) (v:Value) (hx:a.eval x=.iface t v) (r:Value) (hm:(method (P.types.size+Made.depth) t v name).run P w=.ok (f,r) w) (vs:Array Value) (hv:#[r]++xs.map a.eval=vs) {R:Ending→World→Prop} (hc:Calls P f vs w R)
 (h:∀ e w',R e w'→∃ v,e=.returned v∧K (a.put o.dst v) w'):o.wp P a w K Q:=by
 refine wp_of_enter ?_ hc h;unfold execOp;simp only [ho,resolve,hx,Sem.run_bind,Sem.run_pure,Result.andThen_ok];unfold invoke;have e1:(#[Value.iface t v]++xs.map a.eval)[0]?=some (.iface t v):=by rw [Array.getElem?_append_left (by simp)]; rfl
 have e2:(#[Value.iface t v]++xs.map a.eval).extract 1 (#[Value.iface t v]++xs.map a.eval).size=xs.map a.eval:=by apply Array.ext'; simp; exact List.take_of_length_le (by simp)
 rw [e1];simp only [e2];unfold callMethod;simp only [Sem.run_bind,show (program:Sem Program).run P w=.ok P w from rfl,Result.andThen_ok,hm,hv];exact run_callFunc hf vs w
theorem bel_back {W:World} {v:Value} {K:Value→World→Prop} (h:∀ w',Below W.heap.size W w'→K v w'):∀ (e:Ending) (w':World),(e=.returned v∧Below W.heap.size W w')→∃ v,e=.returned v∧K v w':=fun _ w' ⟨he,B⟩=>⟨v,he,h w' B⟩
end Go.Proofs.YtkpogcflgghfiaaDoor
namespace Go.Proofs.YtkpogcflgghfiaaDoor
open Go.RowKit
open M
structure ICell (w:World) (b:Nat) (x:Int):Prop where
 c0:w.cell? ⟨b,0,none⟩=some (.int .i64 x)
 f0:w.frozen? ⟨b,0,none⟩=false
 lt:b<w.heap.size
theorem ICell.of {W w':World} {b:Nat} {x:Int} (h:ICell W b x) (e:w'.heap[b]?=W.heap[b]?) (hs:W.heap.size≤w'.heap.size):ICell w' b x :=
 ⟨(World.cell?_of_block (a:=⟨b,0,none⟩) e).trans h.c0,(World.frozen?_of_block (a:=⟨b,0,none⟩) e).trans h.f0,Nat.lt_of_lt_of_le h.lt hs⟩
theorem ICell.step {W w':World} {b:Nat} {x:Int} (h:ICell W b x) (B:Below W.heap.size W w'):ICell w' b x:=h.of (B.block b h.lt) B.size
theorem ICell.alloc {W:World} {b:Nat} {x:Int} (h:ICell W b x) (o:Obj):ICell (W.alloc o) b x:=h.step (bl_alloc (bl_refl W) o)
theorem ICell.drew {W:World} {b:Nat} {x:Int} (h:ICell W b x):ICell W.drew b x:=⟨h.c0,h.f0,h.lt⟩
theorem ICell.new (W:World) (b:Nat) (x:Int) (ty:TypeId) (hb:b=W.heap.size):ICell (W.alloc (.cells #[.int .i64 x] ty)) b x:=by
 subst hb;exact ⟨by simp,by simp,by simp⟩
theorem ICell.set {W:World} {b:Nat} {x:Int} (h:ICell W b x) (z:Int):ICell (W.setCell ⟨b,0,none⟩ (.int .i64 z)) b z :=
 ⟨World.cell?_setCell_same' _ _ _ (by rw [h.c0]; rfl),(by rw [World.frozen?_setCell]; exact h.f0),(by rw [World.size_setCell]; exact h.lt)⟩
theorem Kept.drewd {r:Nat} {w a:World} (h:Kept r w a):Kept r w a.drew:=⟨h.os,h.tape,h.output,h.size,h.block⟩
def Off (A:Option Addr) (n b:Nat):Prop:=0<n→∀ k off,A=some ⟨k,off,none⟩→k≠b
theorem Ints.kept {w w':World} {A:Option Addr} {n r:Nat} {xs:List Int} (h:Ints w A n xs) (K:Kept r w w') (hA:Off A n r):Ints w' A n xs :=
 ⟨h.1,fun hn=>by
  obtain ⟨b,off,e,hb,hc⟩:=h.2 hn;exact ⟨b,off,e,Nat.lt_of_lt_of_le hb K.size,fun k hk=>(K.cell (p:=⟨b,off+k,none⟩) hb (hA hn b off e)).trans (hc k hk)⟩⟩
theorem Ints.off {w:World} {A:Option Addr} {n:Nat} {xs:List Int} (h:Ints w A n xs) {b:Nat} (hb:w.heap.size≤b):Off A n b:=fun hn k off e=>by
 obtain ⟨b',off',e',hb',_⟩:=h.2 hn;rw [e'] at e;cases e
 omega
end Go.Proofs.YtkpogcflgghfiaaDoor
namespace Go.Proofs.YtkpogcflgghfiaaDoor
open Go.RowKit
open M
theorem implEStart (i t x y:Int) (A:Option Addr) (n c:Nat) (G:Option Addr) (m kk:Nat) (fp fq fs fz b:Int) (ws gs:List Bx) (w:World) (I:Boxes w A n ws) (J:Boxes w G m gs) (hn:n≤281474976710656) (hm:m≤281474976710656):Calls Tryd.prog 52 #[lev i t x y A n c G m kk fp fq fs fz b] w fun e w'=>e=.returned (.tuple #[(if lvB i t x y ws gs fp fq fs fz b then sta 0 x y 0 0 0 0 false false else sta 0 0 0 0 0 0 0 false false),.bool (lvB i t x y ws gs fp fq fs fz b)])∧Below w.heap.size w w':=by
 have V:=fun (W:World) (Z:Boxes W A n ws) (Y:Boxes W G m gs)=>implLvValid i t x y A n c G m kk fp fq fs fz b ws gs W Z Y hn hm;have I:=hid I;have J:=hid J;have P:CellsAt ((w.alloc (.cells #[.int .i64 i,.int .i64 t,.int .i64 x,.int .i64 y,.slice A n c,.slice G m kk,.int .i64 fp,.int .i64 fq,.int .i64 fs,.int .i64 fz,.int .i64 b] 29)).alloc (.cells #[.int .i64 0,.int .i64 0,.int .i64 0,.int .i64 0,.int .i64 0,.int .i64 0,.int .i64 0,.bool false,.bool false] 34)) w.heap.size (lvs i t x y A n c G m kk fp fq fs fz b):=(CellsAt.new w _ _ _ rfl).alloc _
 have D:CellsAt ((w.alloc (.cells #[.int .i64 i,.int .i64 t,.int .i64 x,.int .i64 y,.slice A n c,.slice G m kk,.int .i64 fp,.int .i64 fq,.int .i64 fs,.int .i64 fz,.int .i64 b] 29)).alloc (.cells #[.int .i64 0,.int .i64 0,.int .i64 0,.int .i64 0,.int .i64 0,.int .i64 0,.int .i64 0,.bool false,.bool false] 34)) (w.heap.size+1) (stv 0 0 0 0 0 0 0 false false):=CellsAt.new _ _ _ _ (by simp)
 have H:=hid (bl_alloc (bl_alloc (bl_refl w) (.cells #[.int .i64 i,.int .i64 t,.int .i64 x,.int .i64 y,.slice A n c,.slice G m kk,.int .i64 fp,.int .i64 fq,.int .i64 fs,.int .i64 fz,.int .i64 b] 29)) (.cells #[.int .i64 0,.int .i64 0,.int .i64 0,.int .i64 0,.int .i64 0,.int .i64 0,.int .i64 0,.bool false,.bool false] 34));cases hv:lvB i t x y ws gs fp fq fs fz b
 · rw [hv] at V;have V:=hid V;clear hv;go_enter Tryd.func52,Tryd.ntmps52;go_wp2_with fail;refine (V.out _ (I.out.step H.out) (J.out.step H.out)).mono ?_;rintro e w1 ⟨rfl,B⟩;replace P:=P.step B;replace D:=D.step B;replace H:=hid (bl_trans H.out B);clear B;go_wp2_with (refine store_new rfl 34 (.tmp 2) (.tmp 7) rfl (w.heap.size+1) rfl (stv 0 0 0 0 0 0 0 false false) rfl _ D (by simp) state_size rfl ?_);intro w2 K N;go_wp2;exact bodyPost_ret (v:=.tuple #[sta 0 0 0 0 0 0 0 false false,.bool false]) (res_cells_tmp rfl (w.heap.size+1) rfl (stv 0 0 0 0 0 0 0 false false) N (.bool false) rfl Tryd.underlying34 rfl state_size) rfl ⟨rfl,kp_below H.out K (by omega)⟩
 · rw [hv] at V;have V:=hid V;clear hv;go_enter Tryd.func52,Tryd.ntmps52;go_wp2_with fail;refine (V.out _ (I.out.step H.out) (J.out.step H.out)).mono ?_;rintro e w1 ⟨rfl,B⟩;replace P:=P.step B;replace D:=D.step B;replace H:=hid (bl_trans H.out B);clear B;obtain ⟨Pc0,Pc1,Pc2,Pc3,Pc4,Pc5,Pc6,Pc7,Pc8,Pc9,Pc10⟩:=ce11 P;have Pl:=P.lt;go_wp2_with (refine store_new rfl 34 (.tmp 2) (.tmp 10) rfl (w.heap.size+1) rfl (stv 0 x y 0 0 0 0 false false) rfl _ D (by simp) state_size rfl ?_);intro w2 K N;go_wp2
   exact bodyPost_ret (v:=.tuple #[sta 0 x y 0 0 0 0 false false,.bool true]) (res_cells_tmp rfl (w.heap.size+1) rfl (stv 0 x y 0 0 0 0 false false) N (.bool true) rfl Tryd.underlying34 rfl state_size) rfl ⟨rfl,kp_below H.out K (by omega)⟩
end Go.Proofs.YtkpogcflgghfiaaDoor
