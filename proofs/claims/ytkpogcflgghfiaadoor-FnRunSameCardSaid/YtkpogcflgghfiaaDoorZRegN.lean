import Derived.Test.YtkpogcflgghfiaaDoorZCelS
import Derived.Deep.RegionHeld
import Derived.Deep.RegionHeld3
import Derived.Test.YtkpogcflgghfiaaDoorZHead
import Derived.Test.YtkpogcflgghfiaaDoorZRdS
import Derived.Test.YtkpogcflgghfiaaDoorZEngP
import Derived.Test.YtkpogcflgghfiaaDoorZEngLaws
import Derived.Test.YtkpogcflgghfiaaDoorZEngC
import Derived.Test.YtkpogcflgghfiaaDoorZDrawRun
import Derived.Test.YtkpogcflgghfiaaDoorZLeg
import Derived.Test.YtkpogcflgghfiaaDoorZ0
set_option linter.all false
set_option maxRecDepth 100000
set_option maxHeartbeats 8000000
open Go.Lib
namespace Go.Proofs.YtkpogcflgghfiaaDoor
open Go.RowKit
def Enters (P:Program) (f:FuncId):Prop:=∃ fn,P.funcs[f]?=some fn∧(fn.name == "runtime.NumGoroutine")=false∧fn.body.isNone=false
theorem FC {P:Program} {f:FuncId} (hf:Enters P f) (vs:Array Value) (w:World):(callFunc f vs).run P w=.ok (.enter f vs) w:=by
 obtain ⟨fn,h1,h2,h3⟩:=hf;unfold callFunc;simp only [Sem.run_bind,show (program:Sem Program).run P w=.ok P w from rfl,Result.andThen_ok,h1,h2,h3];rfl
theorem Gz {P:Program} {w:World} {o:Oper} {a:Act} {K:Act→World→Prop} {Q:Exit→Act→World→Prop} {f:FuncId} {vs:Array Value} (e:(execOp a.eval o).run P w=.ok (.enter f vs) w) {R:Ending→World→Prop} (hc:Calls P f vs w R)
 (h:∀ e w',R e w'→∃ v,e=.returned v∧K (a.put o.dst v) w'):o.wp P a w K Q:=by
 unfold Oper.wp;rw [e,Oper.upon_enter];refine hc.mono fun e w' hR=>?_;obtain ⟨v,rfl,hK⟩:=h e w' hR;exact hK
theorem As {P:Program} {w:World} {o:Oper} {a:Act} {K:Act→World→Prop} {Q:Exit→Act→World→Prop} {f:FuncId} (hf:Enters P f) (xs:Array Operand) (ts:Array TypeId)
 (ho:o.op=.call { callee:=.value (.func f),args:=xs,argTypes:=ts }) (vs:Array Value) (hv:xs.map a.eval=vs) {R:Ending→World→Prop} (hc:Calls P f vs w R)
 (h:∀ e w',R e w'→∃ v,e=.returned v∧K (a.put o.dst v) w'):o.wp P a w K Q:=by
 refine Gz ?_ hc h;unfold execOp;have e0:(#[]++vs++#[]:Array Value)=vs:=by simp
 simp only [ho,resolve,invoke,Deferred.ofValue,hv,Sem.run_bind,Sem.run_pure,Result.andThen_ok,Act.eval,e0];exact FC hf vs w
theorem CW {P:Program} {w:World} {o:Oper} {a:Act} {K:Act→World→Prop} {Q:Exit→Act→World→Prop} {f:FuncId} (hf:Enters P f) (x:Operand) (name:String) (xs:Array Operand) (ts:Array TypeId)
 (ho:o.op=.call { callee:=.invoke x name,args:=xs,argTypes:=ts }) (t:TypeId) (v:Value) (hx:a.eval x=.iface t v) (r:Value) (hm:(method (P.types.size+Made.depth) t v name).run P w=.ok (f,r) w) (vs:Array Value) (hv:#[r]++xs.map a.eval=vs) {R:Ending→World→Prop} (hc:Calls P f vs w R)
 (h:∀ e w',R e w'→∃ v,e=.returned v∧K (a.put o.dst v) w'):o.wp P a w K Q:=by
 refine Gz ?_ hc h;unfold execOp;simp only [ho,resolve,hx,Sem.run_bind,Sem.run_pure,Result.andThen_ok];unfold invoke;have e1:(#[Value.iface t v]++xs.map a.eval)[0]?=some (.iface t v):=by rw [Array.getElem?_append_left (by simp)]; rfl
 have e2:(#[Value.iface t v]++xs.map a.eval).extract 1 (#[Value.iface t v]++xs.map a.eval).size=xs.map a.eval:=by apply Array.ext'; simp; exact List.take_of_length_le (by simp)
 rw [e1];simp only [e2];unfold callMethod;simp only [Sem.run_bind,show (program:Sem Program).run P w=.ok P w from rfl,Result.andThen_ok,hm,hv];exact FC hf vs w
theorem AM {W:World} {v:Value} {K:Value→World→Prop} (h:∀ w',Below W.heap.size W w'→K v w'):∀ (e:Ending) (w':World),(e=.returned v∧Below W.heap.size W w')→∃ v,e=.returned v∧K v w':=fun _ w' ⟨he,B⟩=>⟨v,he,h w' B⟩
end Go.Proofs.YtkpogcflgghfiaaDoor
namespace Go.Proofs.YtkpogcflgghfiaaDoor
open Go.RowKit
open M
structure ICell (w:World) (b:Nat) (x:Int):Prop where
 c0:w.cell? ⟨b,0,none⟩=some (.int .i64 x)
 f0:w.frozen? ⟨b,0,none⟩=false
 lt:b<w.heap.size
theorem ICell.of {W w':World} {b:Nat} {x:Int} (h:ICell W b x) (e:w'.heap[b]?=W.heap[b]?) (hs:W.heap.size≤w'.heap.size):ICell w' b x :=
 ⟨(World.cell?_of_block (a:=⟨b,0,none⟩) e).trans h.c0,(World.frozen?_of_block (a:=⟨b,0,none⟩) e).trans h.f0,Nat.lt_of_lt_of_le h.lt hs⟩
theorem ICell.step {W w':World} {b:Nat} {x:Int} (h:ICell W b x) (B:Below W.heap.size W w'):ICell w' b x:=h.of (B.block b h.lt) B.size
theorem ICell.alloc {W:World} {b:Nat} {x:Int} (h:ICell W b x) (o:Obj):ICell (W.alloc o) b x:=h.step (Aa (Ac W) o)
theorem ICell.drew {W:World} {b:Nat} {x:Int} (h:ICell W b x):ICell W.drew b x:=⟨h.c0,h.f0,h.lt⟩
theorem ICell.new (W:World) (b:Nat) (x:Int) (ty:TypeId) (hb:b=W.heap.size):ICell (W.alloc (.cells #[.int .i64 x] ty)) b x:=by
 subst hb;exact ⟨by simp,by simp,by simp⟩
theorem ICell.set {W:World} {b:Nat} {x:Int} (h:ICell W b x) (z:Int):ICell (W.setCell ⟨b,0,none⟩ (.int .i64 z)) b z :=
 ⟨World.cell?_setCell_same' _ _ _ (by rw [h.c0]; rfl),(by rw [World.frozen?_setCell]; exact h.f0),(by rw [World.size_setCell]; exact h.lt)⟩
theorem Kept.drewd {r:Nat} {w a:World} (h:Kept r w a):Kept r w a.drew:=⟨h.os,h.tape,h.output,h.size,h.block⟩
def Off (A:Option Addr) (n b:Nat):Prop:=0<n→∀ k off,A=some ⟨k,off,none⟩→k≠b
theorem Ints.kept {w w':World} {A:Option Addr} {n r:Nat} {xs:List Int} (h:Ints w A n xs) (K:Kept r w w') (hA:Off A n r):Ints w' A n xs :=
 ⟨h.1,fun hn=>by
  obtain ⟨b,off,e,hb,hc⟩:=h.2 hn;exact ⟨b,off,e,Nat.lt_of_lt_of_le hb K.size,fun k hk=>(K.cell (p:=⟨b,off+k,none⟩) hb (hA hn b off e)).trans (hc k hk)⟩⟩
theorem Ints.off {w:World} {A:Option Addr} {n:Nat} {xs:List Int} (h:Ints w A n xs) {b:Nat} (hb:w.heap.size≤b):Off A n b:=fun hn k off e=>by
 obtain ⟨b',off',e',hb',_⟩:=h.2 hn;rw [e'] at e;cases e
 omega
end Go.Proofs.YtkpogcflgghfiaaDoor
namespace Go.Proofs.YtkpogcflgghfiaaDoor
open Go.RowKit
open M
theorem Lq (i t x y:Int) (A:Option Addr) (n c:Nat) (G:Option Addr) (m kk:Nat) (fp fq fs fz b:Int) (ws gs:List Bx) (w:World) (I:Boxes w A n ws) (J:Boxes w G m gs) (hn:n≤281474976710656) (hm:m≤281474976710656):Calls Tryd.prog 52 #[CR i t x y A n c G m kk fp fq fs fz b] w fun e w'=>e=.returned (.tuple #[(if Cm i t x y ws gs fp fq fs fz b then BZ 0 x y 0 0 0 0 false false else BZ 0 0 0 0 0 0 0 false false),.bool (Cm i t x y ws gs fp fq fs fz b)])∧Below w.heap.size w w':=by
 have V:=fun (W:World) (Z:Boxes W A n ws) (Y:Boxes W G m gs)=>Cb i t x y A n c G m kk fp fq fs fz b ws gs W Z Y hn hm;have I:=hid I;have J:=hid J;have P:CellsAt ((w.alloc (.cells #[.int .i64 i,.int .i64 t,.int .i64 x,.int .i64 y,.slice A n c,.slice G m kk,.int .i64 fp,.int .i64 fq,.int .i64 fs,.int .i64 fz,.int .i64 b] 29)).alloc (.cells #[.int .i64 0,.int .i64 0,.int .i64 0,.int .i64 0,.int .i64 0,.int .i64 0,.int .i64 0,.bool false,.bool false] 34)) w.heap.size (AV i t x y A n c G m kk fp fq fs fz b):=(CellsAt.new w _ _ _ rfl).alloc _
 have D:CellsAt ((w.alloc (.cells #[.int .i64 i,.int .i64 t,.int .i64 x,.int .i64 y,.slice A n c,.slice G m kk,.int .i64 fp,.int .i64 fq,.int .i64 fs,.int .i64 fz,.int .i64 b] 29)).alloc (.cells #[.int .i64 0,.int .i64 0,.int .i64 0,.int .i64 0,.int .i64 0,.int .i64 0,.int .i64 0,.bool false,.bool false] 34)) (w.heap.size+1) (Ax 0 0 0 0 0 0 0 false false):=CellsAt.new _ _ _ _ (by simp)
 have H:=hid (Aa (Aa (Ac w) (.cells #[.int .i64 i,.int .i64 t,.int .i64 x,.int .i64 y,.slice A n c,.slice G m kk,.int .i64 fp,.int .i64 fq,.int .i64 fs,.int .i64 fz,.int .i64 b] 29)) (.cells #[.int .i64 0,.int .i64 0,.int .i64 0,.int .i64 0,.int .i64 0,.int .i64 0,.int .i64 0,.bool false,.bool false] 34));cases hv:Cm i t x y ws gs fp fq fs fz b
 · rw [hv] at V;have V:=hid V;clear hv;go_enter Tryd.func52,Tryd.ntmps52;go_wp2_with fail;refine (V.out _ (I.out.step H.out) (J.out.step H.out)).mono ?_;rintro e w1 ⟨rfl,B⟩;replace P:=P.step B;replace D:=D.step B;replace H:=hid (Ab H.out B);clear B;go_wp2_with (refine Ah rfl 34 (.tmp 2) (.tmp 7) rfl (w.heap.size+1) rfl (Ax 0 0 0 0 0 0 0 false false) rfl _ D (by simp) Ad rfl ?_);intro w2 K N;go_wp2;exact bodyPost_ret (v:=.tuple #[BZ 0 0 0 0 0 0 0 false false,.bool false]) (A4 rfl (w.heap.size+1) rfl (Ax 0 0 0 0 0 0 0 false false) N (.bool false) rfl Tryd.underlying34 rfl Ad) rfl ⟨rfl,Ak H.out K (by omega)⟩
 · rw [hv] at V;have V:=hid V;clear hv;go_enter Tryd.func52,Tryd.ntmps52;go_wp2_with fail;refine (V.out _ (I.out.step H.out) (J.out.step H.out)).mono ?_;rintro e w1 ⟨rfl,B⟩;replace P:=P.step B;replace D:=D.step B;replace H:=hid (Ab H.out B);clear B;obtain ⟨Pc0,Pc1,Pc2,Pc3,Pc4,Pc5,Pc6,Pc7,Pc8,Pc9,Pc10⟩:=AG P;have Pl:=P.lt;go_wp2_with (refine Ah rfl 34 (.tmp 2) (.tmp 10) rfl (w.heap.size+1) rfl (Ax 0 x y 0 0 0 0 false false) rfl _ D (by simp) Ad rfl ?_);intro w2 K N;go_wp2
   exact bodyPost_ret (v:=.tuple #[BZ 0 x y 0 0 0 0 false false,.bool true]) (A4 rfl (w.heap.size+1) rfl (Ax 0 x y 0 0 0 0 false false) N (.bool true) rfl Tryd.underlying34 rfl Ad) rfl ⟨rfl,Ak H.out K (by omega)⟩
end Go.Proofs.YtkpogcflgghfiaaDoor
namespace Go.Proofs.YtkpogcflgghfiaaDoor
open Go.RowKit
open M
def M.toS (ws gs:List Bx) (p q r z:Int) (s:St) (xs:List In):St:=xs.foldl (stS ws gs p q r z) s
theorem M.toS_next {ws gs:List Bx} {p q r z:Int} {s:St} {xs:List In} {j:Nat} (h:j<xs.length):toS ws gs p q r z s (xs.take (j+1))=stS ws gs p q r z (toS ws gs p q r z s (xs.take j)) (xs.getD j iz):=by
 unfold toS;rw [List.take_succ_eq_append_getElem h,List.foldl_append,List.getD_eq_getElem?_getD,List.getElem?_eq_getElem h];rfl
theorem VIn.at {xs:List In} (h:VIn xs) {j:Nat} (hj:j<xs.length):Dw (xs.getD j iz).s (xs.getD j iz).p (xs.getD j iz).z=true:=h _ (by
 rw [List.getD_eq_getElem?_getD,List.getElem?_eq_getElem hj];exact List.getElem_mem hj)
def TQ (w:World) (sb m j0:Nat) (ws gs:List Bx) (fp fq fs fz x y:Int) (xs:List In) (vs:List Value) (iv:Value) (W:World):Prop :=
 ∃ (j:Nat) (st:St),j≤j0∧iv=.int .i64 j∧st=toS ws gs fp fq fs fz ⟨0,x,y,0,0,0,0,false,false⟩ (xs.take j)∧StB m st∧st.k≤j∧CellsAt W w.heap.size vs∧CellsAt W (w.heap.size+1) (Ax 0 0 0 0 0 0 0 false false)∧CellsAt W sb (Ax st.k st.ax st.ay st.fx st.fy st.u st.g st.d st.o)∧Below w.heap.size w W
def SD (w:World) (st:St) (e:Ending) (w':World):Prop:=e=.returned (BZ st.k st.ax st.ay st.fx st.fy st.u st.g st.d st.o)∧Below w.heap.size w w'
theorem SE (i t x y:Int) (A:Option Addr) (n c:Nat) (G:Option Addr) (m kk:Nat) (fp fq fs fz b:Int) (ws gs:List Bx) (Q:Option Addr) (N cc:Nat) (xs:List In) (j0:Nat) (w:World) (I:Boxes w A n ws) (J:Boxes w G m gs) (Y:Inputs w Q N xs) (ok:Dn ws=true) (hn:n≤281474976710656) (hm:m≤281474976710656) (hN:N≤1000) (hj0:j0≤N) (vx:VIn xs) (hx:-1000000≤x∧x≤1000000) (hy:-1000000≤y∧y≤1000000) :
 Calls Tryd.prog 21 #[CR i t x y A n c G m kk fp fq fs fz b,.slice Q N cc,.int .i64 j0] w (SD w (toS ws gs fp fq fs fz ⟨0,x,y,0,0,0,0,false,false⟩ (xs.take j0))):=by
 have hl:=hid Y.1;have gl:=J.1;have I:=hid I;have J:=hid J;have Y:=hid Y;have vx:=hid vx;have ok:=hid ok;have L:CellsAt ((w.alloc (.cells #[.int .i64 i,.int .i64 t,.int .i64 x,.int .i64 y,.slice A n c,.slice G m kk,.int .i64 fp,.int .i64 fq,.int .i64 fs,.int .i64 fz,.int .i64 b] 29)).alloc (.cells #[.int .i64 0,.int .i64 0,.int .i64 0,.int .i64 0,.int .i64 0,.int .i64 0,.int .i64 0,.bool false,.bool false] 34)) w.heap.size (AV i t x y A n c G m kk fp fq fs fz b):=(CellsAt.new w _ _ _ rfl).alloc _
 have D:CellsAt ((w.alloc (.cells #[.int .i64 i,.int .i64 t,.int .i64 x,.int .i64 y,.slice A n c,.slice G m kk,.int .i64 fp,.int .i64 fq,.int .i64 fs,.int .i64 fz,.int .i64 b] 29)).alloc (.cells #[.int .i64 0,.int .i64 0,.int .i64 0,.int .i64 0,.int .i64 0,.int .i64 0,.int .i64 0,.bool false,.bool false] 34)) (w.heap.size+1) (Ax 0 0 0 0 0 0 0 false false):=CellsAt.new _ _ _ _ (by simp)
 have H:=hid (Aa (Aa (Ac w) (.cells #[.int .i64 i,.int .i64 t,.int .i64 x,.int .i64 y,.slice A n c,.slice G m kk,.int .i64 fp,.int .i64 fq,.int .i64 fs,.int .i64 fz,.int .i64 b] 29)) (.cells #[.int .i64 0,.int .i64 0,.int .i64 0,.int .i64 0,.int .i64 0,.int .i64 0,.int .i64 0,.bool false,.bool false] 34));go_enter Tryd.func21,Tryd.ntmps21;obtain ⟨Lc0,Lc1,Lc2,Lc3,Lc4,Lc5,Lc6,Lc7,Lc8,Lc9,Lc10⟩:=AG L;have Ll:=L.lt;go_wp2_with fail;refine (Iz i t x y A n c G m kk fp fq fs fz b _).mono ?_;rintro e w1 ⟨rfl,B⟩;replace L:=L.step B;replace D:=D.step B;replace H:=hid (Ab H.out B)
 clear B Lc0 Lc1 Lc2 Lc3 Lc4 Lc5 Lc6 Lc7 Lc8 Lc9 Lc10 Ll;go_upto_region 2 with fail;refine Az (fun W'=>CellsAt W' w.heap.size (AV i t x y A n c G m kk fp fq fs fz b)∧CellsAt W' (w.heap.size+1) (Ax 0 0 0 0 0 0 0 false false)∧CellsAt W' w1.heap.size (Ax 0 x y 0 0 0 0 false false)∧Below w.heap.size w W') ⟨L.alloc _,D.alloc _,CellsAt.new _ _ _ _ rfl,Aa H.out _⟩ ?_;have hsb:w.heap.size+1<w1.heap.size:=D.lt;clear L D H;generalize w1.heap.size=sb at *;rintro w2 ⟨L,D,S,H⟩;go_wp2
 go_loopw [8] (TQ w sb m j0 ws gs fp fq fs fz x y xs (AV i t x y A n c G m kk fp fq fs fz b)) (fun i _=>j0-(intOf i).toNat)
 case atStart=>exact ⟨0,⟨0,x,y,0,0,0,0,false,false⟩,Nat.zero_le _,rfl,rfl,L8 hx hy,Int.le_refl _,L,D,S,H⟩
 case round =>
  clear L D S H;obtain ⟨j,st,hj,rfl,est,hB,hk,L,D,S,H⟩:=hrel;by_cases hlt:j<j0
  · obtain ⟨bb,off,rfl,hb,hcell⟩:=Y.out.2 (by omega);have Z:=((hcell j (by omega)).lie hb).of (H.block bb hb) H.size;have hjl:j<xs.length:=by have:=hl.out; omega
    have hjN:j<N:=by omega
    have vq:=vx.out.at hjl;have en:=toS_next (ws:=ws) (gs:=gs) (p:=fp) (q:=fq) (r:=fs) (z:=fz) (s:=⟨0,x,y,0,0,0,0,false,false⟩) hjl;rw [← est] at en;clear hcell hjl;generalize xs.getD j iz=q at *;obtain ⟨s,p,z⟩:=q;simp only at Z vq;have sb1:=(EY vq).1;have ks:=Mb (ws:=ws) (gs:=gs) (p:=fp) (q:=fq) (r:=fs) (z:=fz) (x:=⟨s,p,z⟩) hB (by omega) gl sb1.1 sb1.2;obtain ⟨sk,sax,say,sfx,sfy,su,sg,sd,so⟩:=st;simp only at hk S;have H:=hid H;have en:=hid en;have ks:=hid ks
    have C:=fun (W:World) (Z:Boxes W A n ws) (Y:Boxes W G m gs)=>Hj i t x y A n c G m kk fp fq fs fz b ws gs sk sax say sfx sfy su sg.toNat sd so s p z W Z Y ok.out hn hm (by
     have:=hB.g.1;simp only at this;rw [Int.toNat_of_nonneg this];exact hB) (by omega) sb1.1 sb1.2
    rw [Int.toNat_of_nonneg (show 0≤sg from hB.g.1)] at C;have C:=hid C;clear est hB vq;go_wp2_with fail;refine wp_region_held_drew (S:=fun w'=>CellsAt w' w.heap.size (AV i t x y A n c G m kk fp fq fs fz b)∧(w'.cell? ⟨bb,off+j*3,none⟩=some (.int .i64 s)∧w'.cell? ⟨bb,off+j*3+1,none⟩=some (.int .i64 p)∧w'.cell? ⟨bb,off+j*3+2,none⟩=some (.bool z))) (by kernel_rfl) ⟨L.drew,A7 Z.drew⟩ (fun hHeld=>?_);replace L:=L.drew;replace D:=D.drew;replace S:=S.drew;replace Z:=Z.drew;replace H:=hid (AA H.out)
    refine wpAnyH_take (i:=0) (oi:=_) (v:=.agg (AV i t x y A n c G m kk fp fq fs fz b).toArray) rfl (by kernel_rfl) (by kernel_rfl) (by kernel_rfl) (fun _ _ _ h=>h) (yieldsIf_load_mid (by rfl) 29 (.tmp 3) rfl w.heap.size 0 rfl (AV i t x y A n c G m kk fp fq fs fz b) _ (fun W hS=>hS.1.range) Tryd.underlying29 rfl Ag) hHeld ?_
    try simp only [Act.put,sx]
    refine tl 2 ?_ ?_ hHeld ?_;rotate_left
    · intro w hSw
      try dsimp only at hSw
      go_simp
      all_goals with_reducible rfl
    try simp only [Act.put,sx]
    refine tl 3 ?_ ?_ hHeld ?_;rotate_left
    · intro w hSw
      try dsimp only at hSw
      go_simp
      all_goals with_reducible rfl
    try simp only [Act.put,sx]
    refine tl 4 ?_ ?_ hHeld ?_;rotate_left
    · intro w hSw
      try dsimp only at hSw
      go_simp
      all_goals with_reducible rfl
    try simp only [Act.put,sx]
    refine tl 5 ?_ ?_ hHeld ?_;rotate_left
    · intro w hSw;obtain ⟨_,d0,d1,d2⟩:=hSw;go_simp
      all_goals with_reducible rfl
    try simp only [Act.put,sx]
    refine rd 1 fun K hK=>?_;refine wp_load_mid 34 (.tmp 7) rfl sb 0 rfl (Ax sk sax say sfx sfy su sg sd so) _ S.range Tryd.underlying34 rfl Ad ?_;clear hHeld;refine hK.out _ _ ⟨L,A7 Z⟩ (fun hHeld=>?_);clear hK K
    try simp only [Act.put,sx]
    refine rd 6 fun K hK=>?_;refine As ⟨_,Tryd.func37,by kernel_rfl,by rfl⟩ _ _ rfl #[CR i t x y A n c G m kk fp fq fs fz b,BZ sk sax say sfx sfy su sg sd so,Dx s p z] (by simp only [List.map_toArray,List.map_cons,List.map_nil]; rfl) (C.out _ (I.out.step H.out) (J.out.step H.out)) ?_;rintro e w5 ⟨⟨nk,nx,ny,nf,ng,nu,nv,nd,no,eM,rfl⟩,B⟩;refine ⟨_,rfl,?_⟩;replace L:=L.step B;replace D:=D.step B;replace S:=S.step B;replace Z:=Z.step B;replace H:=hid (Ab H.out B);replace en:=hid (en.out.trans eM);replace ks:=hid (show StB m ⟨nk,nx,ny,nf,ng,nu,nv,nd,no⟩∧nk≤sk+1 from by have:=ks.out; rw [eM] at this; exact this);clear B hHeld eM
    refine hK.out _ _ ⟨L,A7 Z⟩ (fun hHeld=>?_);clear hK K
    try simp only [Act.put,sx]
    refine rd 7 fun K hK=>?_;refine An 34 (.tmp 7) (.tmp 22) rfl sb rfl (Ax nk nx ny nf ng nu nv nd no) rfl _ S (by simp) Ad rfl ?_;intro w6 K N6;have nz:bb≠sb:=by have:=hsb; have hb2:=hb; omega
    replace L:=L.kept K (by omega);replace D:=D.kept K (by omega);replace S:=N6;replace Z:=Z.of (K.block bb Z.lt nz) K.size;replace H:=hid (Ak H.out K (by omega));clear K N6 hHeld;refine hK.out _ _ ⟨L,A7 Z⟩ (fun hHeld=>?_);clear hK K
    try simp only [Act.put,List.getElem_toArray,List.getElem_cons_succ,List.getElem_cons_zero]
    refine wpAnyH_done (by kernel_rfl) ?_ _;have kk2:=ks.out.2;go_wp2
    go_roundw
    case rel=>exact ⟨j+1,⟨nk,nx,ny,nf,ng,nu,nv,nd,no⟩,by omega,by go_num,en.out.symm,ks.out.1,(show nk≤((j+1:Nat):Int) by omega),L,D,S,H.out⟩
    case measure=>simp [intOf]; omega
  · obtain rfl:j=j0:=by omega
    clear hB;obtain ⟨sk,sax,say,sfx,sfy,su,sg,sd,so⟩:=st;simp only at hk S;replace est:=hid est;go_upto_region 6 with fail;refine wp_region_lit ?_;refine Af rfl 34 (.tmp 7) rfl sb rfl (Ax sk sax say sfx sfy su sg sd so) S Tryd.underlying34 rfl Ad ?_;refine Ah rfl 34 (.tmp 6) (.tmp 23) rfl (w.heap.size+1) rfl (Ax sk sax say sfx sfy su sg sd so) rfl _ D (by simp) Ad rfl ?_;intro w5 K N5;go_wp2;exact bodyPost_ret (v:=BZ sk sax say sfx sfy su sg sd so) (Aj rfl (w.heap.size+1) rfl (Ax sk sax say sfx sfy su sg sd so) N5 Tryd.underlying34 rfl Ad) rfl ⟨by rw [← est.out],Ak H K (by omega)⟩
end Go.Proofs.YtkpogcflgghfiaaDoor
