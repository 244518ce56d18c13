import Derived.Test.YtkpogcflgghfiaaDoorZRunA
import Derived.Test.YtkpogcflgghfiaaDoorZSendB
set_option linter.all false
set_option maxRecDepth 100000
set_option maxHeartbeats 8000000
namespace Go.Proofs.YtkpogcflgghfiaaDoor
open Go.RowKit
open M
open Ren
open Go.Conc
abbrev fT:FuncId:=8
abbrev fP:FuncId:=18
theorem Dt:PP.funcs[fT]?=some Tryd.f8:=Tryd.func8
theorem Ii:PP.funcs[fP]?=some Tryd.f18:=Tryd.func18
theorem U4:XR.C t0:=by show AN PP C9 Do t0=true; kernel_rfl
theorem U5:XR.C t1:=by show AN PP C9 Do t1=true; kernel_rfl
theorem U6:XR.C t2:=by show AN PP C9 Do t2=true; kernel_rfl
theorem U7:XR.C t3:=by show AN PP C9 Do t3=true; kernel_rfl
theorem U8:XR.C t6:=by show AN PP C9 Do t6=true; kernel_rfl
theorem U9:XR.C t7:=by show AN PP C9 Do t7=true; kernel_rfl
theorem Va:XR.C t8:=by show AN PP C9 Do t8=true; kernel_rfl
theorem Vb:XR.C p0:=by show AN PP C9 Do p0=true; kernel_rfl
theorem Vd:XR.C p3:=by show AN PP C9 Do p3=true; kernel_rfl
theorem UO:∀ i∈[0,1,2,3],∀ o,(cO t4)[i]?=some o→OpOk XR gR o.op:=Cf (by kernel_rfl)
theorem UZ:∀ i∈[1],∀ o,(cO t5)[i]?=some o→OpOk XR gR o.op:=Cf (by kernel_rfl)
theorem Vf:∀ i∈[1],∀ o,(cO p1)[i]?=some o→OpOk XR gR o.op:=Cf (by kernel_rfl)
theorem Vg:∀ i∈[0,1,2],∀ o,(cO p2)[i]?=some o→OpOk XR gR o.op:=Cf (by kernel_rfl)
theorem Vi {l:List Nat} (hl:l∈[[0,1,2,3],[0,2,1,3],[1,0,2,3],[1,2,0,3],[1,2,3,0],[2,0,1,3],[2,1,0,3],[2,1,3,0]]):∀ i∈l,∀ o,(cO t4)[i]?=some o→OpOk XR gR o.op:=fun i hi=>UO i (by
 simp only [List.mem_cons,List.not_mem_nil,or_false] at hl;rcases hl with rfl | rfl | rfl | rfl | rfl | rfl | rfl | rfl<;>simp only [List.mem_cons,List.not_mem_nil,or_false] at hi ⊢<;>omega)
theorem SP:PP.follows .mixedOrders=true:=by kernel_rfl
theorem NJ:∃ dr,PP.underlying 50=some (.chan dr 34):=by
 have h:(match PP.underlying 50 with | some (.chan _ e)=>Nat.beq e 34 | _=>false)=true:=by kernel_rfl
 split at h
 · rename_i dr e he;exact ⟨dr,by rw [he,Nat.eq_of_beq_eq_true h]⟩
 · cases h
theorem NK:∃ dr,PP.underlying 68=some (.chan dr 34):=by
 have h:(match PP.underlying 68 with | some (.chan _ e)=>Nat.beq e 34 | _=>false)=true:=by kernel_rfl
 split at h
 · rename_i dr e he;exact ⟨dr,by rw [he,Nat.eq_of_beq_eq_true h]⟩
 · cases h
theorem Ij:∃ inf,PP.info? 34=some inf∧inf.zero=some (sva z0)∧(inf.bytes:Int)*5≤281474976710544:=by
 have h1:(PP.info? 34).map (·.zero)=some (some (sva z0)):=by kernel_rfl
 have h2:(match PP.info? 34 with | some i=>Nat.ble i.bytes 1000 | none=>false)=true:=by kernel_rfl
 cases h:PP.info? 34 with
 | none=>rw [h] at h1; cases h1
 | some inf =>
  rw [h] at h1 h2;have h3:=Nat.le_of_ble_eq_true h2;exact ⟨inf,rfl,by simpa using h1,by omega⟩
theorem NL {X:Ctx} {R:Rho} {a:Array Value} (h:∀ x∈a,I0 X R x):I0 X R (.agg a):=fun r v' ok hr k=>by
 cases k with
 | @agg _ b ha ka =>
  congr 1;apply Array.ext ha.symm;intro i h1 h2;exact h a[i] (Array.getElem_mem h2) r b[i] ok hr (ka i _ _ (by simp [h2]) (by simp [h1]))
theorem Du {W:World} {A:Option Addr} {n c:Nat} (h:Cel W A):I0 XR (vr W W.heap.size) (.slice A n c):=fun r v' ok hr k=>by
 obtain ⟨A',rfl,⟨rfl,rfl⟩ | ⟨a,a',rfl,rfl,h1,h2,h3⟩⟩:=Ed k
 · rfl
 · have e:a'.block=a.block:=ok.fn h1 (hr _ _ ⟨rfl,h.lt rfl,(h a rfl).2⟩);obtain ⟨b',o',s'⟩:=a';obtain ⟨b,o,s⟩:=a;dsimp only at e h2 h3;subst e h2 h3;rfl
theorem Lv.At.rigid {L:Lv} {W:World} (h:L.At W):I0 XR (vr W W.heap.size) L.val:=NL fun x hx=>by
 simp only [List.mem_toArray,List.mem_cons,List.not_mem_nil,or_false] at hx;rcases hx with rfl | rfl | rfl | rfl | rfl | rfl | rfl | rfl | rfl | rfl | rfl<;>first | exact (Flat.int _ _).rigid | exact Du h.ca | exact Du h.cg
def Lv.stl (L:Lv) (s:St):List In→List St
 | []=>[]
 | q::xs=>L.nx s q::L.stl (L.nx s q) xs
theorem Lv.tail_map (L:Lv):∀ (xs:List In) (s:St),L.tail s xs=(L.stl s xs).map sva
 | [],s=>rfl
 | q::xs,s=>by simp only [Lv.tail,Lv.stl,List.map_cons,L.tail_map xs]
theorem Lv.last (L:Lv):∀ (xs:List In) (s:St),(L.stl s xs).foldl (fun _ x=>x) s=xs.foldl L.nx s
 | [],s=>rfl
 | q::xs,s=>by simp only [Lv.stl,List.foldl_cons,L.last xs]
section
variable {N:Nat} {R:Rho} {B:Nat→Option Obj} {K:Nat→Prop} {O:Nat→Prop} {T:Array Value} {w:World} {W:World} {L:Lv} {A:Option Addr} {n cap k b c d:Nat} {xs:List In} {cs:List Frame} {h0:Array Obj} {lv:List Value} {is:Value} {k0:Int} {Q:Array Value→World→Prop}
noncomputable abbrev Uz:List Item:=[.inLoop tL,.inBlock 0,.code (.seq t8 .ret)]
noncomputable abbrev gT (T:Array Value) (k:List Item) (cs:List Frame):Goroutine:=Bp (F fT T k) cs
def SQ (N:Nat) (R:Rho) (K:Nat→Prop) (B:Nat→Option Obj) (h0:Array Obj) (lv:List Value) (is:Value) (k0:Int) (k b c d:Nat) (s:St) (cs:List Frame):(Nat→Prop)→Goroutine→World→Prop:=fun O a w =>
 ∃ T,a=gT T (.inRegion (cO t5) [1]::.code (.seq (.cond (.tmp 31) .skip (.exit 0)) (.block 1 (.seq t6 t7)))::Uz) cs∧Sit XR gR N R K B (fun T u=>Rl h0 lv is k0 (.chan (some k)) b c d s T u∧T.getD 30 undef=.tuple #[sva z0,.bool false]) T O w
theorem Ce {T:Array Value} {i:Nat} {v:Value} (h:i<T.size):(Ch T (some i) v).getD i undef=v:=by simp [Ch,h]
theorem Aw {T:Array Value} {i j:Nat} {v:Value} (h:i≠j):(Ch T (some i) v).getD j undef=T.getD j undef:=by
 simp only [Ch,Array.getD_eq_getD_getElem?];rw [Array.getElem?_setIfInBounds_ne h]
theorem size_put {T:Array Value} {i:Option Nat} {v:Value}:(Ch T i v).size=T.size:=by unfold Ch; split<;>simp
theorem Rl.put {s:St} {ch v:Value} {u:World} (h:Rl h0 lv is k0 ch b c d s T u):Rl h0 lv is k0 ch b c d s (Ch T (some 30) v) u∧(Ch T (some 30) v).getD 30 undef=v :=
 ⟨⟨⟨⟨size_put.trans h.size,(Aw (by omega)).trans h.t1,(Aw (by omega)).trans h.t2,(Aw (by omega)).trans h.t3,(Aw (by omega)).trans h.t6,h.L,h.R,h.hp,h.lb,h.lc,h.ne⟩,(Aw (by omega)).trans h.t8,h.S,h.ld,h.nb,h.nc⟩,(Aw (by omega)).trans h.t29⟩,Ce (by rw [h.size]; omega)⟩
theorem Ez (s:St) (b:Bool):Flat (.tuple #[sva s,.bool b]):=.tuple (by simp) fun x hx=>by
 simp only [List.mem_toArray,List.mem_cons,List.not_mem_nil,or_false] at hx;rcases hx with rfl | rfl
 · exact Ie s
 · exact .bool b
theorem Uf {T:Array Value} {i j:Nat}:#[Operand.tmp i,Operand.tmp j].map (⟨T,[]⟩:Act).eval=#[T.getD i undef,T.getD j undef]:=by
 rw [List.map_toArray]; rfl
theorem Ug {T:Array Value} {i j k:Nat}:#[Operand.tmp i,Operand.tmp j,Operand.tmp k].map (⟨T,[]⟩:Act).eval=#[T.getD i undef,T.getD j undef,T.getD k undef]:=by
 rw [List.map_toArray]; rfl
theorem NM:∀ (ss:List St) (s:St) {T:Array Value} {O:Nat→Prop} {w:World},Sit XR gR N R K B (Rl h0 lv is k0 (.chan (some k)) b c d s) T O w →
 Co PP true (Lt N) (CStop PP k (Lt N) (SQ N R K B h0 lv is k0 k b c d (ss.foldl (fun _ x=>x) s) cs) (ss.map sva)) O (gT T (.code tL::Uz) cs) w:=by
 obtain ⟨dr,hch⟩:=NJ;obtain ⟨inf,hi,hz,_⟩:=Ij;obtain ⟨o,ho,hg,hd,hop⟩:∃ o,(cO t5)[0]?=some o∧o.guard=none∧o.dst=some 30∧o.op=.recv 50 (.tmp 29) true:=⟨_,rfl,rfl,rfl,rfl⟩;intro ss
 induction ss with
 | nil =>
  intro s T O w h;refine h.ctl rfl (fun w1=>by rw [RB]; exact AQ) ?_;refine h.ctl rfl (fun w1=>by rw [show t5=.region 5 (cO t5) false from rfl]; exact BC) ?_;refine .stop fun w1 hk=>?_;have h1:=h.keep hk;have hc:=h1.slot (i:=29) (.chan (some k)) fun T u x=>x.t29;refine ⟨rfl,sva z0,PK (i:=0) (l:=[1]) ho hg hop hc hch hi hz,fun w2 hk2=>?_⟩;have h2:=h1.keep hk2;refine ⟨Ch T (some 30) (.tuple #[sva z0,.bool false]),?_,?_⟩
  · rw [show List.range (cO t5).size=[0,1] from rfl,FO (i:=0) _ ho,hd]; rfl
  · exact h2.put (Ez z0 false) (some 30) fun T u x=>x.put
 | cons s' ss ih =>
  intro s T O w h;refine h.ctl rfl (fun w1=>by rw [RB]; exact AQ) ?_;refine h.ctl rfl (fun w1=>by rw [show t5=.region 5 (cO t5) false from rfl]; exact BC) ?_;refine .stop fun w1 hk=>?_;have h1:=h.keep hk;have hc:=h1.slot (i:=29) (.chan (some k)) fun T u x=>x.t29;refine ⟨rfl,⟨sva z0,PK (i:=0) (l:=[1]) ho hg hop hc hch hi hz⟩,?_⟩;have h2:=h1.put (v:=.tuple #[sva s',.bool true]) (Q1:=fun T u=>Rl h0 lv is k0 (.chan (some k)) b c d s T u∧T.getD 30 undef=.tuple #[sva s',.bool true]) (Ez s' true) (some 30) fun T u x=>x.put;rw [show List.range (cO t5).size=[0]++[1] from rfl,List.singleton_append,FO (i:=0) _ ho,hd]
  show Co PP true (Lt N) _ O (Bp (F fT (Ch T (some 30) (.tuple #[sva s',.bool true])) (.inRegion (cO t5) ([1]++[])::.code (.seq (.cond (.tmp 31) .skip (.exit 0)) (.block 1 (.seq t6 t7)))::Uz)) cs) w1
  refine h2.ops (l1:=[1]) (l2:=[]) Bc Bd AH (fun T u u' x e=>⟨Rl.hpo T u u' x.1 e,x.2⟩) nn (AB Dt) UZ (Q1:=fun T u=>(Rl h0 lv is k0 (.chan (some k)) b c d s T u∧T.getD 30 undef=.tuple #[sva s',.bool true])∧T.getD 31 undef=.bool true) (fun T u x=>v5 x.1 x.2) fun T3 O3 y3 h3=>?_;have h31:=h3.slot (i:=31) (.bool true) fun T u x=>x.2;refine h3.ctl rfl (fun w1=>Cj) ?_;refine h3.ctl rfl (fun w1=>AQ) ?_;refine h3.ctl rfl (fun w1=>Gs (t:=true) (by exact h31)) ?_;refine h3.ctl rfl (fun w1=>LK) ?_;refine h3.ctl rfl (fun w1=>G7) ?_;refine h3.ctl rfl (fun w1=>AQ) ?_
  refine h3.wp Bc Bd AH (fun T u u' x e=>⟨⟨Rl.hpo T u u' x.1.1 e,x.1.2⟩,x.2⟩) nn (AB Dt) U8 (Q1:=fun T u=>∃ e,Re h0 lv is k0 (.chan (some k)) b c d e s s' T u) (fun T u x=>v6 x.1.1 x.1.2) fun T4 O4 y4 h4=>?_;obtain ⟨e,h4⟩:=h4.split;refine h4.wp Bc Bd AH Re.hpo nn (AB Dt) U9 (fun T u x=>v7 x) fun T5 O5 y5 h5=>?_;refine h5.ctl rfl (fun w1=>IZ) ?_;refine h5.ctl rfl (fun w1=>KM) ?_;exact ih s' h5
theorem Ik (al:Ren.Alike W w) (h:Sit XR gR W.heap.size R K B Q T O w) (hb:∀ j,j<W.heap.size→B j=W.heap[j]?):Below W.heap.size W w :=
 ⟨al.os,al.tape,al.out,h.top,fun j hj=>(h.base j (.inr hj)).trans (hb j hj)⟩
theorem ER (hQ:Quarter W) (hw:∀ j,j<W.heap.size→w.heap[j]?=W.heap[j]?):∀ n,gR n→n<W.heap.size∧∃ c t f,w.heap[n]?=some (.cells c t f):=fun n hn=>by
 have hn:Nat.beq n 0=true:=hn;have:=Nat.eq_of_beq_eq_true hn;subst this;refine ⟨D8 hQ.q0,?_⟩;rw [hw 0 (D8 hQ.q0)];exact FP hQ.q0
theorem MU (hw:∀ j,j<W.heap.size→w.heap[j]?=W.heap[j]?):vr w W.heap.size=vr W W.heap.size:=by
 funext i j;apply propext;constructor
 · rintro ⟨h1,h2,h3⟩; exact ⟨h1,h2,by rw [← hw i h2]; exact h3⟩
 · rintro ⟨h1,h2,h3⟩; exact ⟨h1,h2,by rw [hw i h2]; exact h3⟩
variable {G:Goroutine→World→Prop} {c0:Frame}
theorem Rm {h0:Array Obj} {s:St} {a:Goroutine} (hF:SQ W.heap.size R K B h0 lv is k0 k b c d s (c0::cs) O a w) (hB:∀ j,j<W.heap.size→B j=W.heap[j]?) (lo:Below W.heap.size W w)
 (kk:∀ w',Below W.heap.size W w'→Ren.Way PP G (Bp (c0.finish (.tuple #[sva s,.bool true])) cs) w'):Ren.Way PP G a w:=by
 obtain ⟨T,rfl,h⟩:=hF;refine Ren.Way.of_co (W:=W) (RO:=Lt W.heap.size) (O:=O) ?_ ⟨lo.os,lo.tape,lo.output⟩ (fun j hj=>Nat.lt_of_lt_of_le hj lo.size)
 show Co PP true (Lt W.heap.size) _ O (Bp (F fT T (.inRegion (cO t5) ([1]++[])::.code (.seq (.cond (.tmp 31) .skip (.exit 0)) (.block 1 (.seq t6 t7)))::Uz)) (c0::cs)) w
 refine h.ops (l1:=[1]) (l2:=[]) Bc Bd AH (fun T u u' x e=>⟨Rl.hpo T u u' x.1 e,x.2⟩) nn (AB Dt) UZ (Q1:=fun T u=>(Rl h0 lv is k0 (.chan (some k)) b c d s T u∧T.getD 30 undef=.tuple #[sva z0,.bool false])∧T.getD 31 undef=.bool false) (fun T u x=>v5 x.1 x.2) fun T3 O3 y3 h3=>?_;have h31:=h3.slot (i:=31) (.bool false) fun T u x=>x.2;refine h3.ctl rfl (fun w1=>Cj) ?_;refine h3.ctl rfl (fun w1=>AQ) ?_;refine h3.ctl rfl (fun w1=>Gs (t:=false) (by exact h31)) ?_;refine h3.ctl rfl (fun w1=>PD (k':=[.code (.seq t8 .ret)]) rfl) ?_;refine h3.ctl rfl (fun w1=>AQ) ?_
 refine h3.wp Bc Bd AH (fun T u u' x e=>⟨⟨Rl.hpo T u u' x.1.1 e,x.1.2⟩,x.2⟩) nn (AB Dt) Va (Q1:=Rf c s) (fun T u x=>v8 x.1.1.toRb) fun T4 O4 y4 h4=>?_;refine h4.ctl rfl (fun w1=>PE) ?_;refine h4.back (v:=.tuple #[sva s,.bool true]) Rf.hpo (Ez s true) Dt (fun T u x=>PM x.t6 x.t7 x.R) fun O5 y5 h5=>?_;exact .stop fun w1 hk al=>kk w1 (Ik al (h5.keep hk) hB)
theorem Rn (hQ:Quarter W) (hL:L.At W) (hY:Inputs W A n xs) (hA:Cel W A) (hn:n≤281474976710656) (hc:n≤cap) (hG:XR.G≤W.heap.size)
 (kk:∀ w',Below W.heap.size W w'→Ren.Way PP G (Bp (c0.finish (L.ans xs n k0)) cs) w') :
 Ren.Way PP G (Bp (Frame.enter PP fT #[L.val,.slice A n cap,.int .i64 k0] .normal) (c0::cs)) W:=by
 refine Ren.Way.of_co (W:=W) (RO:=Lt W.heap.size) (O:=fun _=>False) ?_ (Ren.Alike.refl W) (fun j hj=>hj);have ha:ArrR XR.L (vr W W.heap.size) (#[L.val,.slice A n cap,.int .i64 k0]++Array.replicate 32 undef) (#[L.val,.slice A n cap,.int .i64 k0]++Array.replicate 32 undef) :=
  (((ArrR.one hL.self).push (BQ hA)).push (.int _ _)).append (.replicate _ (.tuple rfl fun i x y h=>by simp at h))
 have h:Sit XR gR W.heap.size (vr W W.heap.size) (fun _=>False) (fun j=>W.heap[j]?) (fun T u=>T=#[L.val,.slice A n cap,.int .i64 k0]++Array.replicate 32 undef∧Hp (vh W W.heap.size) u) (#[L.val,.slice A n cap,.int .i64 k0]++Array.replicate 32 undef) (fun _=>False) W :=
  Sit.start (Nat.le_refl _) hG (ER hQ fun _ _=>rfl) (fun j h=>h.elim) ha ha (fun _ _=>rfl) (fun u hu=>⟨rfl,Hp.refl hu⟩)
 rw [Ft Dt (c:=tB) rfl,Ud];refine h.ctl rfl (fun w1=>AQ) ?_;refine h.wp Bc Bd AH (fun T u u' x e=>⟨x.1,x.2.same e⟩) nn (AB Dt) U4 (Q1:=fun T u=>∃ b c,Ra (vh W W.heap.size) L.cs (.slice A n cap) k0 b c T u) (fun T u x=>?_) fun T1 O1 y1 h1=>?_
 · rw [x.1,SU];exact v0 (J:=fun z=>match z with | 0=>L.val | 1=>.slice A n cap | 2=>.int .i64 k0 | _=>undef) x.2 rfl rfl rfl
 obtain ⟨b,h1⟩:=h1.split;obtain ⟨c,h1⟩:=h1.split;refine h1.ctl rfl (fun w1=>AQ) ?_;refine h1.ctl rfl (fun w1=>AQ) ?_;refine h1.wp Bc Bd AH Ra.hpo nn (AB Dt) U5 (Q1:=fun T u=>Ra (vh W W.heap.size) L.cs (.slice A n cap) k0 b c T u∧T.getD 23 undef=.bool (!BV L xs n k0)) (fun T u x=>v1 (fun u hu=>NH L A n cap xs u (hL.I.veil hu) (hL.J.veil hu) hL.n hL.m (hY.veil hu) hn) x) fun T2 O2 y2 h2=>?_;cases hok:BV L xs n k0
 · have h23:=h2.slot (i:=23) (.bool true) fun T u x=>by rw [x.2,hok]; rfl
   refine h2.ctl rfl (fun w1=>Gs (t:=true) (by exact h23)) ?_;refine h2.ctl rfl (fun w1=>AQ) ?_;refine h2.wp Bc Bd AH (fun T u u' x e=>⟨Ra.hpo T u u' x.1 e,x.2⟩) nn (AB Dt) U6 (Q1:=Rz c) (fun T u x=>v2 x.1) fun T3 O3 y3 h3=>?_;refine h3.ctl rfl (fun w1=>PE) ?_;refine h3.back (v:=.tuple #[sva z0,.bool false]) Rz.hpo (Ez z0 false) Dt (fun T u x=>PM x.t6 x.t7 x.R) fun O5 y5 h5=>?_;refine .stop fun w1 hk al=>?_;have:=kk w1 (Ik al (h5.keep hk) fun _ _=>rfl);rw [Lv.ans,hok] at this;exact this
 have h23:=h2.slot (i:=23) (.bool false) fun T u x=>by rw [x.2,hok]; rfl
 have hk0:0≤k0∧k0≤n:=by
  simp only [BV,Bool.and_eq_true,decide_eq_true_eq] at hok;exact ⟨hok.1,hok.2.1⟩
 refine h2.ctl rfl (fun w1=>Gs (t:=false) (by exact h23)) ?_;refine h2.ctl rfl (fun w1=>LK) ?_;refine h2.ctl rfl (fun w1=>AQ) ?_;refine h2.wp Bc Bd AH (fun T u u' x e=>⟨Ra.hpo T u u' x.1 e,x.2⟩) nn (AB Dt) U7 (Q1:=fun T u=>∃ d,Rb (vh W W.heap.size) L.cs (.slice A n cap) k0 b c d z0 T u) (fun T u x=>v3 x.1) fun T3 O3 y3 h3=>?_;obtain ⟨d,h3⟩:=h3.split;refine h3.ctl rfl (fun w1=>AQ) ?_;refine h3.ctl rfl (fun w1=>AQ) ?_;rw [show t4=.region 4 (cO t4) true from rfl];refine h3.draw SP fun t=>?_
 obtain ⟨l1,hl,hl1⟩:∃ l1,Region.linearise .any (cO t4) t=l1++[4]∧l1∈[[0,1,2,3],[0,2,1,3],[1,0,2,3],[1,2,0,3],[1,2,3,0],[2,0,1,3],[2,1,0,3],[2,1,3,0]]:=by
  have:=LN .any (cO t4) t;rw [Rk] at this;simp only [List.mem_cons,List.not_mem_nil,or_false] at this;rcases this with e | e | e | e | e | e | e | e
  · exact ⟨[0,1,2,3],e,by simp⟩
  · exact ⟨[0,2,1,3],e,by simp⟩
  · exact ⟨[1,0,2,3],e,by simp⟩
  · exact ⟨[1,2,0,3],e,by simp⟩
  · exact ⟨[1,2,3,0],e,by simp⟩
  · exact ⟨[2,0,1,3],e,by simp⟩
  · exact ⟨[2,1,0,3],e,by simp⟩
  · exact ⟨[2,1,3,0],e,by simp⟩
 rw [hl];refine h3.ops (l2:=[4]) Bc Bd AH Rb.hpo nn (AB Dt) (Vi hl1) (Q1:=Rc (vh W W.heap.size) L A n cap k0 b c d) (fun T u x=>v4 hc hn hk0.1 hk0.2 hl1 x) fun T4 O4 y4 h4=>?_;have e25:=h4.slotR (i:=25) hL.rigid fun T u x=>x.2.1;have e28:=h4.slotR (i:=28) (Du hA) fun T u x=>x.2.2;obtain ⟨o,ho,hg,hd,ats,hop⟩:∃ o,(cO t4)[4]?=some o∧o.guard=none∧o.dst=some 29∧∃ ats,o.op=.call { callee:=.value (.func fP),args:=#[.tmp 25,.tmp 28],argTypes:=ats }:=⟨_,rfl,rfl,rfl,_,rfl⟩;refine h4.ctl rfl (fun w1=>PF (fn:=Tryd.f18) (c:=pB) ho hg hop Ii rfl rfl) ?_;rw [Uf,e25,e28,Ft Ii (c:=pB) rfl,Ue]
 have w4:∀ j,j<W.heap.size→y4.heap[j]?=W.heap[j]?:=fun j hj=>h4.base j (.inr hj);have ha2:ArrR XR.L (vr y4 W.heap.size) (#[L.val,.slice A k0.toNat cap]++Array.replicate 9 undef) (#[L.val,.slice A k0.toNat cap]++Array.replicate 9 undef):=by
  rw [MU w4];exact ((ArrR.one hL.self).push (BQ hA)).append (.replicate _ (.tuple rfl fun i x y h=>by simp at h))
 have p:Sit XR gR W.heap.size (vr y4 W.heap.size) O4 (fun j=>y4.heap[j]?) (fun T u=>T=#[L.val,.slice A k0.toNat cap]++Array.replicate 9 undef∧Hp (vh W W.heap.size) u) (#[L.val,.slice A k0.toNat cap]++Array.replicate 9 undef) O4 y4 :=
  Sit.start h4.top hG (ER hQ w4) (fun j hj=>⟨h4.ge j hj,h4.lt j hj⟩) ha2 ha2 (fun _ _=>rfl) (fun u hu=>⟨rfl,Hp.refl (hu.trans (MQ (Nat.le_refl _) h4.top w4))⟩)
 refine p.ctl rfl (fun w1=>AQ) ?_;refine p.wp Bc Bd AH (fun T u u' x e=>⟨x.1,x.2.same e⟩) nn (AB Ii) Vb (Q1:=fun T u=>∃ b,Pa (vh W W.heap.size) L.cs (.slice A k0.toNat cap) b T u) (fun T u x=>?_) fun T5 O5 y5 p5=>?_
 · rw [x.1,SV];exact u0 (J:=fun z=>match z with | 0=>L.val | 1=>.slice A k0.toNat cap | _=>undef) x.2 rfl rfl
 obtain ⟨b',p5⟩:=p5.split;refine p5.ctl rfl (fun w1=>AQ) ?_;refine p5.ctl rfl (fun w1=>by rw [show p1=.region 1 (cO p1) false from rfl]; exact BC) ?_;obtain ⟨dr,tch⟩:=NK;obtain ⟨inf,hi,_,hby⟩:=Ij;obtain ⟨oc,hoc,hgc,hdc,hopc⟩:∃ o,(cO p1)[0]?=some o∧o.guard=none∧o.dst=some 6∧o.op=.makeChan 68 (.const (.int .i64 5)):=⟨_,rfl,rfl,rfl,rfl⟩;refine .stop fun w1 hk al=>?_;have q:=p5.keep hk;refine Ren.Way.step rfl fun dd=>?_
 have hmk:=LL (P:=PP) (mn:=true) (w:=w1.at dd) (f:=fP) (T:=T5) (k:=[.code (.seq p2 (.seq p3 .ret))]) (cs:=F fT T4 [.inRegion (cO t4) [4],.code (.block 0 (.loop tL)),.code (.seq t8 .ret)]::c0::cs) (l:=[1]) nn (n:=5) hoc hgc hopc tch hi (by omega) hby;refine ⟨_,_,#[],hmk,by simp,by simp; exact Nat.le_succ w1.heap.size,?_⟩;rw [hdc];generalize hk1:(w1.at dd).heap.size=ch;have hch1:w1.heap.size=ch:=hk1;generalize hw2:(w1.at dd).alloc (.chan 5 #[] false 0 0 false)=w2;have s2:w2.heap.size=ch+1:=by rw [← hw2,← hk1]; simp
 have b2:∀ j,j<ch→w2.heap[j]?=w1.heap[j]?:=fun j hj=>by
  rw [← hw2]
  show ((w1.at dd).heap.push _)[j]?=_
  rw [Array.getElem?_push,if_neg (by rw [hk1]; omega)];rfl
 have c2:w2.heap[ch]?=some (.chan 5 #[] false 0 0 false):=by
  rw [← hw2,← hk1]
  show ((w1.at dd).heap.push _)[(w1.at dd).heap.size]?=_
  simp
 have al2:Ren.Alike W w2:=by
  rw [← hw2];exact ⟨al.os,al.tape,al.out⟩
 have nch:W.heap.size≤ch:=hch1▸q.top;have och:∀ j,O5 j→j<ch:=fun j hj=>hch1▸q.lt j hj;have r:=q.resume (w2:=w2) (O2:=fun j=>O5 j∨j=ch) (by have:=q.top; show XR.G≤_; omega) (by have:=q.top; omega) (fun j hj=>b2 j (hj.elim (och j) fun h=>Nat.lt_of_lt_of_le h nch)) (fun j hj=>.inl hj)
  (fun j hj=>hj.elim (fun h=>⟨q.ge j h,by have:=och j h; omega⟩) fun h=>⟨by omega,by omega⟩) (K2:=fun j=>O4 j∨j=ch) (fun j hj=>hj.imp id fun h=>⟨.inr h,fun h'=>by have:=och j h'; omega⟩)
 have r:=r.put (v:=.chan (some ch)) (Q1:=fun T u=>Pa (vh W W.heap.size) L.cs (.slice A k0.toNat cap) b' T u∧T.getD 6 undef=.chan (some ch)) (.chan _) (some 6) fun T u x=>⟨⟨size_put.trans x.size,(Aw (by omega)).trans x.t1,(Aw (by omega)).trans x.t2,x.L,x.hp,x.lb⟩,Ce (by rw [x.size]; omega)⟩;have hw2j:∀ j,O4 j∨j<W.heap.size→w2.heap[j]?=y4.heap[j]?:=fun j hj=>(b2 j (hj.elim (fun h=>och j (p5.has j h)) fun h=>Nat.lt_of_lt_of_le h nch)).trans (q.base j hj);refine Ren.Way.of_co (W:=W) (RO:=Lt W.heap.size) ?_ al2 (fun j hj=>by have hj:j<W.heap.size:=hj; omega) (O:=fun j=>O5 j∨j=ch)
 show Co PP true (Lt W.heap.size) _ _ (Bp (F fP _ (.inRegion (cO p1) ([1]++[])::_)) _) w2
 refine r.ops (l1:=[1]) (l2:=[]) Bc Bd AH (fun T u u' x e=>⟨Pa.hpo T u u' x.1 e,x.2⟩) nn (AB Ii) Vf (Q1:=fun T u=>Pa (vh W W.heap.size) L.cs (.slice A k0.toNat cap) b' T u∧T.getD 5 undef=.chan (some ch)) (fun T u x=>u1 x.1 x.2) fun T6 O6 y6 p6=>?_;refine p6.ctl rfl (fun w1=>Cj) ?_;refine p6.ctl rfl (fun w1=>AQ) ?_;refine p6.ctl rfl (fun w1=>by rw [show p2=.region 2 (cO p2) false from rfl]; exact BC) ?_
 refine p6.ops (l1:=[0,1,2]) (l2:=[3]) Bc Bd AH (fun T u u' x e=>⟨Pa.hpo T u u' x.1 e,x.2⟩) nn (AB Ii) Vg (Q1:=fun T u=>(Pa (vh W W.heap.size) L.cs (.slice A k0.toNat cap) b' T u∧T.getD 5 undef=.chan (some ch))∧T.getD 7 undef=L.val∧T.getD 8 undef=.slice A k0.toNat cap∧T.getD 9 undef=.chan (some ch)) (fun T u x=>u2 x.1 x.2) fun T7 O7 y7 p7=>?_;have w4r:vr y4 W.heap.size=vr W W.heap.size:=MU w4;rw [w4r] at p7;have e7:=p7.slotR (i:=7) hL.rigid fun T u x=>x.2.1;have e8:=p7.slotR (i:=8) (Du hA) fun T u x=>x.2.2.1;have e9:=p7.slot (i:=9) (.chan (some ch)) fun T u x=>x.2.2.2
 obtain ⟨og,hog,hgg,hdg,atg,hopg⟩:∃ o,(cO p2)[3]?=some o∧o.guard=none∧o.dst=none∧∃ ats,o.op=.go { callee:=.value (.func fS),args:=#[.tmp 7,.tmp 8,.tmp 9],argTypes:=ats }:=⟨_,rfl,rfl,rfl,_,rfl⟩;refine .stop fun w8 hk8 al8=>?_;have g:=p7.keep hk8;have lo8:Below W.heap.size W w8:=⟨al8.os,al8.tape,al8.out,g.top,fun j hj=>(g.base j (.inr hj)).trans ((hw2j j (.inr hj)).trans (w4 j hj))⟩;have gch:w8.heap[ch]?=some (.chan 5 #[] false 0 0 false):=(g.base ch (.inl (.inr rfl))).trans c2;have gd:=g.drop (k:=ch) (.inr rfl);have o4:∀ j,O4 j→j≠ch:=fun j hj e=>by
  have:=och j (p5.has j hj);omega
 have hstl:L.tail L.s0 (xs.take k0.toNat)=(L.stl L.s0 (xs.take k0.toNat)).map sva:=L.tail_map _ _;refine Ren.Way.fork (k:=ch) (cap:=5) (N:=W.heap.size) (W:=W) (RO:=Lt W.heap.size) (OM:=fun j=>O7 j∧j≠ch) (OP:=fun _=>False) (s:=0) (r:=0) (by omega) rfl
  (vs:=(L.s0::L.stl L.s0 (xs.take k0.toNat)).map sva)
  (g':=Bp (F fP T7 [.inRegion (cO p2) [],.code (.seq p3 .ret)]) (F fT T4 [.inRegion (cO t4) [4],.code (.block 0 (.loop tL)),.code (.seq t8 .ret)]::c0::cs))
  (child:=born PP { target:=.fn (.func fS) #[],args:=#[L.val,.slice A k0.toNat cap,.chan (some ch)] })
  (Fin:=SQ W.heap.size (vr W W.heap.size) (fun _=>False) (fun j=>W.heap[j]?) (vh W W.heap.size) L.cs (.slice A n cap) k0 ch b c d (L.run (xs.take k0.toNat)) (c0::cs)) (fun d=>?_) gch ?_ ?_ ?_ ?_ ?_ lo8 nch (fun j hj=>g.ge j hj.1) (fun _ h=>h.elim) g.top ?_
 · have:=UN (P:=PP) (mn:=true) (w:=w8.at d) (f:=fP) (T:=T7) (k:=[.code (.seq p3 .ret)]) (cs:=F fT T4 [.inRegion (cO t4) [4],.code (.block 0 (.loop tL)),.code (.seq t8 .ret)]::c0::cs) (l:=[]) nn hog hgg hopg;rw [hdg,Ug,e7,e8,e9] at this;exact this
 ·
  refine gd.ctl rfl (fun w1=>Cj) ?_;refine gd.ctl rfl (fun w1=>AQ) ?_;refine gd.wp Bc Bd AH (fun T u u' x e=>⟨⟨Pa.hpo T u u' x.1.1 e,x.1.2⟩,x.2⟩) nn (AB Ii) Vd (Q1:=fun T u=>T.getD 4 undef=.chan (some ch)) (fun T u x=>u3 x.1.1 x.1.2) fun T9 O9 y9 p9=>?_;refine p9.ctl rfl (fun w1=>PE) ?_;refine p9.back (v:=.chan (some ch)) (fun T u u' x e=>x) (.chan _) Ii (fun T u x=>SO x) fun Oa ya pa=>?_;rw [KN (i:=4) (l:=[]) _ ho,hd]
  have ra:=h4.resume (w2:=ya) (O2:=Oa) (Nat.le_trans hG pa.top) pa.top (fun j hj=>?_) (fun j hj=>pa.has j ⟨.inl hj,o4 j hj⟩) (fun j hj=>⟨pa.ge j hj,pa.lt j hj⟩) (K2:=fun _=>False) (fun j hj=>hj.elim);rotate_left
  · rw [pa.base j (hj.imp (fun h=>⟨.inl h,o4 j h⟩) id)];exact hw2j j hj
  have ra:=ra.rebase (B2:=fun j=>W.heap[j]?) fun j hj=>(pa.base j (.inr (hj.resolve_left id))).trans ((hw2j j (.inr (hj.resolve_left id))).trans (w4 j (hj.resolve_left id)));have rb:=ra.put (v:=.chan (some ch)) (Q1:=Rl (vh W W.heap.size) L.cs (.slice A n cap) k0 (.chan (some ch)) b c d z0) (.chan _) (some 29) fun T u x=>⟨⟨⟨size_put.trans x.1.size,(Aw (by omega)).trans x.1.t1,(Aw (by omega)).trans x.1.t2,(Aw (by omega)).trans x.1.t3,(Aw (by omega)).trans x.1.t6,x.1.L,x.1.R,x.1.hp,x.1.lb,x.1.lc,x.1.ne⟩,(Aw (by omega)).trans x.1.t8,x.1.S,x.1.ld,x.1.nb,x.1.nc⟩,Ce (by rw [x.1.size]; omega)⟩
  refine rb.ctl rfl (fun w1=>Cj) ?_;refine rb.ctl rfl (fun w1=>G7) ?_;refine rb.ctl rfl (fun w1=>PC) ?_;have:=NM (cs:=c0::cs) (L.s0::L.stl L.s0 (xs.take k0.toNat)) z0 rb;rw [show (L.s0::L.stl L.s0 (xs.take k0.toNat)).foldl (fun _ x=>x) z0=L.run (xs.take k0.toNat) from L.last _ _] at this;exact this
 · have:=PT (k:=ch) (cap:=cap) (w:=w8) hQ hL (hY.take (j:=k0.toNat) (by omega)) (by omega) hG hA g.top (fun j hj=>lo8.block j hj);rw [hstl] at this;exact this
 · exact ⟨fun j _ h=>h,fun j hj h=>by have h:j<W.heap.size:=h; have:=g.ge j hj.1; omega,fun j h _=>h,fun h=>h.2 rfl,fun h=>h,fun h=>by have h:ch<W.heap.size:=h; omega⟩
 · exact fun j hj=>hj.elim (fun h=>g.lt j h.1) fun h=>Nat.lt_of_lt_of_le h g.top
 · exact fun j hj=>hj.elim (fun h=>h.elim) fun h=>Nat.lt_of_lt_of_le h g.top
 · intro O a w' hF lo;refine Rm hF (fun _ _=>rfl) lo fun w9 hb=>?_;have:=kk w9 hb;rw [Lv.ans,hok] at this;exact this
end
end Go.Proofs.YtkpogcflgghfiaaDoor
