import Derived.Test.YtaemcekcancpdaaGreatDoorZRunL
import Derived.Test.YtaemcekcancpdaaGreatDoorZRunMath
set_option linter.all false
set_option maxRecDepth 100000
set_option maxHeartbeats 8000000
namespace Go.Proofs.YtaemcekcancpdaaGreatDoor
open Go.RowKit
open M
open Ren
open Go.Conc
abbrev fT:FuncId:=10
theorem DX:PP.funcs[fT]?=some Tryz.f10:=Tryz.func10
theorem Vj:XR.C t0:=by show AH PP Ck Cn t0=true; kernel_rfl
theorem Vk:XR.C t1:=by show AH PP Ck Cn t1=true; kernel_rfl
theorem Vm:XR.C t2:=by show AH PP Ck Cn t2=true; kernel_rfl
theorem Vn:XR.C t3:=by show AH PP Ck Cn t3=true; kernel_rfl
theorem Vr:XR.C t6:=by show AH PP Ck Cn t6=true; kernel_rfl
theorem Vs:XR.C t7:=by show AH PP Ck Cn t7=true; kernel_rfl
theorem Vt:XR.C t8:=by show AH PP Ck Cn t8=true; kernel_rfl
theorem U4:∀ i∈[0,1,2,3],∀ o,(cO t4)[i]?=some o->OpOk XR gR o.op:=Bz (by kernel_rfl)
theorem Vu:∀ i∈[1],∀ o,(cO t5)[i]?=some o->OpOk XR gR o.op:=Bz (by kernel_rfl)
theorem Vv{l:List Nat}(hl:l∈[[0,1,2,3],[0,2,1,3],[1,0,2,3],[1,2,0,3],[1,2,3,0],[2,0,1,3],[2,1,0,3],[2,1,3,0]]):∀ i∈l,∀ o,(cO t4)[i]?=some o->OpOk XR gR o.op:=fun i hi=>U4 i (by
 simp only[List.mem_cons,List.not_mem_nil,or_false] at hl;rcases hl with rfl | rfl | rfl | rfl | rfl | rfl | rfl | rfl<;>simp only[List.mem_cons,List.not_mem_nil,or_false] at hi ⊢<;>omega)
section
variable {N:Nat} {R:Rho} {B:Nat->Option Obj} {K:Nat->Prop} {O:Nat->Prop} {T:Array Value} {w:World} {W:World} {L:Lv} {A:Option Addr} {n cap k b c d:Nat} {xs:List In} {cs:List Frame} {h0:Array Obj} {lv:List Value} {is:Value} {k0:Int} {Q:Array Value->World->Prop}
theorem Rl.put{s:St}{ch v:Value}{u:World}(h:Rl h0 lv is k0 ch b c d s T u):Rl h0 lv is k0 ch b c d s (Bh T (some 30) v) u/\(Bh T (some 30) v).getD 30 undef=v :=
 ⟨⟨⟨⟨size_put.trans h.size,(Aj (by omega)).trans h.t1,(Aj (by omega)).trans h.t2,(Aj (by omega)).trans h.t3,(Aj (by omega)).trans h.t6,h.L,h.R,h.hp,h.lb,h.lc,h.ne⟩,(Aj (by omega)).trans h.t8,h.S,h.ld,h.nb,h.nc⟩,(Aj (by omega)).trans h.t29⟩,A8 (by rw[h.size]; omega)⟩
def JC:List St->St
 | []=>z0
 | s::ss=>ss.foldl (fun _ x=>x) s
theorem OI(pre:List St)(s:St):JC (pre++[s])=s:=by
 cases pre with
 | nil=>rfl
 | cons x xs=>simp[JC]
theorem SA:RecvL k 29 30 31 fT Tryz.f10 (cO t5) fun pre=>Rl h0 lv is k0 (.chan (some k)) b c d (JC pre) where
 fat:=DX
 range:=rfl
 op:=⟨_,rfl,rfl,rfl,rfl⟩
 ok1:=Vu
 hpo:=fun pre=>Rl.hpo
 chan:=fun x=>x.t29
 put:=fun v x=>x.put
 two:=fun x h=>v5 x h
noncomputable abbrev U8:List Item:=[.code (.seq t8 .ret)]
noncomputable abbrev Tt(N:Nat)(R:Rho)(K:Nat->Prop)(B:Nat->Option Obj)(h0:Array Obj)(lv:List Value)(is:Value)(k0:Int)(k b c d:Nat)(s:St)(cs:List Frame):(Nat->Prop)->Goroutine->World->Prop:=Sk N R K B fT 5 31 1 30 (cO t5) (.seq t6 t7) U8 cs (Rl h0 lv is k0 (.chan (some k)) b c d s)
theorem OJ(ss:List St){T:Array Value}{O:Nat->Prop}{w:World}(h:Sit XR gR N R K B (Rl h0 lv is k0 (.chan (some k)) b c d z0) T O w) :
 Co PP true (Lt N) (CStop PP k (Lt N) (Tt N R K B h0 lv is k0 k b c d (JC ss) cs) (ss.map sva)) O (Bb (F fT T (.code tL::.inLoop tL::.inBlock 0::U8)) cs) w:=by
 rw[show tL=Tv 5 31 1 (cO t5) (.seq t6 t7) from rfl];refine Ly SA ss (fun pre s' _ Stop KK T O w h kk=>?_) ss [] rfl h;refine h.ctl rfl (fun w1=>AF) ?_;refine h.wp AJ AK Av (fun T u u' x e=>⟨Rl.hpo T u u' x.1 e,x.2⟩) nn (Am DX) Vr (Q1:=fun T u=>∃ e,Re h0 lv is k0 (.chan (some k)) b c d e (JC pre) s' T u) (fun T u x=>v6 x.1 x.2) fun T4 O4 y4 h4=>?_;obtain⟨e,h4⟩:=h4.split;refine h4.wp AJ AK Av Re.hpo nn (Am DX) Vs (fun T u x=>v7 x) fun T5 O5 y5 h5=>?_;rw[OI] at kk;exact kk _ _ _ h5
variable {G:Goroutine->World->Prop} {c0:Frame}
theorem Sg{h0:Array Obj}{s:St}{a:Goroutine}(hF:Tt W.heap.size R K B h0 lv is k0 k b c d s (c0::cs) O a w)(hB:∀ j,j<W.heap.size->B j=W.heap[j]?)(lo:Below W.heap.size W w)
 (kk:∀ w',Below W.heap.size W w'->Ren.Way PP G (Bb (c0.finish (.tuple #[sva s,.bool true])) cs) w'):Ren.Way PP G a w:=by
 refine Ren.Way.of_co (W:=W) (RO:=Lt W.heap.size) (O:=O) ?_ ⟨lo.os,lo.tape,lo.output⟩ (fun j hj=>Nat.lt_of_lt_of_le hj lo.size);refine Lz (pre:=[s]) SA hF fun T3 O3 y3 h3=>?_;refine h3.ctl rfl (fun w1=>AF) ?_;refine h3.wp AJ AK Av Rl.hpo nn (Am DX) Vt (Q1:=Rf c s) (fun T u x=>v8 x.toRb) fun T4 O4 y4 h4=>?_;refine h4.ctl rfl (fun w1=>Jy) ?_;refine h4.back (v:=.tuple #[sva s,.bool true]) Rf.hpo (EI s true) DX (fun T u x=>Qo x.t6 x.t7 x.R) fun O5 y5 h5=>?_;exact .stop fun w1 hk al=>kk w1 (EJ al (h5.keep hk) hB)
theorem Sj(hQ:Quarter W)(hL:L.At W)(hY:Inputs W A n xs)(hA:Cel W A)(hn:n<=281474976710656)(hc:n<=cap)(hG:XR.G<=W.heap.size)
 (kk:∀ w',Below W.heap.size W w'->Ren.Way PP G (Bb (c0.finish (L.ans xs n k0)) cs) w') :
 Ren.Way PP G (Bb (Frame.enter PP fT #[L.val,.slice A n cap,.int .i64 k0] .normal) (c0::cs)) W:=by
 refine Ren.Way.of_co (W:=W) (RO:=Lt W.heap.size) (O:=fun _=>False) ?_ (Ren.Alike.refl W) (fun j hj=>hj);have ha:ArrR XR.L (vr W W.heap.size) (#[L.val,.slice A n cap,.int .i64 k0]++Array.replicate 32 undef) (#[L.val,.slice A n cap,.int .i64 k0]++Array.replicate 32 undef) :=
  (((ArrR.one hL.self).push (Br hA)).push (.int _ _)).append (.replicate _ (.tuple rfl fun i x y h=>by simp at h))
 have h:Sit XR gR W.heap.size (vr W W.heap.size) (fun _=>False) (fun j=>W.heap[j]?) (fun T u=>T=#[L.val,.slice A n cap,.int .i64 k0]++Array.replicate 32 undef/\Hp (vh W W.heap.size) u) (#[L.val,.slice A n cap,.int .i64 k0]++Array.replicate 32 undef) (fun _=>False) W :=
  Sit.start (Nat.le_refl _) hG (CS hQ fun _ _=>rfl) (fun j h=>h.elim) ha ha (fun _ _=>rfl) (fun u hu=>⟨rfl,Hp.refl hu⟩)
 rw[Ds DX (c:=tB) rfl,UD];refine h.ctl rfl (fun w1=>AF) ?_;refine h.wp AJ AK Av (fun T u u' x e=>⟨x.1,x.2.same e⟩) nn (Am DX) Vj (Q1:=fun T u=>∃ b c,Ra (vh W W.heap.size) L.cs (.slice A n cap) k0 b c T u) (fun T u x=>?_) fun T1 O1 y1 h1=>?_
 . rw[x.1,Tz];exact v0 (J:=fun z=>match z with | 0=>L.val | 1=>.slice A n cap | 2=>.int .i64 k0 | _=>undef) x.2 rfl rfl rfl
 obtain⟨b,h1⟩:=h1.split;obtain⟨c,h1⟩:=h1.split;refine h1.ctl rfl (fun w1=>AF) ?_;refine h1.ctl rfl (fun w1=>AF) ?_;refine h1.wp AJ AK Av Ra.hpo nn (Am DX) Vk (Q1:=fun T u=>Ra (vh W W.heap.size) L.cs (.slice A n cap) k0 b c T u/\T.getD 23 undef=.bool (!B8 L xs n k0)) (fun T u x=>v1 (fun u hu=>JB L A n cap xs u (hL.I.veil hu) (hL.J.veil hu) hL.n hL.m (hY.veil hu) hn) x) fun T2 O2 y2 h2=>?_;cases hok:B8 L xs n k0
 . have h23:=h2.slot (i:=23) (.bool true) fun T u x=>by rw[x.2,hok]; rfl
   refine h2.ctl rfl (fun w1=>EH (t:=true) (by exact h23)) ?_;refine h2.ctl rfl (fun w1=>AF) ?_;refine h2.wp AJ AK Av (fun T u u' x e=>⟨Ra.hpo T u u' x.1 e,x.2⟩) nn (Am DX) Vm (Q1:=Rz c) (fun T u x=>v2 x.1) fun T3 O3 y3 h3=>?_;refine h3.ctl rfl (fun w1=>Jy) ?_;refine h3.back (v:=.tuple #[sva z0,.bool false]) Rz.hpo (EI z0 false) DX (fun T u x=>Qo x.t6 x.t7 x.R) fun O5 y5 h5=>?_;refine .stop fun w1 hk al=>?_;have:=kk w1 (EJ al (h5.keep hk) fun _ _=>rfl);rw[Lv.ans,hok] at this;exact this
 have h23:=h2.slot (i:=23) (.bool false) fun T u x=>by rw[x.2,hok]; rfl
 have hk0:0<=k0/\k0<=n:=by
  simp only[B8,Bool.and_eq_true,decide_eq_true_eq] at hok;exact⟨hok.1,hok.2.1⟩
 refine h2.ctl rfl (fun w1=>EH (t:=false) (by exact h23)) ?_;refine h2.ctl rfl (fun w1=>Kk) ?_;refine h2.ctl rfl (fun w1=>AF) ?_;refine h2.wp AJ AK Av (fun T u u' x e=>⟨Ra.hpo T u u' x.1 e,x.2⟩) nn (Am DX) Vn (Q1:=fun T u=>∃ d,Rb (vh W W.heap.size) L.cs (.slice A n cap) k0 b c d z0 T u) (fun T u x=>v3 x.1) fun T3 O3 y3 h3=>?_;obtain⟨d,h3⟩:=h3.split;refine h3.ctl rfl (fun w1=>AF) ?_;refine h3.ctl rfl (fun w1=>AF) ?_;rw[show t4=.region 4 (cO t4) true from rfl];refine h3.draw Qp fun t=>?_
 obtain⟨l1,hl,hl1⟩:∃ l1,Region.linearise .any (cO t4) t=l1++[4]/\l1∈[[0,1,2,3],[0,2,1,3],[1,0,2,3],[1,2,0,3],[1,2,3,0],[2,0,1,3],[2,1,0,3],[2,1,3,0]]:=by
  have:=IE .any (cO t4) t;rw[Sf] at this;simp only[List.mem_cons,List.not_mem_nil,or_false] at this;rcases this with e | e | e | e | e | e | e | e
  . exact⟨[0,1,2,3],e,by simp⟩
  . exact⟨[0,2,1,3],e,by simp⟩
  . exact⟨[1,0,2,3],e,by simp⟩
  . exact⟨[1,2,0,3],e,by simp⟩
  . exact⟨[1,2,3,0],e,by simp⟩
  . exact⟨[2,0,1,3],e,by simp⟩
  . exact⟨[2,1,0,3],e,by simp⟩
  . exact⟨[2,1,3,0],e,by simp⟩
 rw[hl];refine h3.ops (l2:=[4]) AJ AK Av Rb.hpo nn (Am DX) (Vv hl1) (Q1:=Rc (vh W W.heap.size) L A n cap k0 b c d) (fun T u x=>v4 hc hn hk0.1 hk0.2 hl1 x) fun T4 O4 y4 h4=>?_;refine Sit.states (A:=A) (m:=k0.toNat) (cap:=cap) (L:=L) (xs:=xs.take k0.toNat) hQ hL (hY.take (j:=k0.toNat) (by omega)) hA (by omega) hG h4 (o:=(cO t4)[4]) (d:=29) rfl rfl rfl rfl (fun T u x=>x.2) (fun ch=>Tt W.heap.size (vr W W.heap.size) (fun _=>False) (fun j=>W.heap[j]?) (vh W W.heap.size) L.cs (.slice A n cap) k0 ch b c d (L.run (xs.take k0.toNat)) (c0::cs)) (fun ch Oa ya ra=>?_) fun ch O a w' hF lo=>?_
 . have rb:=ra.mono (Q1:=Rl (vh W W.heap.size) L.cs (.slice A n cap) k0 (.chan (some ch)) b c d z0) fun T u ⟨T0,x,e⟩=>by
    subst e;exact⟨⟨⟨size_put.trans x.1.size,(Aj (by omega)).trans x.1.t1,(Aj (by omega)).trans x.1.t2,(Aj (by omega)).trans x.1.t3,(Aj (by omega)).trans x.1.t6,x.1.L,x.1.R,x.1.hp,x.1.lb,x.1.lc,x.1.ne⟩,(Aj (by omega)).trans x.1.t8,x.1.S,x.1.ld,x.1.nb,x.1.nc⟩,A8 (by rw[x.1.size]; omega)⟩
   refine rb.ctl rfl (fun w1=>BG) ?_;refine rb.ctl rfl (fun w1=>F2) ?_;refine rb.ctl rfl (fun w1=>Mp) ?_;have:=OJ (cs:=c0::cs) (L.s0::L.stl L.s0 (xs.take k0.toNat)) rb;rw[show JC (L.s0::L.stl L.s0 (xs.take k0.toNat))=L.run (xs.take k0.toNat) from L.last _ _] at this;exact this
 . refine Sg hF (fun _ _=>rfl) lo fun w9 hb=>?_;have:=kk w9 hb;rw[Lv.ans,hok] at this;exact this
end
open Go.RowKit
open M
open Ren
open Go.Conc
theorem Km{K:Ren.Good}{r:Rho}{L:Lv}{v':Value}(h:VR K r L.val v'):∃ A' G',v'=Lv.val { L with A:=A',G:=G' }/\(L.A=none/\A'=none\/∃ a a',L.A=some a/\A'=some a'/\AR r a a')/\(L.G=none/\G'=none\/∃ a a',L.G=some a/\G'=some a'/\AR r a a'):=by
 cases h with
 | @agg _ b ha ka =>
  have get:∀(i:Nat) (x:Value),(#[.int .i64 L.i,.int .i64 L.t,.int .i64 L.x,.int .i64 L.y,.slice L.A L.n L.c,.slice L.G L.m L.kk,.int .i64 L.fp,.int .i64 L.fq,.int .i64 L.fs,.int .i64 L.fz,.int .i64 L.b]:Array Value)[i]?=some x->∃ y,b[i]?=some y/\VR K r x y:=fun i x hx=>ArrR.get? ⟨ha,ka⟩ hx;have geti:∀(i:Nat) (z:Int),(#[.int .i64 L.i,.int .i64 L.t,.int .i64 L.x,.int .i64 L.y,.slice L.A L.n L.c,.slice L.G L.m L.kk,.int .i64 L.fp,.int .i64 L.fq,.int .i64 L.fs,.int .i64 L.fz,.int .i64 L.b]:Array Value)[i]?=some (.int .i64 z)->b[i]?=some (.int .i64 z):=fun i z hx=>by
   obtain⟨y,h1,h2⟩:=get i _ hx;rw[h1,(Plain.int .i64 z).eq h2]
  obtain⟨y4,e4,h4⟩:=get 4 _ rfl;obtain⟨y5,e5,h5⟩:=get 5 _ rfl;obtain⟨A',rfl,hA⟩:=CQ h4;obtain⟨G',rfl,hG⟩:=CQ h5;refine⟨A',G',?_,hA,hG⟩;have hs:b.size=11:=ha.symm;congr 1;apply Array.ext_getElem?;intro i;have e0:=geti 0 L.i rfl;have e1:=geti 1 L.t rfl;have e2:=geti 2 L.x rfl;have e3:=geti 3 L.y rfl;have e6:=geti 6 L.fp rfl;have e7:=geti 7 L.fq rfl;have e8:=geti 8 L.fs rfl;have e9:=geti 9 L.fz rfl;have e10:=geti 10 L.b rfl;rcases i with _ | _ | _ | _ | _ | _ | _ | _ | _ | _ | _ | i
  . exact e0
  . exact e1
  . exact e2
  . exact e3
  . exact e4
  . exact e5
  . exact e6
  . exact e7
  . exact e8
  . exact e9
  . exact e10
  . rw[Array.getElem?_eq_none (by omega),Array.getElem?_eq_none (by simp)]
section
variable {N:Nat} {R:Rho} {B:Nat->Option Obj} {Q:Array Value->World->Prop} {T:Array Value} {O:Nat->Prop} {w W:World} {G:Goroutine->World->Prop}
structure Ready(L:Lv)(A:Option Addr)(n cap:Nat)(xs:List In)(u:World):Prop where
 lv:L.At u
 ins:Inputs u A n xs
 cel:Cel u A
 small:n<=281474976710656
 room:n<=cap
 quarter:Quarter u
theorem Ren.Sit.runTo(h:Sit XR gR N R (fun _=>False) B Q T O w)(hG:XR.G<=N){f:FuncId}{ops:Array Oper}{i:Nat}{l:List Nat}{k:List Item}{o:Oper}{a b d:Nat}{z:Operand}{ats:Array TypeId}{L:Lv}{A:Option Addr}{n cap:Nat}{xs:List In}{k0:Int}{cs:List Frame}
 (ho:ops[i]?=some o) (hg:o.guard=none) (hd:o.dst=some d) (hop:o.op=.call { callee:=.value (.func fT),args:=#[.tmp a,.tmp b,z],argTypes:=ats })
 (hz:(⟨T,[]⟩:Act).eval z=.int .i64 k0) (hq:∀ T u,Q T u->(T.getD a undef=L.val/\T.getD b undef=.slice A n cap)/\Ready L A n cap xs u)
 (kk:∀ B2 w2,(∀ j,j<N->B2 j=B j)->Sit XR gR N R (fun _=>False) B2 (fun T u=>∃ T0,Q T0 u/\T=Bh T0 (some d) (L.ans xs n k0)) (Bh T (some d) (L.ans xs n k0)) O w2 ->
  Co PP true (Lt N) (Dq PP W G) O (Bb (F f (Bh T (some d) (L.ans xs n k0)) (.inRegion ops l::k)) cs) w2) :
 Co PP true (Lt N) (Dq PP W G) O (Bb (F f T (.inRegion ops (i::l)::k)) cs) w:=by
 refine h.ctl rfl (fun w1=>Qh (fn:=Tryz.f10) (c:=tB) ho hg hop DX rfl rfl) ?_;refine .stop fun w1 hk al=>?_;have h1:=h.keep hk;obtain⟨r,T0,u,ok,hR,wr,hQ,gl,_,arr⟩:=h1.look 0;obtain⟨⟨ea,eb⟩,rd⟩:=hq T0 u hQ;have hu:VR XR.L r undef undef:=.tuple rfl fun i x y h=>by simp at h
 have va:=arr.getD a hu;have vb:=arr.getD b hu;rw[ea] at va;rw[eb] at vb;obtain⟨A1,G1,e1,hA1,hG1⟩:=Km va;obtain⟨A2,e2,hA2⟩:=CQ vb;have Q1:Quarter w1:=rd.quarter.over wr (gl 0 rfl);have L1:Lv.At { L with A:=A1,G:=G1 } w1:=⟨rd.lv.I.over wr hA1,rd.lv.J.over wr hG1,rd.lv.n,rd.lv.m,rd.lv.ca.over wr hA1,rd.lv.cg.over wr hG1⟩;have em:(#[Operand.tmp a,Operand.tmp b,z].map (⟨T,[]⟩:Act).eval)=#[T.getD a undef,T.getD b undef,.int .i64 k0]:=by
  rw[List.map_toArray]
  show #[T.getD a undef,T.getD b undef,(⟨T,[]⟩:Act).eval z]=_
  rw[hz]
 rw[em,e1,e2];refine Sj (L:={ L with A:=A1,G:=G1 }) (A:=A2) (xs:=xs) (W:=w1) Q1 L1 (rd.ins.over wr hA2) (rd.cel.over wr hA2) rd.small rd.room (Nat.le_trans hG h1.top) fun w2 lo=>?_;rw[show Lv.ans { L with A:=A1,G:=G1 } xs n k0=L.ans xs n k0 from rfl,F5 (l:=l) _ ho,hd];have al2:Ren.Alike W w2:=al.trans ⟨lo.os,lo.tape,lo.output⟩
 have h2:=h1.resume (w2:=w2) (O2:=O) (Nat.le_trans hG (Nat.le_trans h1.top lo.size)) (Nat.le_trans h1.top lo.size) (fun j hj=>lo.block j (hj.elim (h1.lt j) fun h=>Nat.lt_of_lt_of_le h h1.top)) (fun j hj=>hj) (fun j hj=>⟨h1.ge j hj,Nat.lt_of_lt_of_le (h1.lt j hj) lo.size⟩) (K2:=fun _=>False) (fun j hj=>hj.elim);refine Ren.Way.of_co (W:=W) (RO:=Lt N) (O:=O) ?_ al2 (fun j hj=>Nat.lt_of_lt_of_le hj h2.top);refine kk _ w2 (fun j hj=>(lo.block j (Nat.lt_of_lt_of_le hj h1.top)).trans (h1.base j (.inr hj))) ?_;exact h2.put (EI _ _) (some d) fun T u x=>⟨T,x,rfl⟩
theorem Tu{f:FuncId}{fn:Func}{T:Array Value}{k:List Item}{t:Nat}{v:Value}{w:World}(hf:PP.funcs[f]?=some fn)(hi:PP.inits.idxOf? f=none)(hr:fn.results=#[.tmp t])(hv:T.getD t undef=v):stepG PP true (Bb { F f T k with mode:=.returning } []) w=.ended (.done v) w #[]:=by
 have e1:(results fn T).run PP w=.ok v w:=by rw[results_tmp hr,hv]
 have e2:(results fn T).events PP w #[]=#[]:=events_results_tmp hr _ _;have e3:(results fn T).runT PP w #[]=(.ok v w,#[]):=by rw[Sem.runT_eq,e1,e2]
 have e4:seen PP f #[]=#[]:=by simp[seen]
 simp only[stepG,unwind,doReturn,hf,e3,hi,e4];rfl
abbrev Lx(W:World):Goroutine->World->Prop:=fun a w=>∀ d,AtEnd PP (fun _=>False) w.heap.size (fun v w'=>v=.bool true/\Below W.heap.size W w') a (w.at d)
theorem Ren.Sit.done{f:FuncId}{fn:Func}{k:List Item}{t:Nat}(h:Sit XR gR W.heap.size R (fun _=>False) B Q T O w)(hB:∀ j,j<W.heap.size->B j=W.heap[j]?)(hf:PP.funcs[f]?=some fn)(hi:PP.inits.idxOf? f=none)(hr:fn.results=#[.tmp t])(hv:∀ T u,Q T u->T.getD t undef=.bool true) :
 Co PP true (Lt W.heap.size) (Dq PP W (Lx W)) O (Bb { F f T k with mode:=.returning } []) w :=
 .stop fun w1 hk al=>.now fun d=>by
  have h1:=h.keep hk;have b:=EJ al h1 hB;exact⟨rfl,.bool true,#[],Tu hf hi hr (h1.slot (.bool true) hv),by simp,rfl,⟨b.os,b.tape,b.output,b.size,b.block⟩⟩
end
open Go.RowKit
open M
open Ren
open Go.Conc
theorem Cl{u u':World}(e:u'.heap=u.heap)(a:Addr):u'.cell? a=u.cell? a:=by unfold World.cell?; rw[e]
theorem Boxes.same{u u':World}{A:Option Addr}{n:Nat}{bs:List Bx}(h:Boxes u A n bs)(e:u'.heap=u.heap):Boxes u' A n bs :=
 ⟨h.1,fun hn=>by
  obtain⟨b,off,e1,hb,hc⟩:=h.2 hn;exact⟨b,off,e1,by rw[e]; exact hb,fun k hk=>(hc k hk).of (by rw[e])⟩⟩
theorem Inputs.same{u u':World}{A:Option Addr}{n:Nat}{xs:List In}(h:Inputs u A n xs)(e:u'.heap=u.heap):Inputs u' A n xs :=
 ⟨h.1,fun hn=>by
  obtain⟨b,off,e1,hb,hc⟩:=h.2 hn;exact⟨b,off,e1,by rw[e]; exact hb,fun k hk=>(hc k hk).of (by rw[e])⟩⟩
theorem Cel.step{w w':World}{A:Option Addr}(h:Cel w A)(B:Below w.heap.size w w'):Cel w' A:=h.of fun a ha=>B.block _ (h.lt ha)
theorem Quarter.same{u u':World}(h:Quarter u)(e:u'.heap=u.heap):Quarter u' :=
 ⟨(Cl e _).trans h.q0,(Cl e _).trans h.q1,(Cl e _).trans h.q2,(Cl e _).trans h.q3,(Cl e _).trans h.q4,(Cl e _).trans h.q5,(Cl e _).trans h.q6,(Cl e _).trans h.q7,by rw[e]; exact h.lt⟩
theorem Ready.same{L:Lv}{A:Option Addr}{n cap:Nat}{xs:List In}{u u':World}(h:Ready L A n cap xs u)(e:u'.heap=u.heap):Ready L A n cap xs u' :=
 ⟨⟨h.lv.I.same e,h.lv.J.same e,h.lv.n,h.lv.m,h.lv.ca.of fun _ _=>by rw[e],h.lv.cg.of fun _ _=>by rw[e]⟩,h.ins.same e,h.cel.of fun _ _=>by rw[e],h.small,h.room,h.quarter.same e⟩
theorem Ready.step{L:Lv}{A:Option Addr}{n cap:Nat}{xs:List In}{u u':World}(h:Ready L A n cap xs u)(B:Below u.heap.size u u'):Ready L A n cap xs u' :=
 ⟨⟨h.lv.I.step B,h.lv.J.step B,h.lv.n,h.lv.m,h.lv.ca.step B,h.lv.cg.step B⟩,h.ins.step B,h.cel.step B,h.small,h.room,h.quarter.step B⟩
theorem Quarter.kept{u u':World}{r:Nat}(h:Quarter u)(K:Kept r u u')(hr:r≠0):Quarter u':=by
 have e:=K.block 0 h.lt (Ne.symm hr);exact⟨(World.cell?_of_block (a:=⟨0,0,none⟩) e).trans h.q0,(World.cell?_of_block (a:=⟨0,1,none⟩) e).trans h.q1,(World.cell?_of_block (a:=⟨0,2,none⟩) e).trans h.q2,(World.cell?_of_block (a:=⟨0,3,none⟩) e).trans h.q3,(World.cell?_of_block (a:=⟨0,4,none⟩) e).trans h.q4,(World.cell?_of_block (a:=⟨0,5,none⟩) e).trans h.q5,(World.cell?_of_block (a:=⟨0,6,none⟩) e).trans h.q6,(World.cell?_of_block (a:=⟨0,7,none⟩) e).trans h.q7,Nat.lt_of_lt_of_le h.lt K.size⟩
theorem Ready.kept{L:Lv}{A:Option Addr}{n cap:Nat}{xs:List In}{u u':World}{r:Nat}(h:Ready L A n cap xs u)(K:Kept r u u')(hr:r≠0)(h1:∀ a,L.A=some a->a.block≠r)(h2:∀ a,L.G=some a->a.block≠r)(h3:∀ a,A=some a->a.block≠r):Ready L A n cap xs u' :=
 ⟨⟨h.lv.I.kept K (fun _ g off e=>h1 _ e),h.lv.J.kept K (fun _ g off e=>h2 _ e),h.lv.n,h.lv.m,h.lv.ca.kept K (fun g off e=>h1 _ e),h.lv.cg.kept K (fun g off e=>h2 _ e)⟩,h.ins.kept K (fun _ g off e=>h3 _ e),h.cel.kept K (fun g off e=>h3 _ e),h.small,h.room,h.quarter.kept K hr⟩
structure Low(L:Lv)(A:Option Addr)(N:Nat):Prop where
 a:∀ a,L.A=some a->a.block<N
 g:∀ a,L.G=some a->a.block<N
 i:∀ a,A=some a->a.block<N
theorem Ready.low{L:Lv}{A:Option Addr}{n cap:Nat}{xs:List In}{u:World}(h:Ready L A n cap xs u):Low L A u.heap.size:=⟨fun a ha=>h.lv.ca.lt ha,fun a ha=>h.lv.cg.lt ha,fun a ha=>h.cel.lt ha⟩
theorem Ready.keep{L:Lv}{A:Option Addr}{n cap:Nat}{xs:List In}{u u':World}{r N:Nat}(h:Ready L A n cap xs u)(l:Low L A N)(K:Kept r u u')(hr:N<=r)(h0:0<N):Ready L A n cap xs u' :=
 h.kept K (by omega) (fun a ha=>by have:=l.a a ha; omega) (fun a ha=>by have:=l.g a ha; omega) (fun a ha=>by have:=l.i a ha; omega)
structure Za(h0:Array Obj)(sz:Nat)(a:Option Addr)(len cap:Nat)(zs:List Int)(T:Array Value)(u:World):Prop where
 size:T.size=sz
 t0:T.getD 0 undef=.slice a len cap
 row:IsRow .u8 u a len cap zs
 q:Quarter u
 hp:Hp h0 u
theorem IsRow.same{u u':World}{a:Option Addr}{len cap:Nat}{zs:List Int}(h:IsRow .u8 u a len cap zs)(e:u'.heap=u.heap):IsRow .u8 u' a len cap zs:=by
 rcases h with h | ⟨x,h1,h2,h3,h4,h5,h6⟩
 . exact .inl h
 . exact .inr ⟨x,h1,h2,h3,h4,fun i hi=>(Cl e _).trans (h5 i hi),h6⟩
theorem Za.hpo{h0:Array Obj}{sz:Nat}{a:Option Addr}{len cap:Nat}{zs:List Int}:Hpo (Za h0 sz a len cap zs):=fun _ _ _ h e=>⟨h.size,h.t0,h.row.same e,h.q.same e,h.hp.same e⟩
theorem IF(a:Addr)(n:Nat):(a.add n).block=a.block:=by unfold Addr.add; split<;>rfl
theorem IsRow.veil{w u:World}{a:Option Addr}{len cap:Nat}{zs:List Int}(h:IsRow .u8 w a len cap zs)(ca:Cel w a)(hp:Hp (vh w w.heap.size) u):IsRow .u8 u a len cap zs:=by
 rcases h with h | ⟨x,rfl,h2,h3,h4,h5,h6⟩
 . exact .inl h
 . refine .inr ⟨x,rfl,h2,h3,h4,fun i hi=>?_,h6⟩;have hb:(x.add i).block<w.heap.size:=by rw[IF]; exact ca.lt rfl
   rw[Nu (Nat.le_refl _) hb (hp.block _ (by rw[DD (Nat.le_refl _)]; exact hb)) (h5 i hi),Cu]
structure Vh(h0:Array Obj)(sz z:Nat)(L:Lv)(D:Option Addr)(N cc:Nat)(xs:List In)(k0:Int)(b:Nat)(T:Array Value)(u:World):Prop where
 size:T.size=sz
 t3:T.getD (3+z) undef=AA b
 t4:T.getD (4+z) undef=.slice D N cc
 t5:T.getD (5+z) undef=.int .i64 k0
 P:CellsAt u b L.cs
 rd:Ready L D N cc xs u
 lo:Low L D b
 hp:Hp h0 u
 lb:h0.size<=b
 bp:0<b
 bd:-2<=k0/\k0<=N+1
 sm:N<=63
theorem Vh.hpo{h0:Array Obj}{sz z:Nat}{L:Lv}{D:Option Addr}{N cc:Nat}{xs:List In}{k0:Int}{b:Nat}:Hpo (Vh h0 sz z L D N cc xs k0 b):=fun _ _ _ h e=>{ h with P:=h.P.same e,rd:=h.rd.same e,hp:=h.hp.same e }
structure Vo(h0:Array Obj)(sz z:Nat)(L:Lv)(D:Option Addr)(N cc:Nat)(xs:List In)(k0:Int)(b c:Nat)(s:St)(ok:Bool)(T:Array Value)(u:World):Prop extends Vh h0 sz z L D N cc xs k0 b T u where
 t6:T.getD (6+z) undef=AA c
 t7:T.getD (7+z) undef=.bool ok
 S:CellsAt u c (svs s)
 lc:b<c
theorem Vo.hpo{h0:Array Obj}{sz z:Nat}{L:Lv}{D:Option Addr}{N cc:Nat}{xs:List In}{k0:Int}{b c:Nat}{s:St}{ok:Bool}:Hpo (Vo h0 sz z L D N cc xs k0 b c s ok):=fun _ _ _ h e=>{ h with P:=h.P.same e,rd:=h.rd.same e,hp:=h.hp.same e,S:=h.S.same e }
def Lv.fin(L:Lv)(xs:List In)(n:Nat)(k0:Int):St:=if B8 L xs n k0 then L.run (xs.take k0.toNat) else z0
theorem Lv.ans_eq(L:Lv)(xs:List In)(n:Nat)(k0:Int):L.ans xs n k0=.tuple #[sva (L.fin xs n k0),.bool (B8 L xs n k0)]:=rfl
end Go.Proofs.YtaemcekcancpdaaGreatDoor
