import Derived.Test.YtaemcekcancpdaaGreatDoorZRunB
set_option linter.all false
set_option maxRecDepth 100000
set_option maxHeartbeats 8000000
namespace Go.Proofs.YtaemcekcancpdaaGreatDoor
open Go.RowKit
open M
open Ren
open Go.Conc
noncomputable abbrev Uc:Code:=Dr Tryz.f15
noncomputable def e0:Code:=cA Uc
noncomputable def e1:Code:=cA (cB Uc)
noncomputable def eR:Code:=cB (cB Uc)
theorem Tw:Uc=.seq e0 (.seq e1 eR):=rfl
abbrev fC:FuncId:=15
theorem IJ:PP.funcs[fC]?=some Tryz.f15:=Tryz.func15
theorem VA:XR.C e0:=by show AH PP Ck Cn e0=true; kernel_rfl
theorem VB:XR.C eR:=by show AH PP Ck Cn eR=true; kernel_rfl
theorem VC:∀ i∈[0,1,2,3],∀ o,(cO e1)[i]?=some o->OpOk XR gR o.op:=Bz (by kernel_rfl)
theorem U5:∀ i∈[5,6,7,8,9,10],∀ o,(cO e1)[i]?=some o->OpOk XR gR o.op:=Bz (by kernel_rfl)
abbrev TC(J:Nat->Value):Array Value:=#[J 0,J 1,J 2,J 3,J 4,J 5,J 6,J 7,J 8,J 9,J 10,J 11,J 12,J 13,J 14,J 15,J 16,J 17,J 18,J 19,J 20,J 21,J 22,J 23]
theorem Qt{T:Array Value}(h:T.size=24):T=TC fun n=>T.getD n undef:=by
 refine Array.ext h fun i h1 h2=>?_;have e:∀ n (hn:n<T.size),T.getD n undef=T[n]:=fun n hn=>by simp[Array.getD,hn]
 simp only[TC];have:i<24:=h▸h1
 iterate 24 (rcases i with _ | i; · exact(e _ _).symm)
 omega
theorem Tx(a b:Value):#[a,b]++Array.replicate 22 undef=#[a,b,undef,undef,undef,undef,undef,undef,undef,undef,undef,undef,undef,undef,undef,undef,undef,undef,undef,undef,undef,undef,undef,undef]:=by kernel_rfl
theorem Cel.veil{w u:World}{A:Option Addr}(h:Cel w A)(hp:Hp (vh w w.heap.size) u):Cel u A:=fun a ha=>by
 obtain⟨h1,c,t,f,h2⟩:=h a ha;have hl:a.block<w.heap.size:=(Array.getElem?_eq_some_iff.1 h2).1;refine⟨h1,c.map vl,t,(0,c.size),?_⟩;rw[hp.block _ (by rw[DD (Nat.le_refl _)]; exact hl),Fx (Nat.le_refl _) hl,h2];rfl
theorem IK{L:Lv}{A:Option Addr}{n cap:Nat}{xs:List In}{W u:World}(hQ:Quarter W)(hL:L.At W)(hY:Inputs W A n xs)(hA:Cel W A)(hn:n<=281474976710656)(hc:n<=cap)(hp:Hp (vh W W.heap.size) u):Ready L A n cap xs u :=
 ⟨⟨hL.I.veil hp,hL.J.veil hp,hL.n,hL.m,hL.ca.veil hp,hL.cg.veil hp⟩,hY.veil hp,hA.veil hp,hn,hc,hQ.veil hp⟩
structure Ea(L:Lv)(A:Option Addr)(n cap:Nat)(xs:List In)(b:Nat)(T:Array Value)(u:World):Prop where
 size:T.size=24
 t1:T.getD 1 undef=.slice A n cap
 t2:T.getD 2 undef=AA b
 P:CellsAt u b L.cs
 rd:Ready L A n cap xs u
theorem Ea.hpo{L:Lv}{A:Option Addr}{n cap:Nat}{xs:List In}{b:Nat}:Hpo (Ea L A n cap xs b):=fun _ _ _ h e=>{ h with P:=h.P.same e,rd:=h.rd.same e }
structure Eb(c:Nat)(s:St)(ok:Bool)(T:Array Value)(u:World):Prop where
 size:T.size=24
 t5:T.getD 5 undef=AA c
 t6:T.getD 6 undef=.bool ok
 S:CellsAt u c (svs s)
theorem Eb.hpo{c:Nat}{s:St}{ok:Bool}:Hpo (Eb c s ok):=fun _ _ _ h e=>{ h with S:=h.S.same e }
def Nx(s:St)(ok:Bool):Int:=if ok&&s.d then s.k else -1
def Lv.score(L:Lv)(xs:List In)(n:Nat):Int:=Nx (L.fin xs n n) (B8 L xs n n)
section
variable {h0:Array Obj} {L:Lv} {A:Option Addr} {n cap:Nat} {xs:List In} {b c:Nat} {s:St} {ok:Bool} {T:Array Value} {w:World}
theorem x0{J:Nat->Value}(j0:J 0=L.val)(j1:J 1=.slice A n cap)(H:Ready L A n cap xs w):e0.wp Tryz.prog (fun e t u=>e=.normal/\t.defers=[]/\∃ b,Ea L A n cap xs b t.tmps u) ⟨TC J,[]⟩ w:=by
 rw[show e0=.region 0 _ false from rfl];go_wp;exact⟨rfl,rfl,w.heap.size,rfl,rfl,rfl,CellsAt.new w _ L.cs 29 rfl,H.step (Aa (Ac w) _)⟩
theorem x1(H:Ea L A n cap xs b T w):wpOps Tryz.prog (cO e1) (fun e t u=>e=.normal/\t.defers=[]/\(Ea L A n cap xs b t.tmps u/\t.tmps.getD 8 undef=L.val/\t.tmps.getD 9 undef=.slice A n cap/\t.tmps.getD 11 undef=.int .i64 (n:Int))) [0,1,2,3] ⟨T,[]⟩ w:=by
 obtain⟨J,rfl⟩:∃ J,T=TC J:=⟨_,Qt H.size⟩;have j1:J 1=.slice A n cap:=H.t1;have j2:J 2=AA b:=H.t2;have e:cO e1=#[_,_,_,_,_,_,_,_,_,_,_]:=rfl;rw[Ah (os:=[_,_,_,_]) rfl];simp only[e,List.getElem_toArray,List.getElem_cons_zero,List.getElem_cons_succ];refine Af rfl 29 (.tmp 2) rfl b j2 L.cs H.P Tryz.underlying29 rfl Ad ?_;go_wp;exact⟨rfl,rfl,⟨rfl,rfl,rfl,H.P,H.rd⟩,rfl,rfl,rfl⟩
theorem x2(H:T.size=24)(h12:T.getD 12 undef=.tuple #[sva s,.bool ok]):wpOps Tryz.prog (cO e1) (fun e t u=>e=.normal/\t.defers=[]/\∃ c,Eb c s ok t.tmps u) [5,6,7,8,9,10] ⟨T,[]⟩ w:=by
 obtain⟨J,rfl⟩:∃ J,T=TC J:=⟨_,Qt H⟩;have j12:J 12=.tuple #[sva s,.bool ok]:=h12;have e:cO e1=#[_,_,_,_,_,_,_,_,_,_,_]:=rfl;rw[Ah (os:=[_,_,_,_,_,_]) rfl];simp only[e,List.getElem_toArray,List.getElem_cons_zero,List.getElem_cons_succ]
 iterate 12 go_step
 refine Ai rfl 34 (.tmp 5) (.tmp 13) rfl w.heap.size rfl (svs s) rfl _ (CellsAt.new w _ [_,_,_,_,_,_,_,_,_] 34 rfl) (Nat.le_refl _) Ae rfl ?_;intro w2 K S;go_wp;exact⟨rfl,rfl,w.heap.size,rfl,rfl,rfl,S⟩
theorem x3(H:Eb c s ok T w):eR.wp Tryz.prog (fun e t u=>t.defers=[]/\(e=.normal/\False\/e=.ret/\t.tmps.getD 4 undef=.int .i64 (Nx s ok))) ⟨T,[]⟩ w:=by
 obtain⟨J,rfl⟩:∃ J,T=TC J:=⟨_,Qt H.size⟩;have j5:J 5=AA c:=H.t5;have j6:J 6=.bool ok:=H.t6;rw[show eR=.seq (.seq (.region 2 _ false) (.cond (.tmp 21) (.seq (.region 3 _ false) .ret) .skip)) (.seq (.region 4 _ false) .ret) from rfl];cases ok
 . rw[show Nx s false=-1 from rfl];go_wp2
 . have s0:=H.S.cell 0 _ rfl;have s5:=H.S.cell 7 _ rfl;have sl:=H.S.lt;cases hd:s.d
   . rw[hd] at s5;have e:Nx s true=-1:=by simp[Nx,hd]
     rw[e];go_wp2
   . rw[hd] at s5;have e:Nx s true=s.k:=by simp[Nx,hd]
     rw[e];go_wp2
end
section
variable {W:World} {L:Lv} {A:Option Addr} {n cap:Nat} {xs:List In} {cs:List Frame} {c0:Frame} {G:Goroutine->World->Prop}
theorem OO(hQ:Quarter W)(hL:L.At W)(hY:Inputs W A n xs)(hA:Cel W A)(hn:n<=281474976710656)(hc:n<=cap)(hG:XR.G<=W.heap.size)
 (kk:∀ w',Below W.heap.size W w'->Ren.Way PP G (Bb (c0.finish (.int .i64 (L.score xs n))) cs) w') :
 Ren.Way PP G (Bb (Frame.enter PP fC #[L.val,.slice A n cap] .normal) (c0::cs)) W:=by
 refine Ren.Way.of_co (W:=W) (RO:=Lt W.heap.size) (O:=fun _=>False) ?_ (Ren.Alike.refl W) (fun j hj=>hj);have ha:ArrR XR.L (vr W W.heap.size) (#[L.val,.slice A n cap]++Array.replicate 22 undef) (#[L.val,.slice A n cap]++Array.replicate 22 undef) :=
  ((ArrR.one hL.self).push (Br hA)).append (.replicate _ (.tuple rfl fun i x y h=>by simp at h))
 have h:Sit XR gR W.heap.size (vr W W.heap.size) (fun _=>False) (fun j=>W.heap[j]?) (fun T u=>T=#[L.val,.slice A n cap]++Array.replicate 22 undef/\Ready L A n cap xs u) (#[L.val,.slice A n cap]++Array.replicate 22 undef) (fun _=>False) W :=
  Sit.start (Nat.le_refl _) hG (CS hQ fun _ _=>rfl) (fun j h=>h.elim) ha ha (fun _ _=>rfl) (fun u hu=>⟨rfl,IK hQ hL hY hA hn hc (Hp.refl hu)⟩)
 rw[Ds IJ (c:=Uc) rfl,Tw];refine h.ctl rfl (fun w1=>AF) ?_;refine h.wp AJ AK Av (fun T u u' x e=>⟨x.1,x.2.same e⟩) nn (Am IJ) VA (Q1:=fun T u=>∃ b,Ea L A n cap xs b T u) (fun T u x=>?_) fun T1 O1 y1 h1=>?_
 . rw[x.1,Tx];exact x0 (J:=fun z=>match z with | 0=>L.val | 1=>.slice A n cap | _=>undef) rfl rfl x.2
 obtain⟨b,h1⟩:=h1.split;refine h1.ctl rfl (fun w1=>AF) ?_;refine h1.ctl rfl (fun w1=>by rw[show e1=.region 1 (cO e1) false from rfl]; exact Ba) ?_;refine h1.ops (l1:=[0,1,2,3]) (l2:=[4,5,6,7,8,9,10]) AJ AK Av Ea.hpo nn (Am IJ) VC (Q1:=fun T u=>Ea L A n cap xs b T u/\T.getD 8 undef=L.val/\T.getD 9 undef=.slice A n cap/\T.getD 11 undef=.int .i64 (n:Int)) (fun T u x=>x1 x) fun T2 O2 y2 h2=>?_;have hz:=h2.slot (i:=11) (.int .i64 (n:Int)) fun T u x=>x.2.2.2
 refine h2.runTo hG (i:=4) (l:=[5,6,7,8,9,10]) (d:=12) (z:=.tmp 11) (k0:=(n:Int)) (L:=L) (A:=A) (n:=n) (cap:=cap) (xs:=xs) rfl rfl rfl rfl (by exact hz) (fun T u x=>⟨⟨x.2.1,x.2.2.1⟩,x.1.rd⟩) fun B2 y3 hB h3=>?_;refine Sit.ops (l1:=[5,6,7,8,9,10]) (l2:=[]) (h3.mono (Q1:=fun T u=>T.size=24/\T.getD 12 undef=.tuple #[sva (L.fin xs n n),.bool (B8 L xs n n)]) fun T u ⟨T0,x,e⟩=>?_) AJ AK Av (fun T u u' x e=>x) nn (Am IJ) U5 (Q1:=fun T u=>∃ c,Eb c (L.fin xs n n) (B8 L xs n n) T u) (fun T u x=>x2 x.1 x.2) fun T4 O4 y4 h4=>?_
 . subst e;exact⟨size_put.trans x.1.size,A8 (by rw[x.1.size]; omega)⟩
 obtain⟨c,h4⟩:=h4.split;refine h4.ctl rfl (fun w1=>BG) ?_;refine h4.wp2 AJ AK Av Eb.hpo nn (Am IJ) VB (Q1:=fun _ _=>False) (Q2:=fun T u=>T.getD 4 undef=.int .i64 (L.score xs n)) (fun T u x=>x3 x) (fun T5 O5 y5 h5=>h5.fact fun _ _ x=>x.elim) (fun k T5 O5 y5 h5=>?_);refine h5.back (v:=.int .i64 (L.score xs n)) (fun T u u' x e=>x) (.int .i64 _) IJ (fun T u x=>by rw[results_tmp (t:=4) rfl,x]) fun O6 y6 h6=>?_;exact .stop fun w1 hk al=>kk w1 (EJ al (h6.keep hk) hB)
end
section
variable {N:Nat} {R:Rho} {B:Nat->Option Obj} {Q:Array Value->World->Prop} {T:Array Value} {O:Nat->Prop} {w W:World} {G:Goroutine->World->Prop}
theorem Ren.Sit.runScoreW(h:Sit XR gR N R (fun _=>False) B Q T O w)(hG:XR.G<=N){f:FuncId}{ops:Array Oper}{i:Nat}{l:List Nat}{k:List Item}{o:Oper}{a b d:Nat}{ats:Array TypeId}{L:Lv}{A:Option Addr}{n cap:Nat}{xs:List In}{cs:List Frame}
 (ho:ops[i]?=some o) (hw:Region.wanted o (yielded ops T)=true) (hd:o.dst=some d) (hop:o.op=.call { callee:=.value (.func fC),args:=#[.tmp a,.tmp b],argTypes:=ats })
 (hq:∀ T u,Q T u->(T.getD a undef=L.val/\T.getD b undef=.slice A n cap)/\Ready L A n cap xs u)
 (kk:∀ B2 w2,(∀ j,j<N->B2 j=B j)->Sit XR gR N R (fun _=>False) B2 (fun T u=>∃ T0,Q T0 u/\T=Bh T0 (some d) (.int .i64 (L.score xs n))) (Bh T (some d) (.int .i64 (L.score xs n))) O w2 ->
  Co PP true (Lt N) (Dq PP W G) O (Bb (F f (Bh T (some d) (.int .i64 (L.score xs n))) (.inRegion ops l::k)) cs) w2) :
 Co PP true (Lt N) (Dq PP W G) O (Bb (F f T (.inRegion ops (i::l)::k)) cs) w:=by
 refine h.ctl rfl (fun w1=>Kl (fn:=Tryz.f15) (c:=Uc) ho hw hop IJ rfl rfl) ?_;refine .stop fun w1 hk al=>?_;have h1:=h.keep hk;obtain⟨r,T0,u,ok,hR,wr,hQ,gl,_,arr⟩:=h1.look 0;obtain⟨⟨ea,eb⟩,rd⟩:=hq T0 u hQ;have hu:VR XR.L r undef undef:=.tuple rfl fun i x y h=>by simp at h
 have va:=arr.getD a hu;have vb:=arr.getD b hu;rw[ea] at va;rw[eb] at vb;obtain⟨A1,G1,e1,hA1,hG1⟩:=Km va;obtain⟨A2,e2,hA2⟩:=CQ vb;have Q1:Quarter w1:=rd.quarter.over wr (gl 0 rfl);have L1:Lv.At { L with A:=A1,G:=G1 } w1:=⟨rd.lv.I.over wr hA1,rd.lv.J.over wr hG1,rd.lv.n,rd.lv.m,rd.lv.ca.over wr hA1,rd.lv.cg.over wr hG1⟩;rw[Qs,e1,e2];refine OO (L:={ L with A:=A1,G:=G1 }) (A:=A2) (xs:=xs) (W:=w1) Q1 L1 (rd.ins.over wr hA2) (rd.cel.over wr hA2) rd.small rd.room (Nat.le_trans hG h1.top) fun w2 lo=>?_;rw[show Lv.score { L with A:=A1,G:=G1 } xs n=L.score xs n from rfl,F5 (l:=l) _ ho,hd]
 have al2:Ren.Alike W w2:=al.trans ⟨lo.os,lo.tape,lo.output⟩;have h2:=h1.resume (w2:=w2) (O2:=O) (Nat.le_trans hG (Nat.le_trans h1.top lo.size)) (Nat.le_trans h1.top lo.size) (fun j hj=>lo.block j (hj.elim (h1.lt j) fun h=>Nat.lt_of_lt_of_le h h1.top)) (fun j hj=>hj) (fun j hj=>⟨h1.ge j hj,Nat.lt_of_lt_of_le (h1.lt j hj) lo.size⟩) (K2:=fun _=>False) (fun j hj=>hj.elim);refine Ren.Way.of_co (W:=W) (RO:=Lt N) (O:=O) ?_ al2 (fun j hj=>Nat.lt_of_lt_of_le hj h2.top);refine kk _ w2 (fun j hj=>(lo.block j (Nat.lt_of_lt_of_le hj h1.top)).trans (h1.base j (.inr hj))) ?_;exact h2.put (.int .i64 _) (some d) fun T u x=>⟨T,x,rfl⟩
theorem Ren.Sit.runScore(h:Sit XR gR N R (fun _=>False) B Q T O w)(hG:XR.G<=N){f:FuncId}{ops:Array Oper}{i:Nat}{l:List Nat}{k:List Item}{o:Oper}{a b d:Nat}{ats:Array TypeId}{L:Lv}{A:Option Addr}{n cap:Nat}{xs:List In}{cs:List Frame}
 (ho:ops[i]?=some o) (hg:o.guard=none) (hd:o.dst=some d) (hop:o.op=.call { callee:=.value (.func fC),args:=#[.tmp a,.tmp b],argTypes:=ats })
 (hq:∀ T u,Q T u->(T.getD a undef=L.val/\T.getD b undef=.slice A n cap)/\Ready L A n cap xs u)
 (kk:∀ B2 w2,(∀ j,j<N->B2 j=B j)->Sit XR gR N R (fun _=>False) B2 (fun T u=>∃ T0,Q T0 u/\T=Bh T0 (some d) (.int .i64 (L.score xs n))) (Bh T (some d) (.int .i64 (L.score xs n))) O w2 ->
  Co PP true (Lt N) (Dq PP W G) O (Bb (F f (Bh T (some d) (.int .i64 (L.score xs n))) (.inRegion ops l::k)) cs) w2) :
 Co PP true (Lt N) (Dq PP W G) O (Bb (F f T (.inRegion ops (i::l)::k)) cs) w:=h.runScoreW hG ho (by simp[Region.wanted,hg]) hd hop hq kk
end
end Go.Proofs.YtaemcekcancpdaaGreatDoor
