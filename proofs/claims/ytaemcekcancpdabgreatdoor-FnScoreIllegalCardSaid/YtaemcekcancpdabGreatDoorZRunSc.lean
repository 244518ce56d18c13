import Derived.Test.YtaemcekcancpdabGreatDoorZRunB
set_option linter.all false
set_option maxRecDepth 100000
set_option maxHeartbeats 8000000
open Go.Lib
namespace Go.Proofs.YtaemcekcancpdabGreatDoor
open Go.RowKit
open M
open Ren
open Go.Conc
noncomputable abbrev UC:Code:=EI Tryz.f10
noncomputable def e0:Code:=cA UC
noncomputable def e1:Code:=cA (cB UC)
noncomputable def eR:Code:=cB (cB UC)
theorem Ud:UC=.seq e0 (.seq e1 eR):=rfl
abbrev fC:FuncId:=10
theorem IP:PP.funcs[fC]?=some Tryz.f10:=Tryz.func10
theorem VU:XR.C e0:=by show AH PP CH CO e0=true; kernel_rfl
theorem VV:XR.C eR:=by show AH PP CH CO eR=true; kernel_rfl
theorem VW:∀ i∈[0,1,2,3],∀ o,(cO e1)[i]?=some o->OpOk XR gR o.op:=B8 (by kernel_rfl)
theorem Vv:∀ i∈[5,6,7,8,9,10],∀ o,(cO e1)[i]?=some o->OpOk XR gR o.op:=B8 (by kernel_rfl)
abbrev TC(J:Nat->Value):Array Value:=#[J 0,J 1,J 2,J 3,J 4,J 5,J 6,J 7,J 8,J 9,J 10,J 11,J 12,J 13,J 14,J 15,J 16,J 17,J 18,J 19,J 20,J 21,J 22,J 23]
theorem QI{T:Array Value}(h:T.size=24):T=TC fun n=>T.getD n undef:=by
 refine Array.ext h fun i h1 h2=>?_;have e:∀ n (hn:n<T.size),T.getD n undef=T[n]:=fun n hn=>by simp[Array.getD,hn]
 simp only[TC];have:i<24:=h▸h1
 iterate 24 (rcases i with _ | i; · exact(e _ _).symm)
 omega
theorem Ue(a b:Value):#[a,b]++Array.replicate 22 undef=#[a,b,undef,undef,undef,undef,undef,undef,undef,undef,undef,undef,undef,undef,undef,undef,undef,undef,undef,undef,undef,undef,undef,undef]:=by kernel_rfl
theorem Cel.veil{w u:World}{A:Option Addr}(h:Cel w A)(hp:Hp (vh w w.heap.size) u):Cel u A:=fun a ha=>by
 obtain⟨h1,c,t,f,h2⟩:=h a ha;have hl:a.block<w.heap.size:=(Array.getElem?_eq_some_iff.1 h2).1;refine⟨h1,c.map vl,t,(0,c.size),?_⟩;rw[hp.block _ (by rw[Dw (Nat.le_refl _)]; exact hl),Ft (Nat.le_refl _) hl,h2];rfl
theorem IQ{L:Lv}{A:Option Addr}{n cap:Nat}{xs:List In}{W u:World}(hQ:Quarter W)(hL:L.At W)(hY:Inputs W A n xs)(hA:Cel W A)(hn:n<=281474976710656)(hc:n<=cap)(hp:Hp (vh W W.heap.size) u):Ready L A n cap xs u :=
 ⟨⟨hL.I.veil hp,hL.J.veil hp,hL.n,hL.m,hL.ca.veil hp,hL.cg.veil hp⟩,hY.veil hp,hA.veil hp,hn,hc,hQ.veil hp⟩
structure Ea(L:Lv)(A:Option Addr)(n cap:Nat)(xs:List In)(b:Nat)(T:Array Value)(u:World):Prop where
 size:T.size=24
 t1:T.getD 1 undef=.slice A n cap
 t2:T.getD 2 undef=AJ b
 P:CellsAt u b L.cs
 rd:Ready L A n cap xs u
theorem Ea.hpo{L:Lv}{A:Option Addr}{n cap:Nat}{xs:List In}{b:Nat}:Hpo (Ea L A n cap xs b):=fun _ _ _ h e=>{ h with P:=h.P.same e,rd:=h.rd.same e }
structure Eb(c:Nat)(s:St)(ok:Bool)(T:Array Value)(u:World):Prop where
 size:T.size=24
 t5:T.getD 5 undef=AJ c
 t6:T.getD 6 undef=.bool ok
 S:CellsAt u c (svs s)
theorem Eb.hpo{c:Nat}{s:St}{ok:Bool}:Hpo (Eb c s ok):=fun _ _ _ h e=>{ h with S:=h.S.same e }
def OQ(s:St)(ok:Bool):Int:=if ok&&s.d then s.k else -1
def Lv.score(L:Lv)(xs:List In)(n:Nat):Int:=OQ (L.fin xs n n) (CW L xs n n)
section
variable {h0:Array Obj} {L:Lv} {A:Option Addr} {n cap:Nat} {xs:List In} {b c:Nat} {s:St} {ok:Bool} {T:Array Value} {w:World}
theorem x0{J:Nat->Value}(j0:J 0=L.val)(j1:J 1=.slice A n cap)(H:Ready L A n cap xs w):e0.wp Tryz.prog (fun e t u=>e=.normal/\t.defers=[]/\∃ b,Ea L A n cap xs b t.tmps u) ⟨TC J,[]⟩ w:=by
 rw[show e0=.region 0 _ false from rfl];go_wp;exact⟨rfl,rfl,w.heap.size,rfl,rfl,rfl,CellsAt.new w _ L.cs 29 rfl,H.step (Aa (Ac w) _)⟩
theorem x1(H:Ea L A n cap xs b T w):wpOps Tryz.prog (cO e1) (fun e t u=>e=.normal/\t.defers=[]/\(Ea L A n cap xs b t.tmps u/\t.tmps.getD 8 undef=L.val/\t.tmps.getD 9 undef=.slice A n cap/\t.tmps.getD 11 undef=.int .i64 (n:Int))) [0,1,2,3] ⟨T,[]⟩ w:=by
 obtain⟨J,rfl⟩:∃ J,T=TC J:=⟨_,QI H.size⟩;have j1:J 1=.slice A n cap:=H.t1;have j2:J 2=AJ b:=H.t2;have e:cO e1=#[_,_,_,_,_,_,_,_,_,_,_]:=rfl;rw[Ar (os:=[_,_,_,_]) rfl];simp only[e,List.getElem_toArray,List.getElem_cons_zero,List.getElem_cons_succ];refine Af rfl 29 (.tmp 2) rfl b j2 L.cs H.P Tryz.underlying29 rfl Ag ?_;go_wp;exact⟨rfl,rfl,⟨rfl,rfl,rfl,H.P,H.rd⟩,rfl,rfl,rfl⟩
theorem x2(H:T.size=24)(h12:T.getD 12 undef=.tuple #[sva s,.bool ok]):wpOps Tryz.prog (cO e1) (fun e t u=>e=.normal/\t.defers=[]/\∃ c,Eb c s ok t.tmps u) [5,6,7,8,9,10] ⟨T,[]⟩ w:=by
 obtain⟨J,rfl⟩:∃ J,T=TC J:=⟨_,QI H⟩;have j12:J 12=.tuple #[sva s,.bool ok]:=h12;have e:cO e1=#[_,_,_,_,_,_,_,_,_,_,_]:=rfl;rw[Ar (os:=[_,_,_,_,_,_]) rfl];simp only[e,List.getElem_toArray,List.getElem_cons_zero,List.getElem_cons_succ]
 iterate 12 go_step
 refine Ah rfl 35 (.tmp 5) (.tmp 13) rfl w.heap.size rfl (svs s) rfl _ (CellsAt.new w _ [_,_,_,_,_,_,_,_,_] 35 rfl) (Nat.le_refl _) Ad rfl ?_;intro w2 K S;go_wp;exact⟨rfl,rfl,w.heap.size,rfl,rfl,rfl,S⟩
theorem x3(H:Eb c s ok T w):eR.wp Tryz.prog (fun e t u=>t.defers=[]/\(e=.normal/\False\/e=.ret/\t.tmps.getD 4 undef=.int .i64 (OQ s ok))) ⟨T,[]⟩ w:=by
 obtain⟨J,rfl⟩:∃ J,T=TC J:=⟨_,QI H.size⟩;have j5:J 5=AJ c:=H.t5;have j6:J 6=.bool ok:=H.t6;rw[show eR=.seq (.seq (.region 2 _ false) (.cond (.tmp 21) (.seq (.region 3 _ false) .ret) .skip)) (.seq (.region 4 _ false) .ret) from rfl];cases ok
 . rw[show OQ s false=-1 from rfl];go_wp2
 . have s0:=H.S.cell 0 _ rfl;have s5:=H.S.cell 7 _ rfl;have sl:=H.S.lt;cases hd:s.d
   . rw[hd] at s5;have e:OQ s true=-1:=by simp[OQ,hd]
     rw[e];go_wp2
   . rw[hd] at s5;have e:OQ s true=s.k:=by simp[OQ,hd]
     rw[e];go_wp2
end
section
variable {W:World} {L:Lv} {A:Option Addr} {n cap:Nat} {xs:List In} {cs:List Frame} {c0:Frame} {G:Goroutine->World->Prop}
theorem OS(hQ:Quarter W)(hL:L.At W)(hY:Inputs W A n xs)(hA:Cel W A)(hn:n<=281474976710656)(hc:n<=cap)(hG:XR.G<=W.heap.size)
 (kk:∀ w',Below W.heap.size W w'->Ren.Way PP G (Bc (c0.finish (.int .i64 (L.score xs n))) cs) w') :
 Ren.Way PP G (Bc (Frame.enter PP fC #[L.val,.slice A n cap] .normal) (c0::cs)) W:=by
 refine Ren.Way.of_co (W:=W) (RO:=Lt W.heap.size) (O:=fun _=>False) ?_ (Ren.Alike.refl W) (fun j hj=>hj);have ha:ArrR XR.L (vr W W.heap.size) (#[L.val,.slice A n cap]++Array.replicate 22 undef) (#[L.val,.slice A n cap]++Array.replicate 22 undef) :=
  ((ArrR.one hL.self).push (BH hA)).append (.replicate _ (.tuple rfl fun i x y h=>by simp at h))
 have h:Sit XR gR W.heap.size (vr W W.heap.size) (fun _=>False) (fun j=>W.heap[j]?) (fun T u=>T=#[L.val,.slice A n cap]++Array.replicate 22 undef/\Ready L A n cap xs u) (#[L.val,.slice A n cap]++Array.replicate 22 undef) (fun _=>False) W :=
  Sit.start (Nat.le_refl _) hG (Eh hQ fun _ _=>rfl) (fun j h=>h.elim) ha ha (fun _ _=>rfl) (fun u hu=>⟨rfl,IQ hQ hL hY hA hn hc (Hp.refl hu)⟩)
 rw[EJ IP (c:=UC) rfl,Ud];refine h.ctl rfl (fun w1=>AE) ?_;refine h.wp AV AW AD (fun T u u' x e=>⟨x.1,x.2.same e⟩) nn (Au IP) VU (Q1:=fun T u=>∃ b,Ea L A n cap xs b T u) (fun T u x=>?_) fun T1 O1 y1 h1=>?_
 . rw[x.1,Ue];exact x0 (J:=fun z=>match z with | 0=>L.val | 1=>.slice A n cap | _=>undef) rfl rfl x.2
 obtain⟨b,h1⟩:=h1.split;refine h1.ctl rfl (fun w1=>AE) ?_;refine h1.ctl rfl (fun w1=>by rw[show e1=.region 1 (cO e1) false from rfl]; exact BG) ?_;refine h1.ops (l1:=[0,1,2,3]) (l2:=[4,5,6,7,8,9,10]) AV AW AD Ea.hpo nn (Au IP) VW (Q1:=fun T u=>Ea L A n cap xs b T u/\T.getD 8 undef=L.val/\T.getD 9 undef=.slice A n cap/\T.getD 11 undef=.int .i64 (n:Int)) (fun T u x=>x1 x) fun T2 O2 y2 h2=>?_;have hz:=h2.slot (i:=11) (.int .i64 (n:Int)) fun T u x=>x.2.2.2
 refine h2.runTo hG (i:=4) (l:=[5,6,7,8,9,10]) (d:=12) (z:=.tmp 11) (k0:=(n:Int)) (L:=L) (A:=A) (n:=n) (cap:=cap) (xs:=xs) rfl rfl rfl rfl (by exact hz) (fun T u x=>⟨⟨x.2.1,x.2.2.1⟩,x.1.rd⟩) fun B2 y3 hB h3=>?_;refine Sit.ops (l1:=[5,6,7,8,9,10]) (l2:=[]) (h3.mono (Q1:=fun T u=>T.size=24/\T.getD 12 undef=.tuple #[sva (L.fin xs n n),.bool (CW L xs n n)]) fun T u ⟨T0,x,e⟩=>?_) AV AW AD (fun T u u' x e=>x) nn (Au IP) Vv (Q1:=fun T u=>∃ c,Eb c (L.fin xs n n) (CW L xs n n) T u) (fun T u x=>x2 x.1 x.2) fun T4 O4 y4 h4=>?_
 . subst e;exact⟨size_put.trans x.1.size,BW (by rw[x.1.size]; omega)⟩
 obtain⟨c,h4⟩:=h4.split;refine h4.ctl rfl (fun w1=>Ci) ?_;refine h4.wp2 AV AW AD Eb.hpo nn (Au IP) VV (Q1:=fun _ _=>False) (Q2:=fun T u=>T.getD 4 undef=.int .i64 (L.score xs n)) (fun T u x=>x3 x) (fun T5 O5 y5 h5=>h5.fact fun _ _ x=>x.elim) (fun k T5 O5 y5 h5=>?_);refine h5.back (v:=.int .i64 (L.score xs n)) (fun T u u' x e=>x) (.int .i64 _) IP (fun T u x=>by rw[results_tmp (t:=4) rfl,x]) fun O6 y6 h6=>?_;exact .stop fun w1 hk al=>kk w1 (EH al (h6.keep hk) hB)
end
section
variable {N:Nat} {R:Rho} {B:Nat->Option Obj} {Q:Array Value->World->Prop} {T:Array Value} {O:Nat->Prop} {w W:World} {G:Goroutine->World->Prop}
theorem Ren.Sit.runScoreW(h:Sit XR gR N R (fun _=>False) B Q T O w)(hG:XR.G<=N){f:FuncId}{ops:Array Oper}{i:Nat}{l:List Nat}{k:List Item}{o:Oper}{a b d:Nat}{ats:Array TypeId}{L:Lv}{A:Option Addr}{n cap:Nat}{xs:List In}{cs:List Frame}
 (ho:ops[i]?=some o) (hw:Region.wanted o (yielded ops T)=true) (hd:o.dst=some d) (hop:o.op=.call { callee:=.value (.func fC),args:=#[.tmp a,.tmp b],argTypes:=ats })
 (hq:∀ T u,Q T u->(T.getD a undef=L.val/\T.getD b undef=.slice A n cap)/\Ready L A n cap xs u)
 (kk:∀ B2 w2,(∀ j,j<N->B2 j=B j)->Sit XR gR N R (fun _=>False) B2 (fun T u=>∃ T0,Q T0 u/\T=Bo T0 (some d) (.int .i64 (L.score xs n))) (Bo T (some d) (.int .i64 (L.score xs n))) O w2 ->
  Co PP true (Lt N) (Do PP W G) O (Bc (F f (Bo T (some d) (.int .i64 (L.score xs n))) (.inRegion ops l::k)) cs) w2) :
 Co PP true (Lt N) (Do PP W G) O (Bc (F f T (.inRegion ops (i::l)::k)) cs) w:=by
 refine h.ctl rfl (fun w1=>Ko (fn:=Tryz.f10) (c:=UC) ho hw hop IP rfl rfl) ?_;refine .stop fun w1 hk al=>?_;have h1:=h.keep hk;obtain⟨r,T0,u,ok,hR,wr,hQ,gl,_,arr⟩:=h1.look 0;obtain⟨⟨ea,eb⟩,rd⟩:=hq T0 u hQ;have hu:VR XR.L r undef undef:=.tuple rfl fun i x y h=>by simp at h
 have va:=arr.getD a hu;have vb:=arr.getD b hu;rw[ea] at va;rw[eb] at vb;obtain⟨A1,G1,e1,hA1,hG1⟩:=Kr va;obtain⟨A2,e2,hA2⟩:=CQ vb;have Q1:Quarter w1:=rd.quarter.over wr (gl 0 rfl);have L1:Lv.At { L with A:=A1,G:=G1 } w1:=⟨rd.lv.I.over wr hA1,rd.lv.J.over wr hG1,rd.lv.n,rd.lv.m,rd.lv.ca.over wr hA1,rd.lv.cg.over wr hG1⟩;rw[QH,e1,e2];refine OS (L:={ L with A:=A1,G:=G1 }) (A:=A2) (xs:=xs) (W:=w1) Q1 L1 (rd.ins.over wr hA2) (rd.cel.over wr hA2) rd.small rd.room (Nat.le_trans hG h1.top) fun w2 lo=>?_;rw[show Lv.score { L with A:=A1,G:=G1 } xs n=L.score xs n from rfl,FV (l:=l) _ ho,hd]
 have al2:Ren.Alike W w2:=al.trans ⟨lo.os,lo.tape,lo.output⟩;have h2:=h1.resume (w2:=w2) (O2:=O) (Nat.le_trans hG (Nat.le_trans h1.top lo.size)) (Nat.le_trans h1.top lo.size) (fun j hj=>lo.block j (hj.elim (h1.lt j) fun h=>Nat.lt_of_lt_of_le h h1.top)) (fun j hj=>hj) (fun j hj=>⟨h1.ge j hj,Nat.lt_of_lt_of_le (h1.lt j hj) lo.size⟩) (K2:=fun _=>False) (fun j hj=>hj.elim);refine Ren.Way.of_co (W:=W) (RO:=Lt N) (O:=O) ?_ al2 (fun j hj=>Nat.lt_of_lt_of_le hj h2.top);refine kk _ w2 (fun j hj=>(lo.block j (Nat.lt_of_lt_of_le hj h1.top)).trans (h1.base j (.inr hj))) ?_;exact h2.put (.int .i64 _) (some d) fun T u x=>⟨T,x,rfl⟩
theorem Ren.Sit.runScore(h:Sit XR gR N R (fun _=>False) B Q T O w)(hG:XR.G<=N){f:FuncId}{ops:Array Oper}{i:Nat}{l:List Nat}{k:List Item}{o:Oper}{a b d:Nat}{ats:Array TypeId}{L:Lv}{A:Option Addr}{n cap:Nat}{xs:List In}{cs:List Frame}
 (ho:ops[i]?=some o) (hg:o.guard=none) (hd:o.dst=some d) (hop:o.op=.call { callee:=.value (.func fC),args:=#[.tmp a,.tmp b],argTypes:=ats })
 (hq:∀ T u,Q T u->(T.getD a undef=L.val/\T.getD b undef=.slice A n cap)/\Ready L A n cap xs u)
 (kk:∀ B2 w2,(∀ j,j<N->B2 j=B j)->Sit XR gR N R (fun _=>False) B2 (fun T u=>∃ T0,Q T0 u/\T=Bo T0 (some d) (.int .i64 (L.score xs n))) (Bo T (some d) (.int .i64 (L.score xs n))) O w2 ->
  Co PP true (Lt N) (Do PP W G) O (Bc (F f (Bo T (some d) (.int .i64 (L.score xs n))) (.inRegion ops l::k)) cs) w2) :
 Co PP true (Lt N) (Do PP W G) O (Bc (F f T (.inRegion ops (i::l)::k)) cs) w:=h.runScoreW hG ho (by simp[Region.wanted,hg]) hd hop hq kk
end
end Go.Proofs.YtaemcekcancpdabGreatDoor
namespace Go.Proofs.YtaemcekcancpdabGreatDoor
open Go.RowKit
open M
theorem SJ{L:Lv}{xs:List In}{k:Nat}:CW L xs k (k:Int)=decide (DC L.i L.t L.x L.y L.ws L.gs L.fp L.fq L.fs L.fz L.b xs=-1):=by
 simp[CW]
theorem OT(L:Lv)(D:Option Addr)(k cc:Nat)(xs:List In)(w:World)(I:Boxes w L.A L.n L.ws)(J:Boxes w L.G L.m L.gs)(hn:L.n<=281474976710656)(hm:L.m<=281474976710656)(Y:Inputs w D k xs)(hk:k<=1000) :
 Calls Tryz.prog 11 #[L.val,.slice D k cc] w fun e w'=>e=.returned (.int .i64 (L.score xs k))/\Below w.heap.size w w':=by
 have hl:=Y.1;have P:CellsAt (w.alloc (.cells #[.int .i64 L.i,.int .i64 L.t,.int .i64 L.x,.int .i64 L.y,.slice L.A L.n L.c,.slice L.G L.m L.kk,.int .i64 L.fp,.int .i64 L.fq,.int .i64 L.fs,.int .i64 L.fz,.int .i64 L.b] 29)) w.heap.size L.cs:=CellsAt.new w _ _ _ rfl;have V:=hid (LG L D k cc xs (w.alloc (.cells #[.int .i64 L.i,.int .i64 L.t,.int .i64 L.x,.int .i64 L.y,.slice L.A L.n L.c,.slice L.G L.m L.kk,.int .i64 L.fp,.int .i64 L.fq,.int .i64 L.fs,.int .i64 L.fz,.int .i64 L.b] 29)) (I.alloc _) (J.alloc _) hn hm (Y.alloc _) (by omega))
 have H:=hid (Aa (Ac w) (.cells #[.int .i64 L.i,.int .i64 L.t,.int .i64 L.x,.int .i64 L.y,.slice L.A L.n L.c,.slice L.G L.m L.kk,.int .i64 L.fp,.int .i64 L.fq,.int .i64 L.fs,.int .i64 L.fz,.int .i64 L.b] 29));have I:=hid I;have J:=hid J;have Y:=hid Y;have e0:=SJ (L:=L) (xs:=xs) (k:=k);go_enter Tryz.func11,Tryz.ntmps11;go_upto_region 1 with fail;refine wp_region_lit ?_;refine Af rfl 29 (.tmp 2) rfl w.heap.size rfl L.cs P Tryz.underlying29 rfl Ag ?_;go_wp;refine V.out.mono ?_;rintro e w1 ⟨rfl,B⟩;have P:=P.step B;replace H:=hid (Ab H.out B);clear B V;dsimp only
 cases hI:decide (DC L.i L.t L.x L.y L.ws L.gs L.fp L.fq L.fs L.fz L.b xs=-1)
 . have E:=hid (show L.score xs k=-1 by rw[Lv.score,e0,hI]; rfl);clear hI e0;go_wp2;go_ret;exact⟨by rw[E.out]; rfl,H.out⟩
 . have hok:CW L xs k (k:Int)=true:=e0.trans hI;obtain⟨_,hlv,hlg⟩:=CB.1 hok;have er:=(IM hl hok).1;obtain⟨⟨hb,hx⟩,hy⟩:=S5 hlv;have E:=hid (show L.score xs k=if (toS L.ws L.gs L.fp L.fq L.fs L.fz ⟨0,L.x,L.y,0,0,0,0,false,false⟩ (xs.take k)).d then (toS L.ws L.gs L.fp L.fq L.fs L.fz ⟨0,L.x,L.y,0,0,0,0,false,false⟩ (xs.take k)).k else -1 by
    have f1:L.fin xs k k=toS L.ws L.gs L.fp L.fq L.fs L.fz ⟨0,L.x,L.y,0,0,0,0,false,false⟩ (xs.take k):=by unfold Lv.fin; rw[if_pos hok]; exact er
    rw[Lv.score,hok,f1];simp[OQ])
   have vx:VIn xs:=(LF L.t L.b xs 0 0 0 (by omega) hlg).1;have T:=hid (QP L.i L.t L.x L.y L.A L.n L.c L.G L.m L.kk L.fp L.fq L.fs L.fz L.b L.ws L.gs D k cc xs k w1 (I.out.step H.out) (J.out.step H.out) (Y.out.step H.out) hb hn hm hk (Nat.le_refl _) vx hx hy);clear hI hok er vx hlg hlv I J Y e0;generalize toS L.ws L.gs L.fp L.fq L.fs L.fz ⟨0,L.x,L.y,0,0,0,0,false,false⟩ (xs.take k)=s at *;go_upto_region 3 with fail;refine wp_region_lit ?_;refine Af rfl 29 (.tmp 2) rfl w.heap.size rfl L.cs P Tryz.underlying29 rfl Ag ?_;go_wp;refine T.out.mono ?_;rintro e w2 ⟨rfl,B⟩;replace H:=hid (Ab H.out B);clear B T P;dsimp only
   iterate 4 go_step
   have hz:=H.out.size;refine Ah rfl 35 (.tmp 5) (.tmp 14) rfl w2.heap.size rfl (svs s) rfl _ (CellsAt.new w2 _ [_,_,_,_,_,_,_,_,_] 35 rfl) (Nat.le_refl _) Ad rfl ?_;intro w3 K S;have H:=hid (Am (Aa H.out (.cells #[.int .i64 0,.int .i64 0,.int .i64 0,.int .i64 0,.int .i64 0,.int .i64 0,.int .i64 0,.bool false,.bool false] 35)) K hz);have s0:=S.cell 0 _ rfl;have s7:=S.cell 7 _ rfl;have sl:=S.lt;clear K;cases hd:s.d
   . rw[hd] at s7 E;clear hd;go_wp2;go_ret;exact⟨by rw[E.out]; rfl,H.out⟩
   . rw[hd] at s7 E;clear hd;go_wp2;go_ret;exact⟨by rw[E.out]; rfl,H.out⟩
open Go.RowKit
open M
open Ren
open Go.Conc
open Go.RowKit
open M
open Ren
open Go.Conc
theorem Ux{ops:Array Oper}{T:Array Value}{o oj:Oper}{j d:Nat}{b:Bool}(hg:o.guard=some (j,b))(hj:ops[j]?=some oj)(hd:oj.dst=some d)(hv:T.getD d undef=.bool b):Region.wanted o (yielded ops T)=true:=by
 have h:T[d]?=some (.bool b):=by
  rw[Array.getD_eq_getD_getElem?] at hv;cases h:T[d]? with
  | none=>rw[h] at hv; cases hv
  | some x=>rw[h] at hv; exact congrArg some hv
 unfold Region.wanted;rw[hg];have:yielded ops T j=some b:=by
  unfold yielded;rw[hj];simp[hd,h]
 simp[this]
structure Uh(h0:Array Obj)(sz:Nat)(L:Lv)(D:Option Addr)(N cc:Nat)(xs:List In)(b:Nat)(T:Array Value)(u:World):Prop where
 size:T.size=sz
 t3:T.getD 3 undef=AJ b
 t4:T.getD 4 undef=.slice D N cc
 P:CellsAt u b L.cs
 rd:Ready L D N cc xs u
 lo:Low L D b
 hp:Hp h0 u
 lb:h0.size<=b
 bp:0<b
 sm:N<=63
theorem Uh.hpo{h0:Array Obj}{sz:Nat}{L:Lv}{D:Option Addr}{N cc:Nat}{xs:List In}{b:Nat}:Hpo (Uh h0 sz L D N cc xs b):=fun _ _ _ h e=>{ h with P:=h.P.same e,rd:=h.rd.same e,hp:=h.hp.same e }
structure Uo(h0:Array Obj)(sz:Nat)(L:Lv)(D:Option Addr)(N cc:Nat)(xs:List In)(b:Nat)(v:Int)(T:Array Value)(u:World):Prop extends Uh h0 sz L D N cc xs b T u where
 t5:T.getD 5 undef=.int .i64 v
theorem Uo.hpo{h0:Array Obj}{sz:Nat}{L:Lv}{D:Option Addr}{N cc:Nat}{xs:List In}{b:Nat}{v:Int}:Hpo (Uo h0 sz L D N cc xs b v):=fun _ _ _ h e=>{ h with P:=h.P.same e,rd:=h.rd.same e,hp:=h.hp.same e }
theorem Uo.put{h0:Array Obj}{sz:Nat}{L:Lv}{D:Option Addr}{N cc:Nat}{xs:List In}{b d:Nat}{v:Int}{T:Array Value}{u:World}(x:Uo h0 sz L D N cc xs b v T u)(hd:5<d)(z:Value):Uo h0 sz L D N cc xs b v (Bo T (some d) z) u :=
 ⟨⟨size_put.trans x.size,(Ay (by omega)).trans x.t3,(Ay (by omega)).trans x.t4,x.P,x.rd,x.lo,x.hp,x.lb,x.bp,x.sm⟩,(Ay (by omega)).trans x.t5⟩
theorem Uo.at{h0:Array Obj}{sz:Nat}{L:Lv}{D:Option Addr}{N cc:Nat}{xs:List In}{b:Nat}{v:Int}{T:Array Value}{u u':World}(x:Uo h0 sz L D N cc xs b v T u)(B:Below u.heap.size u u'):Uo h0 sz L D N cc xs b v T u':={ x with P:=x.P.step B,rd:=x.rd.step B,hp:=x.hp.step B }
theorem Uh.put{h0:Array Obj}{sz:Nat}{L:Lv}{D:Option Addr}{N cc:Nat}{xs:List In}{b d:Nat}{T:Array Value}{u:World}(x:Uh h0 sz L D N cc xs b T u)(hd:4<d)(z:Value):Uh h0 sz L D N cc xs b (Bo T (some d) z) u :=
 ⟨size_put.trans x.size,(Ay (by omega)).trans x.t3,(Ay (by omega)).trans x.t4,x.P,x.rd,x.lo,x.hp,x.lb,x.bp,x.sm⟩
end Go.Proofs.YtaemcekcancpdabGreatDoor
namespace Go.Proofs.YtaemcekcancpdabGreatDoor
open Go.RowKit
open M
abbrev Lv.at(L:Lv)(xs:List In)(j:Nat):St:=L.run (xs.take j)
end Go.Proofs.YtaemcekcancpdabGreatDoor
