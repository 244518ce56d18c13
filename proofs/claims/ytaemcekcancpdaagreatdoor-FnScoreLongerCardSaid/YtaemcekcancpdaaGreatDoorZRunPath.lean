import Derived.Test.YtaemcekcancpdaaGreatDoorZRunSc
set_option linter.all false
set_option maxRecDepth 100000
set_option maxHeartbeats 8000000
open Go.Lib
namespace Go.Proofs.YtaemcekcancpdaaGreatDoor
open Go.RowKit
open M
open Ren
open Go.Conc
abbrev DI(s:St):Pt:=⟨s.ax,s.ay⟩
theorem GM:∀(ps:List Pt) (x:Value),x∈Dv ps->Plain x
 | [],x,h=>by cases h
 | q::ps,x,h=>by
  simp only[Dv,List.mem_cons] at h;rcases h with rfl | rfl | h
  . exact .int _ _
  . exact .int _ _
  . exact GM ps x h
namespace path
noncomputable abbrev hB:Code:=Dr Tryz.f13
noncomputable def q0:Code:=cA hB
noncomputable def q1:Code:=cA (cB hB)
noncomputable def q2:Code:=cA (cA (cB (cB hB)))
noncomputable def q3:Code:=match cB (cA (cB (cB hB))) with | .cond _ x _=>cA x | _=>.skip
noncomputable def qC:Code:=cB (cB (cB hB))
noncomputable def q4:Code:=cA (cA qC)
noncomputable def qL:Code:=cI (cI (cB (cA qC)))
noncomputable def q5:Code:=cA qL
noncomputable def q6:Code:=cA (cI (cB (cB qL)))
noncomputable def q7:Code:=cB (cI (cB (cB qL)))
noncomputable def q8:Code:=cA (cB qC)
theorem UG:hB=.seq q0 (.seq q1 (.seq (.seq q2 (.cond (.tmp 11) (.seq q3 .ret) .skip)) qC)):=rfl
theorem UH:qC=.seq (.seq q4 (.block 0 (.loop qL))) (.seq q8 .ret):=rfl
theorem UI:qL=Tv 5 17 1 (cO q5) (.seq q6 q7):=rfl
abbrev fH:FuncId:=13
theorem fH_at:PP.funcs[fH]?=some Tryz.f13:=Tryz.func13
theorem k0:XR.C q0:=by show AH PP Ck Cn q0=true; kernel_rfl
theorem k1:XR.C q1:=by show AH PP Ck Cn q1=true; kernel_rfl
theorem k2:XR.C q2:=by show AH PP Ck Cn q2=true; kernel_rfl
theorem k3:XR.C q3:=by show AH PP Ck Cn q3=true; kernel_rfl
theorem k6:XR.C q6:=by show AH PP Ck Cn q6=true; kernel_rfl
theorem k7:XR.C q7:=by show AH PP Ck Cn q7=true; kernel_rfl
theorem k8:XR.C q8:=by show AH PP Ck Cn q8=true; kernel_rfl
theorem o4:∀ i∈[0,1],∀ o,(cO q4)[i]?=some o->OpOk XR gR o.op:=Bz (by kernel_rfl)
theorem o5:∀ i∈[1],∀ o,(cO q5)[i]?=some o->OpOk XR gR o.op:=Bz (by kernel_rfl)
abbrev TQ(J:Nat->Value):Array Value:=#[J 0,J 1,J 2,J 3,J 4,J 5,J 6,J 7,J 8,J 9,J 10,J 11,J 12,J 13,J 14,J 15,J 16,J 17,J 18,J 19,J 20,J 21,J 22,J 23,J 24]
theorem Hd{T:Array Value}(h:T.size=25):T=TQ fun n=>T.getD n undef:=by
 refine Array.ext h fun i h1 h2=>?_;have e:∀ n (hn:n<T.size),T.getD n undef=T[n]:=fun n hn=>by simp[Array.getD,hn]
 simp only[TQ];have:i<25:=h▸h1
 iterate 25 (rcases i with _ | i; · exact(e _ _).symm)
 omega
theorem Sm(a b:Value):#[a,b]++Array.replicate 23 undef=#[a,b,undef,undef,undef,undef,undef,undef,undef,undef,undef,undef,undef,undef,undef,undef,undef,undef,undef,undef,undef,undef,undef,undef,undef]:=by kernel_rfl
structure Ga(N:Nat)(L:Lv)(A:Option Addr)(n cap:Nat)(xs:List In)(b:Nat)(T:Array Value)(u:World):Prop where
 size:T.size=25
 t1:T.getD 1 undef=.slice A n cap
 t2:T.getD 2 undef=AA b
 P:CellsAt u b L.cs
 rd:Ready L A n cap xs u
 top:N<=u.heap.size
theorem Ga.hpo{N:Nat}{L:Lv}{A:Option Addr}{n cap:Nat}{xs:List In}{b:Nat}:Hpo (Ga N L A n cap xs b):=fun _ _ _ h e=>{ h with P:=h.P.same e,rd:=h.rd.same e,top:=e▸h.top }
structure Gb(N:Nat)(L:Lv)(A:Option Addr)(n cap:Nat)(xs:List In)(b:Nat)(T:Array Value)(u:World):Prop extends Ga N L A n cap xs b T u where
 row:∃ v:Value,T.getD 5 undef=v/\v.ownBlock≠none/\u.ownsRow N 24 2 v 0 (Dv [])
theorem II{w w':World}{base:Nat}{e:TypeId}{sz n:Nat}{v:Value}{xs:List Value}(h:w.ownsRow base e sz v n xs)(k:w'.heap=w.heap):w'.ownsRow base e sz v n xs:=⟨h.1,by rw[k]; exact h.2⟩
theorem Gb.hpo{N:Nat}{L:Lv}{A:Option Addr}{n cap:Nat}{xs:List In}{b:Nat}:Hpo (Gb N L A n cap xs b):=fun _ _ _ h e=>⟨Ga.hpo _ _ _ h.toGa e,by
 obtain⟨v,h1,h2,h3⟩:=h.row;exact⟨v,h1,h2,II h3 e⟩⟩
structure Gl(N k:Nat)(pre:List St)(T:Array Value)(u:World):Prop where
 size:T.size=25
 tc:T.getD 15 undef=.chan (some k)
 row:∃ v:Value,T.getD 5 undef=v/\v.ownBlock≠none/\u.ownsRow N 24 2 v pre.length (Dv (pre.map DI))
 top:N<=u.heap.size
theorem Gl.hpo{N k:Nat}{pre:List St}:Hpo (Gl N k pre):=fun _ _ _ h e=>⟨h.size,h.tc,by
 obtain⟨v,h1,h2,h3⟩:=h.row;exact⟨v,h1,h2,II h3 e⟩,e▸h.top⟩
theorem Gl.put{N k:Nat}{pre:List St}{T:Array Value}{u:World}(v:Value)(h:Gl N k pre T u):Gl N k pre (Bh T (some 16) v) u/\(Bh T (some 16) v).getD 16 undef=v :=
 ⟨⟨size_put.trans h.size,(Aj (by omega)).trans h.tc,by
  obtain⟨v,h1,h2,h3⟩:=h.row;exact⟨v,(Aj (by omega)).trans h1,h2,h3⟩,h.top⟩,A8 (by rw[h.size]; omega)⟩
structure Gm(N k:Nat)(pre:List St)(s:St)(e:Nat)(T:Array Value)(u:World):Prop extends Gl N k pre T u where
 ts:T.getD 6 undef=AA e
 S:CellsAt u e (svs s)
theorem Gm.hpo{N k:Nat}{pre:List St}{s:St}{e:Nat}:Hpo (Gm N k pre s e):=fun _ _ _ h e=>⟨Gl.hpo _ _ _ h.toGl e,h.ts,h.S.same e⟩
structure Gr(N:Nat)(pre:List St)(T:Array Value)(u:World):Prop where
 row:∃ v:Value,T.getD 4 undef=v/\v.ownBlock≠none/\u.ownsRow N 24 2 v pre.length (Dv (pre.map DI))
theorem Gr.hpo{N:Nat}{pre:List St}:Hpo (Gr N pre):=fun _ _ _ h e=>⟨by
 obtain⟨v,h1,h2,h3⟩:=h.row;exact⟨v,h1,h2,II h3 e⟩⟩
section
variable {N:Nat} {L:Lv} {A:Option Addr} {n cap:Nat} {xs:List In} {b k e:Nat} {s:St} {pre:List St} {ok:Bool} {T:Array Value} {w:World}
theorem x0{J:Nat->Value}(j0:J 0=L.val)(j1:J 1=.slice A n cap)(H:Ready L A n cap xs w)(hN:N<=w.heap.size):q0.wp Tryz.prog (fun e t u=>e=.normal/\t.defers=[]/\∃ b,Ga N L A n cap xs b t.tmps u) ⟨TQ J,[]⟩ w:=by
 rw[show q0=.region 0 _ false from rfl];go_wp;have B:=Aa (Ac w) (.cells #[.int .i64 L.i,.int .i64 L.t,.int .i64 L.x,.int .i64 L.y,.slice L.A L.n L.c,.slice L.G L.m L.kk,.int .i64 L.fp,.int .i64 L.fq,.int .i64 L.fs,.int .i64 L.fz,.int .i64 L.b] 29);have hs:=B.size;exact⟨rfl,rfl,w.heap.size,rfl,rfl,rfl,CellsAt.new w _ L.cs 29 rfl,H.step B,by omega⟩
theorem x1(H:Ga N L A n cap xs b T w):q1.wp Tryz.prog (fun e t u=>e=.normal/\t.defers=[]/\Gb N L A n cap xs b t.tmps u) ⟨T,[]⟩ w:=by
 obtain⟨J,rfl⟩:∃ J,T=TQ J:=⟨_,Hd H.size⟩;have j1:J 1=.slice A n cap:=H.t1;have j2:J 2=AA b:=H.t2;rw[show q1=.region 1 _ false from rfl];go_wp;have B:=Aa (Ac w) (.cells #[] 24);have hs:=B.size;have hN:=H.top;exact⟨rfl,rfl,⟨rfl,rfl,rfl,H.P.step B,H.rd.step B,by omega⟩,_,rfl,by simp[Value.ownBlock],JI w N _ rfl hN⟩
theorem x2(H:Gb N L A n cap xs b T w):q2.wp Tryz.prog (fun e t u=>e=.normal/\t.defers=[]/\(Gb N L A n cap xs b t.tmps u/\t.tmps.getD 11 undef=.bool (!B8 L xs n n))) ⟨T,[]⟩ w:=by
 obtain⟨J,rfl⟩:∃ J,T=TQ J:=⟨_,Hd H.size⟩;have j1:J 1=.slice A n cap:=H.t1;have j2:J 2=AA b:=H.t2;obtain⟨v,h1,h2,h3⟩:=H.row;have j5:J 5=v:=h1;have C:=hid (JB L A n cap xs w H.rd.lv.I H.rd.lv.J H.rd.lv.n H.rd.lv.m H.rd.ins H.rd.small);rw[show q2=.region 2 _ false from rfl];apply wp_region_lit;refine Af rfl 29 (.tmp 2) rfl b j2 L.cs H.P Tryz.underlying29 rfl Ad ?_;go_wp;refine C.out.mono ?_;rintro e w1 ⟨rfl,B⟩;dsimp only;go_wp;have hs:=B.size;have hN:=H.top;refine⟨rfl,rfl,⟨⟨rfl,rfl,rfl,H.P.step B,H.rd.step B,by omega⟩,v,rfl,h2,Cp h3 B⟩,?_⟩;simp[B8]
theorem x3(H:Gb N L A n cap xs b T w):q3.wp Tryz.prog (fun e t u=>e=.normal/\t.defers=[]/\Gr N [] t.tmps u) ⟨T,[]⟩ w:=by
 obtain⟨J,rfl⟩:∃ J,T=TQ J:=⟨_,Hd H.size⟩;obtain⟨v,h1,h2,h3⟩:=H.row;have j5:J 5=v:=h1;rw[show q3=.region 3 _ false from rfl];go_wp;exact⟨rfl,rfl,v,rfl,h2,h3⟩
theorem x4(H:Gb N L A n cap xs b T w):wpOps Tryz.prog (cO q4) (fun e t u=>e=.normal/\t.defers=[]/\(Gb N L A n cap xs b t.tmps u/\t.tmps.getD 13 undef=L.val/\t.tmps.getD 14 undef=.slice A n cap)) [0,1] ⟨T,[]⟩ w:=by
 obtain⟨J,rfl⟩:∃ J,T=TQ J:=⟨_,Hd H.size⟩;have j1:J 1=.slice A n cap:=H.t1;have j2:J 2=AA b:=H.t2;obtain⟨v,h1,h2,h3⟩:=H.row;have j5:J 5=v:=h1;have e:cO q4=#[_,_,_]:=rfl;rw[Ah (os:=[_,_]) rfl];simp only[e,List.getElem_toArray,List.getElem_cons_zero,List.getElem_cons_succ];refine Af rfl 29 (.tmp 2) rfl b j2 L.cs H.P Tryz.underlying29 rfl Ad ?_;go_wp;exact⟨rfl,rfl,⟨⟨rfl,rfl,rfl,H.P,H.rd,H.top⟩,v,rfl,h2,h3⟩,rfl,rfl⟩
theorem Gl.first(x:Gb N L A n cap xs b T w)(k:Nat):Gl N k [] (Bh T (some 15) (.chan (some k))) w :=
 ⟨size_put.trans x.size,A8 (by rw[x.size]; omega),by
  obtain⟨v,h1,h2,h3⟩:=x.row;exact⟨v,(Aj (by omega)).trans h1,h2,h3⟩,x.top⟩
theorem x5{v:Value}(H:Gl N k pre T w)(h:T.getD 16 undef=.tuple #[v,.bool ok]):wpOps Tryz.prog (cO q5) (fun e t u=>e=.normal/\t.defers=[]/\(Gl N k pre t.tmps u/\t.tmps.getD 16 undef=.tuple #[v,.bool ok])/\t.tmps.getD 17 undef=.bool ok) [1] ⟨T,[]⟩ w:=by
 obtain⟨J,rfl⟩:∃ J,T=TQ J:=⟨_,Hd H.size⟩;have jc:J 15=.chan (some k):=H.tc;have jt:J 16=.tuple #[v,.bool ok]:=h;obtain⟨v5,h1,h2,h3⟩:=H.row;have j5:J 5=v5:=h1;have e:cO q5=#[_,_]:=rfl;rw[Ah (os:=[_]) rfl];simp only[e,List.getElem_toArray,List.getElem_cons_zero,List.getElem_cons_succ];go_wp;exact⟨rfl,rfl,⟨⟨rfl,rfl,⟨v5,rfl,h2,h3⟩,H.top⟩,rfl⟩,rfl⟩
theorem x6(H:Gl N k pre T w)(h:T.getD 16 undef=.tuple #[sva s,.bool ok]):q6.wp Tryz.prog (fun e t u=>e=.normal/\t.defers=[]/\∃ e,Gm N k pre s e t.tmps u) ⟨T,[]⟩ w:=by
 obtain⟨J,rfl⟩:∃ J,T=TQ J:=⟨_,Hd H.size⟩;have jc:J 15=.chan (some k):=H.tc;have jt:J 16=.tuple #[sva s,.bool ok]:=h;obtain⟨v5,h1,h2,h3⟩:=H.row;have j5:J 5=v5:=h1;rw[show q6=.region 6 _ false from rfl];apply wp_region_lit
 iterate 6 go_step
 refine Ai rfl 34 (.tmp 6) (.tmp 18) rfl w.heap.size rfl (svs s) rfl _ (CellsAt.new w _ [_,_,_,_,_,_,_,_,_] 34 rfl) (Nat.le_refl _) Ae rfl ?_;intro w2 K Y;go_wp;have B2:=Aa (Ac w) (.cells #[.int .i64 0,.int .i64 0,.int .i64 0,.int .i64 0,.int .i64 0,.int .i64 0,.int .i64 0,.bool false,.bool false] 34);have h4:=B2.size;have h5:=K.size;have h6:=H.top;have hO:w2.ownsRow N 24 2 v5 pre.length (Dv (pre.map DI)):=(Cp h3 B2).kept K.grows (.inr fun he=>by
  have:=(h3.lt _ he).2;omega)
 exact⟨rfl,rfl,w.heap.size,⟨rfl,rfl,⟨v5,rfl,h2,hO⟩,by omega⟩,rfl,Y⟩
theorem x7(H:Gm N k pre s e T w)(hl:pre.length<=1000000):q7.wp Tryz.prog (fun e t u=>e=.normal/\t.defers=[]/\Gl N k (pre++[s]) t.tmps u) ⟨T,[]⟩ w:=by
 obtain⟨J,rfl⟩:∃ J,T=TQ J:=⟨_,Hd H.size⟩;have jc:J 15=.chan (some k):=H.tc;have je:J 6=AA e:=H.ts;obtain⟨v5,h1,h2,h3⟩:=H.row;have j5:J 5=v5:=h1;have s1:=H.S.cell 1 _ rfl;have s2:=H.S.cell 2 _ rfl;have sl:=H.S.lt;have hN:=H.top;rw[show q7=.region 7 _ false from rfl];apply wp_region_lit
 iterate 12 go_step
 have B:=Aa (Ac w) (.cells #[.int .i64 s.ax,.int .i64 s.ay] 24);have hs:=B.size;refine IY _ rfl _ _ rfl N v5 pre.length (pre.map DI) rfl (Cp h3 B) (some ⟨w.heap.size,0,none⟩) 1 1 [⟨s.ax,s.ay⟩] rfl (Points.one w _ _ _ _ rfl) (by omega) (by omega) ?_;intro v' w' O G hB;go_wp;have hs2:=G.size;refine⟨rfl,rfl,rfl,rfl,⟨v',rfl,?_,?_⟩,by omega⟩
 . rcases hB with hB | hB
   . rw[hB]; exact h2
   . rw[hB]; exact fun e=>by cases e
 . have:=O;simpa using this
theorem x8(H:Gl N k pre T w):q8.wp Tryz.prog (fun e t u=>e=.normal/\t.defers=[]/\Gr N pre t.tmps u) ⟨T,[]⟩ w:=by
 obtain⟨J,rfl⟩:∃ J,T=TQ J:=⟨_,Hd H.size⟩;obtain⟨v,h1,h2,h3⟩:=H.row;have j5:J 5=v:=h1;rw[show q8=.region 8 _ false from rfl];go_wp;exact⟨rfl,rfl,v,rfl,h2,h3⟩
theorem SC:RecvL k 15 16 17 fH Tryz.f13 (cO q5) (Gl N k) where
 fat:=fH_at
 range:=rfl
 op:=⟨_,rfl,rfl,rfl,rfl⟩
 ok1:=o5
 hpo:=fun pre=>Gl.hpo
 chan:=fun x=>x.tc
 put:=fun v x=>x.put v
 two:=fun x h=>x5 x h
theorem Gr.split{R:Rho}{K:Nat->Prop}{B:Nat->Option Obj}{O:Nat->Prop}(h:Sit XR gR N R K B (Gr N pre) T O w):∃ g c,N<=g/\pre.length<=c/\Sit XR gR N R K B (fun T u=>T.getD 4 undef=.slice (some ⟨g,0,none⟩) pre.length c/\∃ cur,u.heap[g]?=some (.cells cur 24 (0,0))/\((Dv (pre.map DI))).toArray.size<=cur.size/\∀(i:Nat) (x:Value),((Dv (pre.map DI))).toArray[i]?=some x->cur[i]?=some x) T O w:=by
 have h1:=h.mono (Q1:=fun T u=>∃ g c,(N<=g/\pre.length<=c)/\T.getD 4 undef=.slice (some ⟨g,0,none⟩) pre.length c/\∃ cur,u.heap[g]?=some (.cells cur 24 (0,0))/\((Dv (pre.map DI))).toArray.size<=cur.size/\∀(i:Nat) (x:Value),((Dv (pre.map DI))).toArray[i]?=some x->cur[i]?=some x) fun T u x=>by
  obtain⟨v,h1,h2,h3,h4⟩:=x.row;rcases h4 with⟨rfl,_⟩ | ⟨g,c,cur,rfl,hg,hh,hc,_,hs,ht⟩
  . exact absurd rfl h2
  . refine⟨g,c,⟨hg,hc⟩,h1,cur,hh,?_,fun i x hx=>?_⟩
    . rw[<- ht];simp only[List.size_toArray,List.length_take,Array.length_toList];omega
    . rw[<- ht,List.getElem?_toArray,List.getElem?_take] at hx;split at hx
      . simpa using hx
      . cases hx
 obtain⟨g,h1⟩:=h1.split;obtain⟨c,h1⟩:=h1.split;exact⟨g,c,h1.fact fun T u x=>x.1.1,h1.fact fun T u x=>x.1.2,h1.mono fun T u x=>x.2⟩
end
section
variable {W:World} {L:Lv} {A:Option Addr} {n cap:Nat} {xs:List In} {cs:List Frame} {c0:Frame} {G:Goroutine->World->Prop}
abbrev sts(L:Lv)(xs:List In)(n:Nat):List St:=if B8 L xs n n then L.s0::L.stl L.s0 xs else []
theorem wayF(hQ:Quarter W)(hL:L.At W)(hY:Inputs W A n xs)(hA:Cel W A)(hn:n<=100000)(hc:n<=cap)(hG:XR.G<=W.heap.size)
 (kk:∀ w' j c o,Below W.heap.size W w'->(sts L xs n).length<=c->W.heap.size<=j->w'.heap[j]?=some o->(∀ r,OR XR.L XR.C r (.cells ((Dv ((sts L xs n).map DI))).toArray 24 (0,0)) o)->Ren.Way PP G (Bb (c0.finish (.slice (some ⟨j,0,none⟩) (sts L xs n).length c)) cs) w') :
 Ren.Way PP G (Bb (Frame.enter PP fH #[L.val,.slice A n cap] .normal) (c0::cs)) W:=by
 refine Ren.Way.of_co (W:=W) (RO:=Lt W.heap.size) (O:=fun _=>False) ?_ (Ren.Alike.refl W) (fun j hj=>hj);have ha:ArrR XR.L (vr W W.heap.size) (#[L.val,.slice A n cap]++Array.replicate 23 undef) (#[L.val,.slice A n cap]++Array.replicate 23 undef) :=
  ((ArrR.one hL.self).push (Br hA)).append (.replicate _ (.tuple rfl fun i x y h=>by simp at h))
 have h:Sit XR gR W.heap.size (vr W W.heap.size) (fun _=>False) (fun j=>W.heap[j]?) (fun T u=>T=#[L.val,.slice A n cap]++Array.replicate 23 undef/\Ready L A n cap xs u/\W.heap.size<=u.heap.size) (#[L.val,.slice A n cap]++Array.replicate 23 undef) (fun _=>False) W :=
  Sit.start (Nat.le_refl _) hG (CS hQ fun _ _=>rfl) (fun j h=>h.elim) ha ha (fun _ _=>rfl) (fun u hu=>⟨rfl,IK hQ hL hY hA (by omega) hc (Hp.refl hu),by rw[hu,DD (Nat.le_refl _)]; exact Nat.le_refl _⟩)
 have fin:∀{pre:List St} {T:Array Value} {O:Nat->Prop} {w:World} {k:List Item},pre=sts L xs n->Sit XR gR W.heap.size (vr W W.heap.size) (fun _=>False) (fun j=>W.heap[j]?) (Gr W.heap.size pre) T O w->Co PP true (Lt W.heap.size) (Dq PP W G) O (Bb { F fH T k with mode:=.returning } (c0::cs)) w:=fun {pre T O w k} e h=>by
  subst e;obtain⟨g,c,hg,hlc,h⟩:=Gr.split h;refine h.backS (g:=g) (n:=(sts L xs n).length) (c:=c) (a:=((Dv ((sts L xs n).map DI))).toArray) (ty:=24) (fz:=(0,0)) (fun T u u' x e=>⟨x.1,by rw[e]; exact x.2⟩) (fun x hx=>GM _ x (by simpa using hx)) hg fH_at (fun T u x=>⟨by rw[results_tmp (t:=4) rfl,x.1],x.2⟩) fun O2 w2 j o h2 hj ho hr=>?_;refine .stop fun w3 hk al=>?_;exact kk w3 j c o (EJ al (h2.keep hk) fun _ _=>rfl) hlc (h2.ge j hj) ((hk.keep j (.inr hj)).trans ho) hr
 rw[Ds fH_at (c:=hB) rfl,UG];refine h.ctl rfl (fun w1=>AF) ?_;refine h.wp AJ AK Av (fun T u u' x e=>⟨x.1,x.2.1.same e,e▸x.2.2⟩) nn (Am fH_at) k0 (Q1:=fun T u=>∃ b,Ga W.heap.size L A n cap xs b T u) (fun T u x=>?_) fun T1 O1 y1 h1=>?_
 . rw[x.1,Sm];exact x0 (J:=fun z=>match z with | 0=>L.val | 1=>.slice A n cap | _=>undef) rfl rfl x.2.1 x.2.2
 obtain⟨b,h1⟩:=h1.split;refine h1.ctl rfl (fun w1=>AF) ?_;refine h1.wp AJ AK Av Ga.hpo nn (Am fH_at) k1 (Q1:=Gb W.heap.size L A n cap xs b) (fun T u x=>x1 x) fun T2 O2 y2 h2=>?_;refine h2.ctl rfl (fun w1=>AF) ?_;refine h2.ctl rfl (fun w1=>AF) ?_;refine h2.wp AJ AK Av Gb.hpo nn (Am fH_at) k2 (Q1:=fun T u=>Gb W.heap.size L A n cap xs b T u/\T.getD 11 undef=.bool (!B8 L xs n n)) (fun T u x=>x2 x) fun T3 O3 y3 h3=>?_;cases hok:B8 L xs n n
 . have h23:=h3.slot (i:=11) (.bool true) fun T u x=>by rw[x.2,hok]; rfl
   refine h3.ctl rfl (fun w1=>EH (t:=true) (by exact h23)) ?_;refine h3.ctl rfl (fun w1=>AF) ?_;refine h3.wp AJ AK Av (fun T u u' x e=>⟨Gb.hpo T u u' x.1 e,x.2⟩) nn (Am fH_at) k3 (Q1:=Gr W.heap.size []) (fun T u x=>x3 x.1) fun T4 O4 y4 h4=>?_;refine h4.ctl rfl (fun w1=>Jy) ?_;exact fin (by rw[sts,hok]; rfl) h4
 have h23:=h3.slot (i:=11) (.bool false) fun T u x=>by rw[x.2,hok]; rfl
 refine h3.ctl rfl (fun w1=>EH (t:=false) (by exact h23)) ?_;refine h3.ctl rfl (fun w1=>Kk) ?_;rw[UH];refine h3.ctl rfl (fun w1=>AF) ?_;refine h3.ctl rfl (fun w1=>AF) ?_;refine h3.ctl rfl (fun w1=>by rw[show q4=.region 4 (cO q4) false from rfl]; exact Ba) ?_;refine h3.ops (l1:=[0,1]) (l2:=[2]) AJ AK Av (fun T u u' x e=>⟨Gb.hpo T u u' x.1 e,x.2⟩) nn (Am fH_at) o4 (Q1:=fun T u=>Gb W.heap.size L A n cap xs b T u/\T.getD 13 undef=L.val/\T.getD 14 undef=.slice A n cap) (fun T u x=>x4 x.1) fun T4 O4 y4 h4=>?_
 refine Sit.states (A:=A) (m:=n) (cap:=cap) (L:=L) (xs:=xs) hQ hL hY hA (by omega) hG h4 (o:=(cO q4)[2]) (d:=15) rfl rfl rfl rfl (fun T u x=>x.2) (fun ch=>Sk W.heap.size (vr W W.heap.size) (fun _=>False) (fun j=>W.heap[j]?) fH 5 17 1 16 (cO q5) (.seq q6 q7) [.code (.seq q8 .ret)] (c0::cs) (Gl W.heap.size ch (L.s0::L.stl L.s0 xs))) (fun ch Oa ya ra=>?_) fun ch O a w' hF lo=>?_
 . have rb:=ra.mono (Q1:=Gl W.heap.size ch []) fun T u ⟨T0,x,e⟩=>by
    subst e;exact Gl.first x.1 ch
   refine rb.ctl rfl (fun w1=>BG) ?_;refine rb.ctl rfl (fun w1=>F2) ?_;refine rb.ctl rfl (fun w1=>Mp) ?_;rw[UI];refine Ly SC (L.s0::L.stl L.s0 xs) (fun pre s' hlt Stop KK T O w h kk=>?_) _ [] rfl rb;refine h.ctl rfl (fun w1=>AF) ?_;refine h.wp AJ AK Av (fun T u u' x e=>⟨Gl.hpo T u u' x.1 e,x.2⟩) nn (Am fH_at) k6 (Q1:=fun T u=>∃ e,Gm W.heap.size ch pre s' e T u) (fun T u x=>x6 x.1 x.2) fun T6 O6 y6 h6=>?_;obtain⟨e,h6⟩:=h6.split;refine h6.wp AJ AK Av Gm.hpo nn (Am fH_at) k7 (fun T u x=>x7 x (by
    have hl:=hY.1;have:=Kn L xs L.s0;simp only[List.length_cons] at hlt;omega)) fun T7 O7 y7 h7=>?_
   exact kk _ _ _ h7
 . refine Ren.Way.of_co (W:=W) (RO:=Lt W.heap.size) (O:=O) ?_ ⟨lo.os,lo.tape,lo.output⟩ (fun j hj=>Nat.lt_of_lt_of_le hj lo.size);refine Lz SC hF fun T5 O5 y5 h5=>?_;refine h5.ctl rfl (fun w1=>AF) ?_;refine h5.wp AJ AK Av Gl.hpo nn (Am fH_at) k8 (Q1:=Gr W.heap.size (L.s0::L.stl L.s0 xs)) (fun T u x=>x8 x) fun T6 O6 y6 h6=>?_;refine h6.ctl rfl (fun w1=>Jy) ?_;exact fin (by rw[sts,hok]; rfl) h6
end
end path
section
variable {N:Nat} {R:Rho} {B:Nat->Option Obj} {Q:Array Value->World->Prop} {T:Array Value} {O:Nat->Prop} {w W:World} {G:Goroutine->World->Prop}
theorem Ren.Sit.runPathW(h:Sit XR gR N R (fun _=>False) B Q T O w)(hG:XR.G<=N){f:FuncId}{ops:Array Oper}{i:Nat}{l:List Nat}{k:List Item}{o:Oper}{a b d:Nat}{ats:Array TypeId}{L:Lv}{A:Option Addr}{n cap:Nat}{xs:List In}{cs:List Frame}
 (ho:ops[i]?=some o) (hw:Region.wanted o (yielded ops T)=true) (hd:o.dst=some d) (hop:o.op=.call { callee:=.value (.func path.fH),args:=#[.tmp a,.tmp b],argTypes:=ats })
 (hq:∀ T u,Q T u->(T.getD a undef=L.val/\T.getD b undef=.slice A n cap)/\Ready L A n cap xs u) (hn:n<=100000)
 (kk:∀ c B2 w2 j O2,(path.sts L xs n).length<=c->(∀ j,j<N->B2 j=B j)->Sit XR gR N R (fun _=>False) B2 (fun T u=>∃ T0 u0,Q T0 u0/\T=Bh T0 (some d) (.slice (some ⟨u0.heap.size,0,none⟩) (path.sts L xs n).length c)/\u=u0.alloc (.cells ((Dv ((path.sts L xs n).map DI))).toArray 24 (0,0))) (Bh T (some d) (.slice (some ⟨j,0,none⟩) (path.sts L xs n).length c)) O2 w2 ->
  Co PP true (Lt N) (Dq PP W G) O2 (Bb (F f (Bh T (some d) (.slice (some ⟨j,0,none⟩) (path.sts L xs n).length c)) (.inRegion ops l::k)) cs) w2) :
 Co PP true (Lt N) (Dq PP W G) O (Bb (F f T (.inRegion ops (i::l)::k)) cs) w:=by
 refine h.ctl rfl (fun w1=>Kl (fn:=Tryz.f13) (c:=path.hB) ho hw hop path.fH_at rfl rfl) ?_;refine .stop fun w1 hk al=>?_;have h1:=h.keep hk;obtain⟨r,T0,u,ok,hR,wr,hQ,gl,_,arr⟩:=h1.look 0;obtain⟨⟨ea,eb⟩,rd⟩:=hq T0 u hQ;have hu:VR XR.L r undef undef:=.tuple rfl fun i x y h=>by simp at h
 have va:=arr.getD a hu;have vb:=arr.getD b hu;rw[ea] at va;rw[eb] at vb;obtain⟨A1,G1,e1,hA1,hG1⟩:=Km va;obtain⟨A2,e2,hA2⟩:=CQ vb;have Q1:Quarter w1:=rd.quarter.over wr (gl 0 rfl);have L1:Lv.At { L with A:=A1,G:=G1 } w1:=⟨rd.lv.I.over wr hA1,rd.lv.J.over wr hG1,rd.lv.n,rd.lv.m,rd.lv.ca.over wr hA1,rd.lv.cg.over wr hG1⟩;rw[Qs,e1,e2];refine path.wayF (L:={ L with A:=A1,G:=G1 }) (A:=A2) (xs:=xs) (W:=w1) Q1 L1 (rd.ins.over wr hA2) (rd.cel.over wr hA2) hn rd.room (Nat.le_trans hG h1.top) fun w2 j c o2 lo hlc hj ho2 hr=>?_
 rw[show path.sts { L with A:=A1,G:=G1 } xs n=path.sts L xs n by unfold path.sts; rw[Qr L A1 G1 xs]; rfl] at hr hlc ⊢;rw[F5 (l:=l) _ ho,hd];have al2:Ren.Alike W w2:=al.trans ⟨lo.os,lo.tape,lo.output⟩;have hjl:j<w2.heap.size:=(Array.getElem?_eq_some_iff.1 ho2).1
 have h2:=h1.resume (w2:=w2) (O2:=fun z=>O z\/z=j) (Nat.le_trans hG (Nat.le_trans h1.top lo.size)) (Nat.le_trans h1.top lo.size) (fun z hz=>lo.block z (hz.elim (h1.lt z) fun h=>Nat.lt_of_lt_of_le h h1.top)) (fun z hz=>.inl hz) (fun z hz=>hz.elim (fun hz=>⟨h1.ge z hz,Nat.lt_of_lt_of_le (h1.lt z hz) lo.size⟩) fun hz=>⟨by have:=h1.top; omega,by omega⟩) (K2:=fun z=>z=j) (fun z hz=>.inr ⟨.inr hz,fun hO=>by have:=h1.lt z hO; omega⟩)
 have h3:=(h2.adopt (n:=(path.sts L xs n).length) (c:=c) hG rfl ho2 (fun x hx=>GM _ x (by simpa using hx)) hr (some d) (Q1:=fun T u=>∃ T0 u0,Q T0 u0/\T=Bh T0 (some d) (.slice (some ⟨u0.heap.size,0,none⟩) (path.sts L xs n).length c)/\u=u0.alloc (.cells ((Dv ((path.sts L xs n).map DI))).toArray 24 (0,0))) fun T u x=>⟨T,u,x,rfl,rfl⟩).unwatch (K1:=fun _=>False) (fun z hz=>hz.elim);refine Ren.Way.of_co (W:=W) (RO:=Lt N) (O:=fun z=>O z\/z=j) ?_ al2 (fun z hz=>Nat.lt_of_lt_of_le hz h3.top);exact kk c _ w2 j _ hlc (fun z hz=>(lo.block z (Nat.lt_of_lt_of_le hz h1.top)).trans (h1.base z (.inr hz))) h3
theorem Ren.Sit.runPath(h:Sit XR gR N R (fun _=>False) B Q T O w)(hG:XR.G<=N){f:FuncId}{ops:Array Oper}{i:Nat}{l:List Nat}{k:List Item}{o:Oper}{a b d:Nat}{ats:Array TypeId}{L:Lv}{A:Option Addr}{n cap:Nat}{xs:List In}{cs:List Frame}
 (ho:ops[i]?=some o) (hg:o.guard=none) (hd:o.dst=some d) (hop:o.op=.call { callee:=.value (.func path.fH),args:=#[.tmp a,.tmp b],argTypes:=ats })
 (hq:∀ T u,Q T u->(T.getD a undef=L.val/\T.getD b undef=.slice A n cap)/\Ready L A n cap xs u) (hn:n<=100000)
 (kk:∀ c B2 w2 j O2,(path.sts L xs n).length<=c->(∀ j,j<N->B2 j=B j)->Sit XR gR N R (fun _=>False) B2 (fun T u=>∃ T0 u0,Q T0 u0/\T=Bh T0 (some d) (.slice (some ⟨u0.heap.size,0,none⟩) (path.sts L xs n).length c)/\u=u0.alloc (.cells ((Dv ((path.sts L xs n).map DI))).toArray 24 (0,0))) (Bh T (some d) (.slice (some ⟨j,0,none⟩) (path.sts L xs n).length c)) O2 w2 ->
  Co PP true (Lt N) (Dq PP W G) O2 (Bb (F f (Bh T (some d) (.slice (some ⟨j,0,none⟩) (path.sts L xs n).length c)) (.inRegion ops l::k)) cs) w2) :
 Co PP true (Lt N) (Dq PP W G) O (Bb (F f T (.inRegion ops (i::l)::k)) cs) w:=h.runPathW hG ho (by simp[Region.wanted,hg]) hd hop hq hn kk
end
end Go.Proofs.YtaemcekcancpdaaGreatDoor
