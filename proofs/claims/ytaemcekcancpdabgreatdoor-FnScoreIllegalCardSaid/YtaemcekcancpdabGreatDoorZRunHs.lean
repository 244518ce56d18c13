import Derived.Test.YtaemcekcancpdabGreatDoorZRunSc
set_option linter.all false
set_option maxRecDepth 100000
set_option maxHeartbeats 8000000
open Go.Lib
namespace Go.Proofs.YtaemcekcancpdabGreatDoor
open Go.RowKit
open M
open Ren
open Go.Conc
def Bm:Nat->List St->List Int
 | _,[]=>[]
 | m,s::ss=>(if 0<m/\m % 5=0 then [ehI s.k s.ax s.ay s.fx s.fy s.u s.g s.d s.o] else [])++Bm (m+1) ss
theorem Ks:∀(a b:List St) (m:Nat),Bm m (a++b)=Bm m a++Bm (m+a.length) b
 | [],b,m=>by simp[Bm]
 | s::a,b,m=>by
  simp only[List.cons_append,Bm,Ks a b,List.append_assoc,List.length_cons];rw[show m+1+a.length=m+(a.length+1) by omega]
theorem Hx:∀(a:List St) (m:Nat),(Bm m a).length<=a.length
 | [],m=>Nat.le_refl _
 | s::a,m=>by
  simp only[Bm,List.length_append,List.length_cons];have:=Hx a (m+1);split<;>simp<;>omega
abbrev Ja(l:List Int):List Value:=l.map (Value.int .i64)
theorem JD(l:List Int)(x:Value)(h:x∈Ja l):Plain x:=by
 simp only[Ja,List.mem_map] at h;obtain⟨n,_,rfl⟩:=h;exact .int _ _
namespace hashes
noncomputable abbrev hB:Code:=EI Tryz.f14
noncomputable def q0:Code:=cA hB
noncomputable def q1:Code:=cA (cB hB)
noncomputable def q2:Code:=cA (cA (cB (cB hB)))
noncomputable def q3:Code:=match cB (cA (cB (cB hB))) with | .cond _ x _=>cA x | _=>.skip
noncomputable def qM:Code:=cA (cB (cB (cB hB)))
noncomputable def qC:Code:=cB (cB (cB (cB hB)))
noncomputable def q4:Code:=cA (cA qC)
noncomputable def qL:Code:=cI (cI (cB (cA qC)))
noncomputable def q5:Code:=cA qL
noncomputable def q6:Code:=cA (cI (cB (cB qL)))
noncomputable def q7:Code:=cB (cI (cB (cB qL)))
noncomputable def q8:Code:=cA (cB qC)
theorem hB_eq:hB=.seq q0 (.seq q1 (.seq (.seq q2 (.cond (.tmp 12) (.seq q3 .ret) .skip)) (.seq qM qC))):=rfl
abbrev fH:FuncId:=14
theorem fH_at:PP.funcs[fH]?=some Tryz.f14:=Tryz.func14
theorem k0:XR.C q0:=by show AH PP CH CO q0=true; kernel_rfl
theorem k1:XR.C q1:=by show AH PP CH CO q1=true; kernel_rfl
theorem k2:XR.C q2:=by show AH PP CH CO q2=true; kernel_rfl
theorem k3:XR.C q3:=by show AH PP CH CO q3=true; kernel_rfl
theorem k6:XR.C q6:=by show AH PP CH CO q6=true; kernel_rfl
theorem o4:∀ i∈[0,1],∀ o,(cO q4)[i]?=some o->OpOk XR gR o.op:=B8 (by kernel_rfl)
abbrev TH(J:Nat->Value):Array Value:=#[J 0,J 1,J 2,J 3,J 4,J 5,J 6,J 7,J 8,J 9,J 10,J 11,J 12,J 13,J 14,J 15,J 16,J 17,J 18,J 19,J 20,J 21,J 22,J 23,J 24,J 25,J 26,J 27,J 28,J 29,J 30,J 31,J 32,J 33,J 34]
theorem FY{T:Array Value}(h:T.size=35):T=TH fun n=>T.getD n undef:=by
 refine Array.ext h fun i h1 h2=>?_;have e:∀ n (hn:n<T.size),T.getD n undef=T[n]:=fun n hn=>by simp[Array.getD,hn]
 simp only[TH];have:i<35:=h▸h1
 iterate 35 (rcases i with _ | i; · exact(e _ _).symm)
 omega
theorem SH(a b:Value):#[a,b]++Array.replicate 33 undef=#[a,b,undef,undef,undef,undef,undef,undef,undef,undef,undef,undef,undef,undef,undef,undef,undef,undef,undef,undef,undef,undef,undef,undef,undef,undef,undef,undef,undef,undef,undef,undef,undef,undef,undef]:=by kernel_rfl
structure Ga(N:Nat)(L:Lv)(A:Option Addr)(n cap:Nat)(xs:List In)(b:Nat)(T:Array Value)(u:World):Prop where
 size:T.size=35
 t1:T.getD 1 undef=.slice A n cap
 t2:T.getD 2 undef=AJ b
 P:CellsAt u b L.cs
 rd:Ready L A n cap xs u
 top:N<=u.heap.size
theorem Ga.hpo{N:Nat}{L:Lv}{A:Option Addr}{n cap:Nat}{xs:List In}{b:Nat}:Hpo (Ga N L A n cap xs b):=fun _ _ _ h e=>{ h with P:=h.P.same e,rd:=h.rd.same e,top:=e▸h.top }
structure Gb(N:Nat)(L:Lv)(A:Option Addr)(n cap:Nat)(xs:List In)(b:Nat)(T:Array Value)(u:World):Prop extends Ga N L A n cap xs b T u where
 row:∃ v:Value,T.getD 5 undef=v/\v.ownBlock≠none/\u.ownsRow N 3 1 v 0 (Ja [])
theorem own_same{w w':World}{base:Nat}{e:TypeId}{sz n:Nat}{v:Value}{xs:List Value}(h:w.ownsRow base e sz v n xs)(k:w'.heap=w.heap):w'.ownsRow base e sz v n xs:=⟨h.1,by rw[k]; exact h.2⟩
theorem Gb.hpo{N:Nat}{L:Lv}{A:Option Addr}{n cap:Nat}{xs:List In}{b:Nat}:Hpo (Gb N L A n cap xs b):=fun _ _ _ h e=>⟨Ga.hpo _ _ _ h.toGa e,by
 obtain⟨v,h1,h2,h3⟩:=h.row;exact⟨v,h1,h2,own_same h3 e⟩⟩
structure Gl(N k:Nat)(pre:List St)(T:Array Value)(u:World):Prop where
 size:T.size=35
 tc:T.getD 16 undef=.chan (some k)
 row:∃ v:Value,T.getD 5 undef=v/\v.ownBlock≠none/\u.ownsRow N 3 1 v (Bm 0 pre).length (Ja (Bm 0 pre))
 top:N<=u.heap.size
 t6:T.getD 6 undef=.int .i64 (pre.length:Int)
theorem Gl.hpo{N k:Nat}{pre:List St}:Hpo (Gl N k pre):=fun _ _ _ h e=>⟨h.size,h.tc,by
 obtain⟨v,h1,h2,h3⟩:=h.row;exact⟨v,h1,h2,own_same h3 e⟩,e▸h.top,h.t6⟩
theorem Gl.put{N k:Nat}{pre:List St}{T:Array Value}{u:World}(v:Value)(h:Gl N k pre T u):Gl N k pre (Bo T (some 17) v) u/\(Bo T (some 17) v).getD 17 undef=v :=
 ⟨⟨size_put.trans h.size,(Ay (by omega)).trans h.tc,by
  obtain⟨v,h1,h2,h3⟩:=h.row;exact⟨v,(Ay (by omega)).trans h1,h2,h3⟩,h.top,(Ay (by omega)).trans h.t6⟩,BW (by rw[h.size]; omega)⟩
structure Gm(N k:Nat)(pre:List St)(s:St)(e:Nat)(T:Array Value)(u:World):Prop extends Gl N k pre T u where
 ts:T.getD 7 undef=AJ e
 S:CellsAt u e (svs s)
theorem Gm.hpo{N k:Nat}{pre:List St}{s:St}{e:Nat}:Hpo (Gm N k pre s e):=fun _ _ _ h e=>⟨Gl.hpo _ _ _ h.toGl e,h.ts,h.S.same e⟩
structure Gr(N:Nat)(pre:List St)(T:Array Value)(u:World):Prop where
 row:∃ v:Value,T.getD 4 undef=v/\v.ownBlock≠none/\u.ownsRow N 3 1 v (Bm 0 pre).length (Ja (Bm 0 pre))
theorem Gr.hpo{N:Nat}{pre:List St}:Hpo (Gr N pre):=fun _ _ _ h e=>⟨by
 obtain⟨v,h1,h2,h3⟩:=h.row;exact⟨v,h1,h2,own_same h3 e⟩⟩
section
variable {N:Nat} {L:Lv} {A:Option Addr} {n cap:Nat} {xs:List In} {b k e:Nat} {s:St} {pre:List St} {ok:Bool} {T:Array Value} {w:World}
theorem x0{J:Nat->Value}(j0:J 0=L.val)(j1:J 1=.slice A n cap)(H:Ready L A n cap xs w)(hN:N<=w.heap.size):q0.wp Tryz.prog (fun e t u=>e=.normal/\t.defers=[]/\∃ b,Ga N L A n cap xs b t.tmps u) ⟨TH J,[]⟩ w:=by
 rw[show q0=.region 0 _ false from rfl];go_wp;have B:=Aa (Ac w) (.cells #[.int .i64 L.i,.int .i64 L.t,.int .i64 L.x,.int .i64 L.y,.slice L.A L.n L.c,.slice L.G L.m L.kk,.int .i64 L.fp,.int .i64 L.fq,.int .i64 L.fs,.int .i64 L.fz,.int .i64 L.b] 29);have hs:=B.size;exact⟨rfl,rfl,w.heap.size,rfl,rfl,rfl,CellsAt.new w _ L.cs 29 rfl,H.step B,by omega⟩
theorem x1(H:Ga N L A n cap xs b T w):q1.wp Tryz.prog (fun e t u=>e=.normal/\t.defers=[]/\Gb N L A n cap xs b t.tmps u) ⟨T,[]⟩ w:=by
 obtain⟨J,rfl⟩:∃ J,T=TH J:=⟨_,FY H.size⟩;have j1:J 1=.slice A n cap:=H.t1;have j2:J 2=AJ b:=H.t2;rw[show q1=.region 1 _ false from rfl];go_wp;have B:=Aa (Ac w) (.cells #[] 3);have hs:=B.size;have hN:=H.top;exact⟨rfl,rfl,⟨rfl,rfl,rfl,H.P.step B,H.rd.step B,by omega⟩,_,rfl,by simp[Value.ownBlock],(by simpa using World.ownsRow_lit w #[] 0 hN (Nat.zero_le _) rfl)⟩
theorem x2(H:Gb N L A n cap xs b T w):q2.wp Tryz.prog (fun e t u=>e=.normal/\t.defers=[]/\(Gb N L A n cap xs b t.tmps u/\t.tmps.getD 12 undef=.bool (!CW L xs n n))) ⟨T,[]⟩ w:=by
 obtain⟨J,rfl⟩:∃ J,T=TH J:=⟨_,FY H.size⟩;have j1:J 1=.slice A n cap:=H.t1;have j2:J 2=AJ b:=H.t2;obtain⟨v,h1,h2,h3⟩:=H.row;have j5:J 5=v:=h1;have C:=hid (JB L A n cap xs w H.rd.lv.I H.rd.lv.J H.rd.lv.n H.rd.lv.m H.rd.ins H.rd.small);rw[show q2=.region 2 _ false from rfl];apply wp_region_lit;refine Af rfl 29 (.tmp 2) rfl b j2 L.cs H.P Tryz.underlying29 rfl Ag ?_;go_wp;refine C.out.mono ?_;rintro e w1 ⟨rfl,B⟩;dsimp only;go_wp;have hs:=B.size;have hN:=H.top;refine⟨rfl,rfl,⟨⟨rfl,rfl,rfl,H.P.step B,H.rd.step B,by omega⟩,v,rfl,h2,BB h3 B⟩,?_⟩;simp[CW]
theorem x3(H:Gb N L A n cap xs b T w):q3.wp Tryz.prog (fun e t u=>e=.normal/\t.defers=[]/\Gr N [] t.tmps u) ⟨T,[]⟩ w:=by
 obtain⟨J,rfl⟩:∃ J,T=TH J:=⟨_,FY H.size⟩;obtain⟨v,h1,h2,h3⟩:=H.row;have j5:J 5=v:=h1;rw[show q3=.region 3 _ false from rfl];go_wp;exact⟨rfl,rfl,v,rfl,h2,h3⟩
structure Gc(N:Nat)(L:Lv)(A:Option Addr)(n cap:Nat)(xs:List In)(b:Nat)(T:Array Value)(u:World):Prop extends Gb N L A n cap xs b T u where
 t6:T.getD 6 undef=.int .i64 0
theorem Gc.hpo{N:Nat}{L:Lv}{A:Option Addr}{n cap:Nat}{xs:List In}{b:Nat}:Hpo (Gc N L A n cap xs b):=fun _ _ _ h e=>⟨Gb.hpo _ _ _ h.toGb e,h.t6⟩
theorem x4(H:Gc N L A n cap xs b T w):wpOps Tryz.prog (cO q4) (fun e t u=>e=.normal/\t.defers=[]/\(Gc N L A n cap xs b t.tmps u/\t.tmps.getD 14 undef=L.val/\t.tmps.getD 15 undef=.slice A n cap)) [0,1] ⟨T,[]⟩ w:=by
 obtain⟨J,rfl⟩:∃ J,T=TH J:=⟨_,FY H.size⟩;have j1:J 1=.slice A n cap:=H.t1;have j2:J 2=AJ b:=H.t2;obtain⟨v,h1,h2,h3⟩:=H.row;have j5:J 5=v:=h1;have j6:J 6=.int .i64 0:=H.t6;have e:cO q4=#[_,_,_]:=rfl;rw[Ar (os:=[_,_]) rfl];simp only[e,List.getElem_toArray,List.getElem_cons_zero,List.getElem_cons_succ];refine Af rfl 29 (.tmp 2) rfl b j2 L.cs H.P Tryz.underlying29 rfl Ag ?_;go_wp;exact⟨rfl,rfl,⟨⟨⟨rfl,rfl,rfl,H.P,H.rd,H.top⟩,v,rfl,h2,h3⟩,rfl⟩,rfl,rfl⟩
theorem Gl.first(x:Gc N L A n cap xs b T w)(k:Nat):Gl N k [] (Bo T (some 16) (.chan (some k))) w :=
 ⟨size_put.trans x.size,BW (by rw[x.size]; omega),by
  obtain⟨v,h1,h2,h3⟩:=x.row;exact⟨v,(Ay (by omega)).trans h1,h2,h3⟩,x.top,(Ay (by omega)).trans x.t6⟩
theorem x5{v:Value}(H:Gl N k pre T w)(h:T.getD 17 undef=.tuple #[v,.bool ok]):wpOps Tryz.prog (cO q5) (fun e t u=>e=.normal/\t.defers=[]/\(Gl N k pre t.tmps u/\t.tmps.getD 17 undef=.tuple #[v,.bool ok])/\t.tmps.getD 18 undef=.bool ok) [1] ⟨T,[]⟩ w:=by
 obtain⟨J,rfl⟩:∃ J,T=TH J:=⟨_,FY H.size⟩;have jc:J 16=.chan (some k):=H.tc;have jt:J 17=.tuple #[v,.bool ok]:=h;obtain⟨v5,h1,h2,h3⟩:=H.row;have j5:J 5=v5:=h1;have j6:J 6=.int .i64 (pre.length:Int):=H.t6;have e:cO q5=#[_,_]:=rfl;rw[Ar (os:=[_]) rfl];simp only[e,List.getElem_toArray,List.getElem_cons_zero,List.getElem_cons_succ];go_wp;exact⟨rfl,rfl,⟨⟨rfl,rfl,⟨v5,rfl,h2,h3⟩,H.top,rfl⟩,rfl⟩,rfl⟩
theorem x6(H:Gl N k pre T w)(h:T.getD 17 undef=.tuple #[sva s,.bool ok]):q6.wp Tryz.prog (fun e t u=>e=.normal/\t.defers=[]/\∃ e,Gm N k pre s e t.tmps u) ⟨T,[]⟩ w:=by
 obtain⟨J,rfl⟩:∃ J,T=TH J:=⟨_,FY H.size⟩;have jc:J 16=.chan (some k):=H.tc;have jt:J 17=.tuple #[sva s,.bool ok]:=h;obtain⟨v5,h1,h2,h3⟩:=H.row;have j5:J 5=v5:=h1;have j6:J 6=.int .i64 (pre.length:Int):=H.t6;rw[show q6=.region 7 _ false from rfl];apply wp_region_lit
 iterate 6 go_step
 refine Ah rfl 35 (.tmp 7) (.tmp 19) rfl w.heap.size rfl (svs s) rfl _ (CellsAt.new w _ [_,_,_,_,_,_,_,_,_] 35 rfl) (Nat.le_refl _) Ad rfl ?_;intro w2 K Y;go_wp;have B2:=Aa (Ac w) (.cells #[.int .i64 0,.int .i64 0,.int .i64 0,.int .i64 0,.int .i64 0,.int .i64 0,.int .i64 0,.bool false,.bool false] 35);have h4:=B2.size;have h5:=K.size;have h6:=H.top;have hO:w2.ownsRow N 3 1 v5 (Bm 0 pre).length (Ja (Bm 0 pre)):=(BB h3 B2).kept K.grows (.inr fun he=>by
  have:=(h3.lt _ he).2;omega)
 exact⟨rfl,rfl,w.heap.size,⟨rfl,rfl,⟨v5,rfl,h2,hO⟩,by omega,rfl⟩,rfl,Y⟩
theorem x7(H:Gm N k pre s e T w)(hl:pre.length<=200000):q7.wp Tryz.prog (fun e t u=>e=.normal/\t.defers=[]/\Gl N k (pre++[s]) t.tmps u) ⟨T,[]⟩ w:=by
 obtain⟨J,rfl⟩:∃ J,T=TH J:=⟨_,FY H.size⟩;have jc:J 16=.chan (some k):=H.tc;have je:J 7=AJ e:=H.ts;have j6:J 6=.int .i64 (pre.length:Int):=H.t6;obtain⟨v5,h1,h2,h3⟩:=H.row;have j5:J 5=v5:=h1;have hN:=H.top;have hll:=Hx pre 0;have ha:Bm 0 (pre++[s])=Bm 0 pre++(if 0<pre.length/\pre.length % 5=0 then [ehI s.k s.ax s.ay s.fx s.fy s.u s.g s.d s.o] else []):=by
  rw[Ks]; simp[Bm]
 rw[show q7=.seq (.seq (.region 8 _ false) (.cond (.tmp 26) (.region 9 _ false) .skip)) (.region 10 _ false) from rfl];have hm0:(0:Int)<=(pre.length:Int):=by omega
 have hmod:((pre.length:Int)).tmod 5=((pre.length % 5:Nat):Int):=by rw[Int.tmod_eq_emod_of_nonneg hm0]; omega
 have hif:(0<pre.length/\pre.length % 5=0)↔(0:Int)<(pre.length:Int)/\((pre.length:Int)).tmod 5=0:=by rw[hmod]; omega
 have S:=hid H.S;have hS2:=H.top;generalize hm:(pre.length:Int)=m at j6 hif;have hwr:IntKind.i64.wrap (m+1)=m+1:=IntWalk.i64_in _ (by omega);clear hmod;by_cases g1:(0:Int)<m
 . have d1:decide (0<m)=true:=decide_eq_true g1;by_cases g2:m.tmod 5=0
   . have d2:decide (m.tmod 5=0)=true:=decide_eq_true g2;rw[if_pos (hif.2 ⟨g1,g2⟩)] at ha;have C:=hid fun W=>Jj s.k s.ax s.ay s.fx s.fy s.u s.g s.d s.o W;generalize ehI s.k s.ax s.ay s.fx s.fy s.u s.g s.d s.o=z at *;go_upto_region 9 with fail;refine wp_region_lit ?_
     iterate 3 go_step
     refine Af rfl 35 (.tmp 7) rfl e rfl (svs s) S.out Tryz.underlying35 rfl Ad ?_;go_wp;refine(C.out _).mono ?_;rintro e1 w1 ⟨rfl,B1⟩;dsimp only
     iterate 4 go_step
     have B2:=Ab B1 (Aa (Ac w1) (.cells #[.int .i64 z] 3));have hs:=B2.size;refine G6 _ rfl _ _ rfl N v5 (Bm 0 pre).length (Bm 0 pre) rfl (BB h3 B2) (some ⟨w1.heap.size,0,none⟩) 1 1 [z] rfl (Ints.one w1 _ _) (by omega) (by omega) ?_;intro v' w' O G hB;have hs2:=G.size;go_wp;refine⟨rfl,rfl,rfl,rfl,⟨v',rfl,?_,?_⟩,by omega,?_⟩
     . rcases hB with hB | hB
       . rw[hB]; exact h2
       . rw[hB]; exact fun e=>by cases e
     . rw[ha];simpa using O
     . exact congrArg (Value.int .i64) (show m+1=((pre++[s]).length:Int) by rw[<- hm]; simp)
   . have d2:decide (m.tmod 5=0)=false:=decide_eq_false g2;rw[if_neg (fun h=>g2 (hif.1 h).2),List.append_nil] at ha;go_wp;refine⟨rfl,rfl,rfl,rfl,⟨v5,rfl,h2,by rw[ha]; exact h3⟩,H.top,?_⟩;exact congrArg (Value.int .i64) (show m+1=((pre++[s]).length:Int) by rw[<- hm]; simp)
 . have d1:decide (0<m)=false:=decide_eq_false g1;rw[if_neg (fun h=>g1 (hif.1 h).1),List.append_nil] at ha;go_wp;refine⟨rfl,rfl,rfl,rfl,⟨v5,rfl,h2,by rw[ha]; exact h3⟩,H.top,?_⟩;exact congrArg (Value.int .i64) (show m+1=((pre++[s]).length:Int) by rw[<- hm]; simp)
theorem x8(H:Gl N k pre T w):q8.wp Tryz.prog (fun e t u=>e=.normal/\t.defers=[]/\Gr N pre t.tmps u) ⟨T,[]⟩ w:=by
 obtain⟨J,rfl⟩:∃ J,T=TH J:=⟨_,FY H.size⟩;obtain⟨v,h1,h2,h3⟩:=H.row;have j5:J 5=v:=h1;rw[show q8=.region 11 _ false from rfl];go_wp;exact⟨rfl,rfl,v,rfl,h2,h3⟩
theorem Gr.split{R:Rho}{K:Nat->Prop}{B:Nat->Option Obj}{O:Nat->Prop}(h:Sit XR gR N R K B (Gr N pre) T O w):∃ g c,N<=g/\(Bm 0 pre).length<=c/\Sit XR gR N R K B (fun T u=>T.getD 4 undef=.slice (some ⟨g,0,none⟩) (Bm 0 pre).length c/\∃ cur,u.heap[g]?=some (.cells cur 3 (0,0))/\((Ja (Bm 0 pre))).toArray.size<=cur.size/\∀(i:Nat) (x:Value),((Ja (Bm 0 pre))).toArray[i]?=some x->cur[i]?=some x) T O w:=by
 have h1:=h.mono (Q1:=fun T u=>∃ g c,(N<=g/\(Bm 0 pre).length<=c)/\T.getD 4 undef=.slice (some ⟨g,0,none⟩) (Bm 0 pre).length c/\∃ cur,u.heap[g]?=some (.cells cur 3 (0,0))/\((Ja (Bm 0 pre))).toArray.size<=cur.size/\∀(i:Nat) (x:Value),((Ja (Bm 0 pre))).toArray[i]?=some x->cur[i]?=some x) fun T u x=>by
  obtain⟨v,h1,h2,h3,h4⟩:=x.row;rcases h4 with⟨rfl,_⟩ | ⟨g,c,cur,rfl,hg,hh,hc,_,hs,ht⟩
  . exact absurd rfl h2
  . refine⟨g,c,⟨hg,hc⟩,h1,cur,hh,?_,fun i x hx=>?_⟩
    . rw[<- ht];simp only[List.size_toArray,List.length_take,Array.length_toList];omega
    . rw[<- ht,List.getElem?_toArray,List.getElem?_take] at hx;split at hx
      . simpa using hx
      . cases hx
 obtain⟨g,h1⟩:=h1.split;obtain⟨c,h1⟩:=h1.split;exact⟨g,c,h1.fact fun T u x=>x.1.1,h1.fact fun T u x=>x.1.2,h1.mono fun T u x=>x.2⟩
end
section
variable {W:World} {L:Lv} {A:Option Addr} {n cap:Nat} {xs:List In} {cs:List Frame} {c0:Frame} {G:Goroutine->World->Prop}
abbrev sts(L:Lv)(xs:List In)(n:Nat):List St:=if CW L xs n n then L.s0::L.stl L.s0 xs else []
theorem wayN(hok0:CW L xs n n=false)(hQ:Quarter W)(hL:L.At W)(hY:Inputs W A n xs)(hA:Cel W A)(hn:n<=100000)(hc:n<=cap)(hG:XR.G<=W.heap.size)
 (kk:∀ w' j c o,Below W.heap.size W w'->(Bm 0 (sts L xs n)).length<=c->W.heap.size<=j->w'.heap[j]?=some o->(∀ r,OR XR.L XR.C r (.cells ((Ja (Bm 0 (sts L xs n)))).toArray 3 (0,0)) o)->Ren.Way PP G (Bc (c0.finish (.slice (some ⟨j,0,none⟩) (Bm 0 (sts L xs n)).length c)) cs) w') :
 Ren.Way PP G (Bc (Frame.enter PP fH #[L.val,.slice A n cap] .normal) (c0::cs)) W:=by
 refine Ren.Way.of_co (W:=W) (RO:=Lt W.heap.size) (O:=fun _=>False) ?_ (Ren.Alike.refl W) (fun j hj=>hj);have ha:ArrR XR.L (vr W W.heap.size) (#[L.val,.slice A n cap]++Array.replicate 33 undef) (#[L.val,.slice A n cap]++Array.replicate 33 undef) :=
  ((ArrR.one hL.self).push (BH hA)).append (.replicate _ (.tuple rfl fun i x y h=>by simp at h))
 have h:Sit XR gR W.heap.size (vr W W.heap.size) (fun _=>False) (fun j=>W.heap[j]?) (fun T u=>T=#[L.val,.slice A n cap]++Array.replicate 33 undef/\Ready L A n cap xs u/\W.heap.size<=u.heap.size) (#[L.val,.slice A n cap]++Array.replicate 33 undef) (fun _=>False) W :=
  Sit.start (Nat.le_refl _) hG (Eh hQ fun _ _=>rfl) (fun j h=>h.elim) ha ha (fun _ _=>rfl) (fun u hu=>⟨rfl,IQ hQ hL hY hA (by omega) hc (Hp.refl hu),by rw[hu,Dw (Nat.le_refl _)]; exact Nat.le_refl _⟩)
 have fin:∀{pre:List St} {T:Array Value} {O:Nat->Prop} {w:World} {k:List Item},pre=sts L xs n->Sit XR gR W.heap.size (vr W W.heap.size) (fun _=>False) (fun j=>W.heap[j]?) (Gr W.heap.size pre) T O w->Co PP true (Lt W.heap.size) (Do PP W G) O (Bc { F fH T k with mode:=.returning } (c0::cs)) w:=fun {pre T O w k} e h=>by
  subst e;obtain⟨g,c,hg,hlc,h⟩:=Gr.split h;refine h.backS (g:=g) (n:=(Bm 0 (sts L xs n)).length) (c:=c) (a:=((Ja (Bm 0 (sts L xs n)))).toArray) (ty:=3) (fz:=(0,0)) (fun T u u' x e=>⟨x.1,by rw[e]; exact x.2⟩) (fun x hx=>JD _ x (by simpa using hx)) hg fH_at (fun T u x=>⟨by rw[results_tmp (t:=4) rfl,x.1],x.2⟩) fun O2 w2 j o h2 hj ho hr=>?_;refine .stop fun w3 hk al=>?_;exact kk w3 j c o (EH al (h2.keep hk) fun _ _=>rfl) hlc (h2.ge j hj) ((hk.keep j (.inr hj)).trans ho) hr
 rw[EJ fH_at (c:=hB) rfl,hB_eq];refine h.ctl rfl (fun w1=>AE) ?_;refine h.wp AV AW AD (fun T u u' x e=>⟨x.1,x.2.1.same e,e▸x.2.2⟩) nn (Au fH_at) k0 (Q1:=fun T u=>∃ b,Ga W.heap.size L A n cap xs b T u) (fun T u x=>?_) fun T1 O1 y1 h1=>?_
 . rw[x.1,SH];exact x0 (J:=fun z=>match z with | 0=>L.val | 1=>.slice A n cap | _=>undef) rfl rfl x.2.1 x.2.2
 obtain⟨b,h1⟩:=h1.split;refine h1.ctl rfl (fun w1=>AE) ?_;refine h1.wp AV AW AD Ga.hpo nn (Au fH_at) k1 (Q1:=Gb W.heap.size L A n cap xs b) (fun T u x=>x1 x) fun T2 O2 y2 h2=>?_;refine h2.ctl rfl (fun w1=>AE) ?_;refine h2.ctl rfl (fun w1=>AE) ?_;refine h2.wp AV AW AD Gb.hpo nn (Au fH_at) k2 (Q1:=fun T u=>Gb W.heap.size L A n cap xs b T u/\T.getD 12 undef=.bool (!CW L xs n n)) (fun T u x=>x2 x) fun T3 O3 y3 h3=>?_;cases hok:CW L xs n n
 . have h23:=h3.slot (i:=12) (.bool true) fun T u x=>by rw[x.2,hok]; rfl
   refine h3.ctl rfl (fun w1=>CV (t:=true) (by exact h23)) ?_;refine h3.ctl rfl (fun w1=>AE) ?_;refine h3.wp AV AW AD (fun T u u' x e=>⟨Gb.hpo T u u' x.1 e,x.2⟩) nn (Au fH_at) k3 (Q1:=Gr W.heap.size []) (fun T u x=>x3 x.1) fun T4 O4 y4 h4=>?_;refine h4.ctl rfl (fun w1=>IB) ?_;exact fin (by rw[sts,hok]; rfl) h4
 rw[hok0] at hok;cases hok
end
end hashes
section
variable {N:Nat} {R:Rho} {B:Nat->Option Obj} {Q:Array Value->World->Prop} {T:Array Value} {O:Nat->Prop} {w W:World} {G:Goroutine->World->Prop}
theorem Ren.Sit.runHashes0(h:Sit XR gR N R (fun _=>False) B Q T O w)(hG:XR.G<=N){f:FuncId}{ops:Array Oper}{i:Nat}{l:List Nat}{k:List Item}{o:Oper}{a b d:Nat}{ats:Array TypeId}{L:Lv}{A:Option Addr}{n cap:Nat}{xs:List In}{cs:List Frame}
 (ho:ops[i]?=some o) (hw:Region.wanted o (yielded ops T)=true) (hd:o.dst=some d) (hop:o.op=.call { callee:=.value (.func hashes.fH),args:=#[.tmp a,.tmp b],argTypes:=ats })
 (hq:∀ T u,Q T u->(T.getD a undef=L.val/\T.getD b undef=.slice A n cap)/\Ready L A n cap xs u) (hn:n<=100000) (hok0:CW L xs n n=false)
 (kk:∀ c B2 w2 j O2,(Bm 0 (hashes.sts L xs n)).length<=c->(∀ j,j<N->B2 j=B j)->Sit XR gR N R (fun _=>False) B2 (fun T u=>∃ T0 u0,Q T0 u0/\T=Bo T0 (some d) (.slice (some ⟨u0.heap.size,0,none⟩) (Bm 0 (hashes.sts L xs n)).length c)/\u=u0.alloc (.cells ((Ja (Bm 0 (hashes.sts L xs n)))).toArray 3 (0,0))) (Bo T (some d) (.slice (some ⟨j,0,none⟩) (Bm 0 (hashes.sts L xs n)).length c)) O2 w2 ->
  Co PP true (Lt N) (Do PP W G) O2 (Bc (F f (Bo T (some d) (.slice (some ⟨j,0,none⟩) (Bm 0 (hashes.sts L xs n)).length c)) (.inRegion ops l::k)) cs) w2) :
 Co PP true (Lt N) (Do PP W G) O (Bc (F f T (.inRegion ops (i::l)::k)) cs) w:=by
 refine h.ctl rfl (fun w1=>Ko (fn:=Tryz.f14) (c:=hashes.hB) ho hw hop hashes.fH_at rfl rfl) ?_;refine .stop fun w1 hk al=>?_;have h1:=h.keep hk;obtain⟨r,T0,u,ok,hR,wr,hQ,gl,_,arr⟩:=h1.look 0;obtain⟨⟨ea,eb⟩,rd⟩:=hq T0 u hQ;have hu:VR XR.L r undef undef:=.tuple rfl fun i x y h=>by simp at h
 have va:=arr.getD a hu;have vb:=arr.getD b hu;rw[ea] at va;rw[eb] at vb;obtain⟨A1,G1,e1,hA1,hG1⟩:=Kr va;obtain⟨A2,e2,hA2⟩:=CQ vb;have Q1:Quarter w1:=rd.quarter.over wr (gl 0 rfl);have L1:Lv.At { L with A:=A1,G:=G1 } w1:=⟨rd.lv.I.over wr hA1,rd.lv.J.over wr hG1,rd.lv.n,rd.lv.m,rd.lv.ca.over wr hA1,rd.lv.cg.over wr hG1⟩;rw[QH,e1,e2];refine hashes.wayN (L:={ L with A:=A1,G:=G1 }) (A:=A2) (xs:=xs) (W:=w1) hok0 Q1 L1 (rd.ins.over wr hA2) (rd.cel.over wr hA2) hn rd.room (Nat.le_trans hG h1.top) fun w2 j c o2 lo hlc hj ho2 hr=>?_
 rw[show hashes.sts { L with A:=A1,G:=G1 } xs n=hashes.sts L xs n by unfold hashes.sts; rw[QG L A1 G1 xs]; rfl] at hr hlc ⊢;rw[FV (l:=l) _ ho,hd];have al2:Ren.Alike W w2:=al.trans ⟨lo.os,lo.tape,lo.output⟩;have hjl:j<w2.heap.size:=(Array.getElem?_eq_some_iff.1 ho2).1
 have h2:=h1.resume (w2:=w2) (O2:=fun z=>O z\/z=j) (Nat.le_trans hG (Nat.le_trans h1.top lo.size)) (Nat.le_trans h1.top lo.size) (fun z hz=>lo.block z (hz.elim (h1.lt z) fun h=>Nat.lt_of_lt_of_le h h1.top)) (fun z hz=>.inl hz) (fun z hz=>hz.elim (fun hz=>⟨h1.ge z hz,Nat.lt_of_lt_of_le (h1.lt z hz) lo.size⟩) fun hz=>⟨by have:=h1.top; omega,by omega⟩) (K2:=fun z=>z=j) (fun z hz=>.inr ⟨.inr hz,fun hO=>by have:=h1.lt z hO; omega⟩)
 have h3:=(h2.adopt (n:=(Bm 0 (hashes.sts L xs n)).length) (c:=c) hG rfl ho2 (fun x hx=>JD _ x (by simpa using hx)) hr (some d) (Q1:=fun T u=>∃ T0 u0,Q T0 u0/\T=Bo T0 (some d) (.slice (some ⟨u0.heap.size,0,none⟩) (Bm 0 (hashes.sts L xs n)).length c)/\u=u0.alloc (.cells ((Ja (Bm 0 (hashes.sts L xs n)))).toArray 3 (0,0))) fun T u x=>⟨T,u,x,rfl,rfl⟩).unwatch (K1:=fun _=>False) (fun z hz=>hz.elim);refine Ren.Way.of_co (W:=W) (RO:=Lt N) (O:=fun z=>O z\/z=j) ?_ al2 (fun z hz=>Nat.lt_of_lt_of_le hz h3.top);exact kk c _ w2 j _ hlc (fun z hz=>(lo.block z (Nat.lt_of_lt_of_le hz h1.top)).trans (h1.base z (.inr hz))) h3
end
end Go.Proofs.YtaemcekcancpdabGreatDoor
