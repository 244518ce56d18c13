import Derived.Test.YtaemcekcancpdaaGreatDoorZRunScM
set_option linter.all false
set_option maxRecDepth 100000
set_option maxHeartbeats 8000000
open Go.Lib
namespace Go.Proofs.YtaemcekcancpdaaGreatDoor.fnScoreW
open Go.RowKit
open M
open Ren
open Go.Conc
noncomputable abbrev kB:Code:=Dr Tryz.f6
noncomputable def c0:Code:=cA kB
noncomputable def cX:Code:=cA (cB kB)
noncomputable def c3:Code:=cA (cB (cB kB))
noncomputable def c4:Code:=cA (cB (cB (cB kB)))
noncomputable def cR:Code:=cB (cB (cB (cB kB)))
noncomputable def c5:Code:=cA cR
noncomputable def c6:Code:=cA (cB cR)
noncomputable def cQ:Code:=cB (cB cR)
theorem kB_eq:kB=.seq c0 (.seq cX (.seq c3 (.seq c4 cR))):=rfl
theorem kR_eq:cR=.seq c5 (.seq c6 cQ):=rfl
abbrev fV:FuncId:=6
theorem fV_at:PP.funcs[fV]?=some Tryz.f6:=Tryz.func6
theorem k0:XR.C c0:=by show AH PP Ck Cn c0=true; kernel_rfl
theorem kX:XR.C cX:=by show AH PP Ck Cn cX=true; kernel_rfl
theorem k3:XR.C c3:=by show AH PP Ck Cn c3=true; kernel_rfl
theorem k5:XR.C c5:=by show AH PP Ck Cn c5=true; kernel_rfl
theorem k6:XR.C c6:=by show AH PP Ck Cn c6=true; kernel_rfl
theorem o4:∀ i∈[0,1],∀ o,(cO c4)[i]?=some o->OpOk XR gR o.op:=Bz (by kernel_rfl)
theorem o4b:∀ i∈[3],∀ o,(cO c4)[i]?=some o->OpOk XR gR o.op:=Bz (by kernel_rfl)
abbrev TV(J:Nat->Value):Array Value:=#[J 0,J 1,J 2,J 3,J 4,J 5,J 6,J 7,J 8,J 9,J 10,J 11,J 12,J 13,J 14,J 15,J 16,J 17,J 18,J 19,J 20,J 21,J 22,J 23,J 24,J 25,J 26,J 27,J 28,J 29,J 30,J 31,J 32,J 33,J 34,J 35,J 36,J 37,J 38,J 39,J 40,J 41,J 42,J 43,J 44,J 45,J 46,J 47,J 48,J 49,J 50,J 51,J 52,J 53,J 54,J 55,J 56,J 57,J 58,J 59,J 60,J 61,J 62,J 63,J 64,J 65,J 66,J 67,J 68,J 69,J 70,J 71,J 72,J 73,J 74,J 75,J 76,J 77]
theorem tv_of{T:Array Value}(h:T.size=78):T=TV fun n=>T.getD n undef:=by
 refine Array.ext h fun i h1 h2=>?_;have e:∀ n (hn:n<T.size),T.getD n undef=T[n]:=fun n hn=>by simp[Array.getD,hn]
 simp only[TV];have:i<78:=h▸h1
 iterate 78 (rcases i with _ | i; · exact(e _ _).symm)
 omega
theorem tv_args(a:Value):#[a]++Array.replicate 77 undef=#[a,undef,undef,undef,undef,undef,undef,undef,undef,undef,undef,undef,undef,undef,undef,undef,undef,undef,undef,undef,undef,undef,undef,undef,undef,undef,undef,undef,undef,undef,undef,undef,undef,undef,undef,undef,undef,undef,undef,undef,undef,undef,undef,undef,undef,undef,undef,undef,undef,undef,undef,undef,undef,undef,undef,undef,undef,undef,undef,undef,undef,undef,undef,undef,undef,undef,undef,undef,undef,undef,undef,undef,undef,undef,undef,undef,undef,undef]:=by kernel_rfl
structure Us(h0:Array Obj)(L:Lv)(D:Option Addr)(N cc:Nat)(xs:List In)(b c:Nat)(v:Int)(s:St)(T:Array Value)(u:World):Prop extends Uo h0 78 L D N cc xs b v T u where
 t7:T.getD 7 undef=AA c
 t8:T.getD 8 undef=.bool true
 S:CellsAt u c (svs s)
 lc:b<c
theorem Us.hpo{h0:Array Obj}{L:Lv}{D:Option Addr}{N cc:Nat}{xs:List In}{b c:Nat}{v:Int}{s:St}:Hpo (Us h0 L D N cc xs b c v s):=fun _ _ _ h e=>{ h with P:=h.P.same e,rd:=h.rd.same e,hp:=h.hp.same e,S:=h.S.same e }
structure Ut(h0:Array Obj)(L:Lv)(D:Option Addr)(N cc:Nat)(xs:List In)(b c c2:Nat)(v:Int)(s s2:St)(T:Array Value)(u:World):Prop extends Us h0 L D N cc xs b c v s T u where
 t9:T.getD 9 undef=AA c2
 t10:T.getD 10 undef=.bool true
 S2:CellsAt u c2 (svs s2)
theorem Ut.hpo{h0:Array Obj}{L:Lv}{D:Option Addr}{N cc:Nat}{xs:List In}{b c c2:Nat}{v:Int}{s s2:St}:Hpo (Ut h0 L D N cc xs b c c2 v s s2):=fun _ _ _ h e=>{ h with P:=h.P.same e,rd:=h.rd.same e,hp:=h.hp.same e,S:=h.S.same e,S2:=h.S2.same e }
noncomputable def c8:Code:=cA cQ
noncomputable def c9:Code:=cA (cB cQ)
noncomputable def cE:Code:=cB (cB cQ)
theorem kQ_eq:cQ=.seq c8 (.seq c9 cE):=rfl
theorem kE:XR.C cE:=by show AH PP Ck Cn cE=true; kernel_rfl
theorem o8:∀ i∈[0,1,2],∀ o,(cO c8)[i]?=some o->OpOk XR gR o.op:=Bz (by kernel_rfl)
theorem o8b:∀ i∈[4,5,6,7,8,9],∀ o,(cO c8)[i]?=some o->OpOk XR gR o.op:=Bz (by kernel_rfl)
theorem o9:∀ i∈[0,1,2,3],∀ o,(cO c9)[i]?=some o->OpOk XR gR o.op:=Bz (by kernel_rfl)
theorem Vf:∀ i∈[5,6,7,8,9,10],∀ o,(cO c9)[i]?=some o->OpOk XR gR o.op:=Bz (by kernel_rfl)
section
variable {h0:Array Obj} {a:Option Addr} {len cap:Nat} {zs:List Int} {T:Array Value} {w:World} {L:Lv} {D:Option Addr} {N cc:Nat} {xs:List In} {v:Int} {b c:Nat} {s:St} {ok:Bool}
theorem a0{J:Nat->Value}(j0:J 0=.slice a len cap)(hr:IsRow .u8 w a len cap zs)(hq:Quarter w)(hp:Hp h0 w):c0.wp Tryz.prog (fun e t u=>e=.normal/\t.defers=[]/\Za h0 78 a len cap zs t.tmps u) ⟨TV J,[]⟩ w:=by
 rw[show c0=.region 0 _ false from rfl];go_wp;exact⟨rfl,rfl,rfl,rfl,hr,hq,hp⟩
theorem aX(H:Za h0 78 a len cap zs T w):cX.wp Tryz.prog (fun e t u=>t.defers=[]/\(e=.normal/\Za h0 78 a len cap zs t.tmps u\/e=.ret/\t.tmps.getD 2 undef=.bool true)) ⟨T,[]⟩ w:=by
 obtain⟨J,rfl⟩:∃ J,T=TV J:=⟨_,tv_of H.size⟩;have j0:J 0=.slice a len cap:=H.t0;rw[show cX=.seq (.region 1 _ false) (.cond (.tmp 13) (.seq (.region 2 _ false) .ret) .skip) from rfl];by_cases g9:1048576<len
 . have g1:(1048576:Int)<(len:Int):=by omega
   go_wp;exact⟨rfl,.inr ⟨rfl,rfl⟩⟩
 have g1:¬ (1048576:Int)<(len:Int):=by omega
 have g1d:decide ((1048576:Int)<(len:Int))=false:=decide_eq_false g1;have g2d:decide (1048576<len)=false:=decide_eq_false (by omega);go_wp;exact⟨rfl,.inl ⟨rfl,rfl,rfl,H.row,H.q,H.hp⟩⟩
theorem a3(H:Za h0 78 a len cap zs T w):c3.wp Tryz.prog (fun e t u=>e=.normal/\t.defers=[]/\∃ L D N cc xs b,Uh h0 78 L D N cc xs b t.tmps u) ⟨T,[]⟩ w:=by
 obtain⟨J,rfl⟩:∃ J,T=TV J:=⟨_,tv_of H.size⟩;have j0:J 0=.slice a len cap:=H.t0;rw[show c3=.region 3 _ false from rfl];go_wp;refine(Ej a len cap zs w H.row).mono ?_;rintro e w1 ⟨i,t,x,y,A,n,c,G,m,kk,fp,fq,fs,fz,b,ws,gs,D,N,cc,xs,rfl,⟨zA,zG,zD⟩,hn,hm,hN,I,G1,Y,_,B⟩;dsimp only
 iterate 13 go_step
 refine Ai rfl 29 (.tmp 3) (.tmp 17) rfl w1.heap.size rfl (AX i t x y A n c G m kk fp fq fs fz b) rfl _ (CellsAt.new w1 _ [_,_,_,_,_,_,_,_,_,_,_] 29 rfl) (Nat.le_refl _) Ad rfl ?_;intro w2 K P;go_wp;have rd:Ready ⟨i,t,x,y,A,n,c,G,m,kk,fp,fq,fs,fz,b,ws,gs⟩ D N cc xs w1:=⟨⟨I,G1,by show n<=_; omega,by show m<=_; omega,I.cel zA,G1.cel zG⟩,Y,zD,by omega,hN.2,H.q.step B⟩;have B2:=Aa (Ac w1) (.cells #[.int .i64 0,.int .i64 0,.int .i64 0,.int .i64 0,.slice none 0 0,.slice none 0 0,.int .i64 0,.int .i64 0,.int .i64 0,.int .i64 0,.int .i64 0] 29);have h1:=H.hp.size;have h2:=B.size;have h3:=H.q.lt
 exact⟨rfl,rfl,⟨i,t,x,y,A,n,c,G,m,kk,fp,fq,fs,fz,b,ws,gs⟩,D,N,cc,xs,w1.heap.size,rfl,rfl,rfl,P,(rd.step B2).keep rd.low K (Nat.le_refl _) (by omega),rd.low,((H.hp.step B).step B2).kept K (by omega),by omega,by omega,hN.1⟩
theorem a4(H:Uh h0 78 L D N cc xs b T w):wpOps Tryz.prog (cO c4) (fun e t u=>e=.normal/\t.defers=[]/\(Uh h0 78 L D N cc xs b t.tmps u/\t.tmps.getD 19 undef=L.val/\t.tmps.getD 20 undef=.slice D N cc)) [0,1] ⟨T,[]⟩ w:=by
 obtain⟨J,rfl⟩:∃ J,T=TV J:=⟨_,tv_of H.size⟩;have j3:J 3=AA b:=H.t3;have j4:J 4=.slice D N cc:=H.t4;have e:cO c4=#[_,_,_,_]:=rfl;rw[Ah (os:=[_,_]) rfl];simp only[e,List.getElem_toArray,List.getElem_cons_zero,List.getElem_cons_succ];refine Af rfl 29 (.tmp 3) rfl b j3 L.cs H.P Tryz.underlying29 rfl Ad ?_;go_wp;exact⟨rfl,rfl,⟨rfl,rfl,rfl,H.P,H.rd,H.lo,H.hp,H.lb,H.bp,H.sm⟩,rfl,rfl⟩
theorem a4b(H:Uh h0 78 L D N cc xs b T w)(h:T.getD 21 undef=.int .i64 v):wpOps Tryz.prog (cO c4) (fun e t u=>e=.normal/\t.defers=[]/\Uo h0 78 L D N cc xs b v t.tmps u) [3] ⟨T,[]⟩ w:=by
 obtain⟨J,rfl⟩:∃ J,T=TV J:=⟨_,tv_of H.size⟩;have j3:J 3=AA b:=H.t3;have j4:J 4=.slice D N cc:=H.t4;have jv:J 21=.int .i64 v:=h;have e:cO c4=#[_,_,_,_]:=rfl;rw[Ah (os:=[_]) rfl];simp only[e,List.getElem_toArray,List.getElem_cons_zero,List.getElem_cons_succ];go_wp;exact⟨rfl,rfl,⟨⟨rfl,rfl,rfl,H.P,H.rd,H.lo,H.hp,H.lb,H.bp,H.sm⟩,rfl⟩⟩
theorem a5(H:Uo h0 78 L D N cc xs b (L.score xs N) T w):c5.wp Tryz.prog (fun e t u=>e=.normal/\t.defers=[]/\Uo h0 78 L D N cc xs b (L.score xs N) t.tmps u/\t.tmps.getD 6 undef=.int .i64 (L.score xs N)) ⟨T,[]⟩ w:=by
 obtain⟨J,rfl⟩:∃ J,T=TV J:=⟨_,tv_of H.size⟩;have j3:J 3=AA b:=H.t3;have j4:J 4=.slice D N cc:=H.t4;have j5:J 5=.int .i64 (L.score xs N):=H.t5;rw[show c5=.region 5 _ false from rfl];have C:=hid (EX L D N cc xs w H.rd.lv.I H.rd.lv.J H.rd.lv.n H.rd.lv.m H.rd.ins (by have:=H.sm; omega));generalize L.score xs N=v at *;refine wp_region_lit ?_;refine Af rfl 29 (.tmp 3) rfl b j3 L.cs H.P Tryz.underlying29 rfl Ad ?_;go_wp;refine C.out.mono ?_;rintro e w1 ⟨rfl,B⟩;dsimp only;go_wp;exact⟨rfl,rfl,⟨⟨rfl,rfl,rfl,H.P.step B,H.rd.step B,H.lo,H.hp.step B,H.lb,H.bp,H.sm⟩,rfl⟩,rfl⟩
theorem a6(H:Uo h0 78 L D N cc xs b v T w)(h6:T.getD 6 undef=.int .i64 v):c6.wp Tryz.prog (fun e t u=>t.defers=[]/\(e=.normal/\(Uo h0 78 L D N cc xs b v t.tmps u/\0<=v)\/e=.ret/\t.tmps.getD 2 undef=.bool true)) ⟨T,[]⟩ w:=by
 obtain⟨J,rfl⟩:∃ J,T=TV J:=⟨_,tv_of H.size⟩;have j3:J 3=AA b:=H.t3;have j4:J 4=.slice D N cc:=H.t4;have j5:J 5=.int .i64 v:=H.t5;have j6:J 6=.int .i64 v:=h6;rw[show c6=.seq (.region 6 _ false) (.cond (.tmp 31) (.seq (.region 7 _ false) .ret) .skip) from rfl];by_cases hv:v<0
 . have hd:decide (v<0)=true:=decide_eq_true hv;go_wp;exact⟨rfl,.inr ⟨rfl,rfl⟩⟩
 . have hd:decide (v<0)=false:=decide_eq_false hv;go_wp;exact⟨rfl,.inl ⟨rfl,⟨⟨rfl,rfl,rfl,H.P,H.rd,H.lo,H.hp,H.lb,H.bp,H.sm⟩,rfl⟩,by omega⟩⟩
theorem a8(H:Uo h0 78 L D N cc xs b v T w):wpOps Tryz.prog (cO c8) (fun e t u=>e=.normal/\t.defers=[]/\(Uo h0 78 L D N cc xs b v t.tmps u/\t.tmps.getD 36 undef=L.val/\t.tmps.getD 37 undef=.slice D N cc/\t.tmps.getD 38 undef=.int .i64 v)) [0,1,2] ⟨T,[]⟩ w:=by
 obtain⟨J,rfl⟩:∃ J,T=TV J:=⟨_,tv_of H.size⟩;have j3:J 3=AA b:=H.t3;have j4:J 4=.slice D N cc:=H.t4;have j5:J 5=.int .i64 v:=H.t5;have e:cO c8=#[_,_,_,_,_,_,_,_,_,_]:=rfl;rw[Ah (os:=[_,_,_]) rfl];simp only[e,List.getElem_toArray,List.getElem_cons_zero,List.getElem_cons_succ];refine Af rfl 29 (.tmp 3) rfl b j3 L.cs H.P Tryz.underlying29 rfl Ad ?_;go_wp;exact⟨rfl,rfl,⟨⟨rfl,rfl,rfl,H.P,H.rd,H.lo,H.hp,H.lb,H.bp,H.sm⟩,rfl⟩,rfl,rfl,rfl⟩
theorem a8b(H:Uo h0 78 L D N cc xs b v T w)(hs:T.getD 39 undef=.tuple #[sva s,.bool true]):wpOps Tryz.prog (cO c8) (fun e t u=>e=.normal/\t.defers=[]/\(∃ c,Us h0 L D N cc xs b c v s t.tmps u)) [4,5,6,7,8,9] ⟨T,[]⟩ w:=by
 obtain⟨J,rfl⟩:∃ J,T=TV J:=⟨_,tv_of H.size⟩;have j3:J 3=AA b:=H.t3;have j4:J 4=.slice D N cc:=H.t4;have j5:J 5=.int .i64 v:=H.t5;have js:J 39=.tuple #[sva s,.bool true]:=hs;have e:cO c8=#[_,_,_,_,_,_,_,_,_,_]:=rfl;rw[Ah (os:=[_,_,_,_,_,_]) rfl];simp only[e,List.getElem_toArray,List.getElem_cons_zero,List.getElem_cons_succ]
 iterate 12 go_step
 have B2:=Aa (Ac w) (.cells #[.int .i64 0,.int .i64 0,.int .i64 0,.int .i64 0,.int .i64 0,.int .i64 0,.int .i64 0,.bool false,.bool false] 34);have h1:=H.P.lt;have h2:=H.hp.size;refine Ai rfl 34 (.tmp 7) (.tmp 40) rfl w.heap.size rfl (svs s) rfl _ (CellsAt.new w _ [_,_,_,_,_,_,_,_,_] 34 rfl) (Nat.le_refl _) Ae rfl ?_;intro w2 K S2;go_wp;exact⟨rfl,rfl,w.heap.size,⟨⟨rfl,rfl,rfl,(H.P.step B2).kept K (by omega),(H.rd.step B2).keep H.rd.low K (by omega) (by omega),H.lo,(H.hp.step B2).kept K (by omega),H.lb,H.bp,H.sm⟩,rfl⟩,rfl,rfl,S2,h1⟩
theorem a9(H:Us h0 L D N cc xs b c v s T w)(hv:0<=v/\v<=1000):wpOps Tryz.prog (cO c9) (fun e t u=>e=.normal/\t.defers=[]/\(Us h0 L D N cc xs b c v s t.tmps u/\t.tmps.getD 43 undef=L.val/\t.tmps.getD 44 undef=.slice D N cc/\t.tmps.getD 46 undef=.int .i64 (v-1))) [0,1,2,3] ⟨T,[]⟩ w:=by
 obtain⟨J,rfl⟩:∃ J,T=TV J:=⟨_,tv_of H.size⟩;have j3:J 3=AA b:=H.t3;have j4:J 4=.slice D N cc:=H.t4;have j5:J 5=.int .i64 v:=H.t5;have j7:J 7=AA c:=H.t7;have j8:J 8=.bool true:=H.t8;have hw1:IntKind.i64.wrap (v-1)=v-1:=IntWalk.i64_in _ (by omega);have e:cO c9=#[_,_,_,_,_,_,_,_,_,_,_]:=rfl;rw[Ah (os:=[_,_,_,_]) rfl];simp only[e,List.getElem_toArray,List.getElem_cons_zero,List.getElem_cons_succ];refine Af rfl 29 (.tmp 3) rfl b j3 L.cs H.P Tryz.underlying29 rfl Ad ?_;go_wp;exact⟨rfl,rfl,⟨⟨⟨rfl,rfl,rfl,H.P,H.rd,H.lo,H.hp,H.lb,H.bp,H.sm⟩,rfl⟩,rfl,rfl,H.S,H.lc⟩,rfl,rfl,rfl⟩
theorem Vg{s2:St}(H:Us h0 L D N cc xs b c v s T w)(hs:T.getD 47 undef=.tuple #[sva s2,.bool true]):wpOps Tryz.prog (cO c9) (fun e t u=>e=.normal/\t.defers=[]/\(∃ c2,Ut h0 L D N cc xs b c c2 v s s2 t.tmps u)) [5,6,7,8,9,10] ⟨T,[]⟩ w:=by
 obtain⟨J,rfl⟩:∃ J,T=TV J:=⟨_,tv_of H.size⟩;have j3:J 3=AA b:=H.t3;have j4:J 4=.slice D N cc:=H.t4;have j5:J 5=.int .i64 v:=H.t5;have j7:J 7=AA c:=H.t7;have j8:J 8=.bool true:=H.t8;have js:J 47=.tuple #[sva s2,.bool true]:=hs;have e:cO c9=#[_,_,_,_,_,_,_,_,_,_,_]:=rfl;rw[Ah (os:=[_,_,_,_,_,_]) rfl];simp only[e,List.getElem_toArray,List.getElem_cons_zero,List.getElem_cons_succ]
 iterate 12 go_step
 have B2:=Aa (Ac w) (.cells #[.int .i64 0,.int .i64 0,.int .i64 0,.int .i64 0,.int .i64 0,.int .i64 0,.int .i64 0,.bool false,.bool false] 34);have h1:=H.P.lt;have h2:=H.hp.size;have h3:=H.S.lt;refine Ai rfl 34 (.tmp 9) (.tmp 48) rfl w.heap.size rfl (svs s2) rfl _ (CellsAt.new w _ [_,_,_,_,_,_,_,_,_] 34 rfl) (Nat.le_refl _) Ae rfl ?_;intro w2 K S2;go_wp;exact⟨rfl,rfl,w.heap.size,⟨⟨⟨rfl,rfl,rfl,(H.P.step B2).kept K (by omega),(H.rd.step B2).keep H.rd.low K (by omega) (by omega),H.lo,(H.hp.step B2).kept K (by omega),H.lb,H.bp,H.sm⟩,rfl⟩,rfl,rfl,(H.S.step B2).kept K (by omega),H.lc⟩,rfl,rfl,S2⟩
theorem aE{c2:Nat}{s2:St}(H:Ut h0 L D N cc xs b c c2 v s s2 T w)(h1:s.d=true)(h2:s2.d=false)(h3:s.g=L.gs.length)(h4:LN L.fp L.fq L.fs L.fz s.ax s.ay=true):cE.wp Tryz.prog (fun e t u=>t.defers=[]/\(e=.normal/\False\/e=.ret/\t.tmps.getD 2 undef=.bool true)) ⟨T,[]⟩ w:=by
 obtain⟨J,rfl⟩:∃ J,T=TV J:=⟨_,tv_of H.size⟩;have j3:J 3=AA b:=H.t3;have j4:J 4=.slice D N cc:=H.t4;have j5:J 5=.int .i64 v:=H.t5;have j7:J 7=AA c:=H.t7;have j8:J 8=.bool true:=H.t8;have j9:J 9=AA c2:=H.t9;have j10:J 10=.bool true:=H.t10;have hm:L.gs.length=L.m:=H.rd.lv.J.1;have hg:s.g=(L.m:Int):=by rw[h3,hm]
 have C:=hid (FB L.fp L.fq L.fs L.fz s.ax s.ay w);rw[h4] at C;have s1:=H.S.cell 1 _ rfl;have s2':=H.S.cell 2 _ rfl;have s6:=H.S.cell 6 _ rfl;have s7:=H.S.cell 7 _ rfl;have sl:=H.S.lt;have r7:=H.S2.cell 7 _ rfl;have rl:=H.S2.lt;have p5:=H.P.cell 5 _ rfl;have p6:=H.P.cell 6 _ rfl;have p7:=H.P.cell 7 _ rfl;have p8:=H.P.cell 8 _ rfl;have p9:=H.P.cell 9 _ rfl;have pl:=H.P.lt;rw[h1] at s7;rw[h2] at r7;rw[hg] at s6;rw[show cE=.seq (.region 10 _ false) .ret from rfl];clear H;go_wp2_with fail;refine C.out.mono ?_;rintro e w1 ⟨rfl,B⟩;dsimp only;go_wp;exact⟨rfl,.inr ⟨rfl,rfl⟩⟩
end
theorem way(a:Option Addr)(len cap:Nat)(zs:List Int)(W:World)(hr:IsRow .u8 W a len cap zs)(ca:Cel W a)(hq:Quarter W)(hG:XR.G<=W.heap.size):Ren.Way PP (Lx W) (Bb (Frame.enter PP fV #[.slice a len cap] .normal) []) W:=by
 refine Ren.Way.of_co (W:=W) (RO:=Lt W.heap.size) (O:=fun _=>False) ?_ (Ren.Alike.refl W) (fun j hj=>hj);have ha:ArrR XR.L (vr W W.heap.size) (#[.slice a len cap]++Array.replicate 77 undef) (#[.slice a len cap]++Array.replicate 77 undef) :=
  (ArrR.one (Br ca)).append (.replicate _ (.tuple rfl fun i x y h=>by simp at h))
 have h:Sit XR gR W.heap.size (vr W W.heap.size) (fun _=>False) (fun j=>W.heap[j]?) (fun T u=>T=#[.slice a len cap]++Array.replicate 77 undef/\(IsRow .u8 u a len cap zs/\Quarter u)/\Hp (vh W W.heap.size) u) (#[.slice a len cap]++Array.replicate 77 undef) (fun _=>False) W :=
  Sit.start (Nat.le_refl _) hG (CS hq fun _ _=>rfl) (fun j h=>h.elim) ha ha (fun _ _=>rfl) (fun u hu=>⟨rfl,⟨hr.veil ca (Hp.refl hu),hq.veil (Hp.refl hu)⟩,Hp.refl hu⟩)
 rw[Ds fV_at (c:=kB) rfl,kB_eq];refine h.ctl rfl (fun w1=>AF) ?_;refine h.wp AJ AK Av (fun T u u' x e=>⟨x.1,⟨x.2.1.1.same e,x.2.1.2.same e⟩,x.2.2.same e⟩) nn (Am fV_at) k0 (Q1:=Za (vh W W.heap.size) 78 a len cap zs) (fun T u x=>?_) fun T1 O1 y1 h1=>?_
 . rw[x.1,tv_args];exact a0 (J:=fun z=>match z with | 0=>.slice a len cap | _=>undef) rfl x.2.1.1 x.2.1.2 x.2.2
 refine h1.ctl rfl (fun w1=>AF) ?_;refine h1.wp2 AJ AK Av Za.hpo nn (Am fV_at) kX (Q1:=Za (vh W W.heap.size) 78 a len cap zs) (Q2:=fun T u=>T.getD 2 undef=.bool true) (fun T u x=>aX x) (fun T2 O2 y2 h2=>?_) (fun k T2 O2 y2 h2=>h2.done (fun _ _=>rfl) fV_at (by kernel_rfl) (by rfl) fun T u x=>x);refine h2.ctl rfl (fun w1=>AF) ?_;refine h2.wp AJ AK Av Za.hpo nn (Am fV_at) k3 (Q1:=fun T u=>∃ L D N cc xs b,Uh (vh W W.heap.size) 78 L D N cc xs b T u) (fun T u x=>a3 x) fun T3 O3 y3 h3=>?_;obtain⟨L,h3⟩:=h3.split;obtain⟨D,h3⟩:=h3.split;obtain⟨N,h3⟩:=h3.split;obtain⟨cc,h3⟩:=h3.split;obtain⟨xs,h3⟩:=h3.split
 obtain⟨b,h3⟩:=h3.split;refine h3.ctl rfl (fun w1=>AF) ?_;refine h3.ctl rfl (fun w1=>by rw[show c4=.region 4 (cO c4) false from rfl]; exact Ba) ?_;refine h3.ops (l1:=[0,1]) (l2:=[2,3]) AJ AK Av Uh.hpo nn (Am fV_at) o4 (Q1:=fun T u=>Uh (vh W W.heap.size) 78 L D N cc xs b T u/\T.getD 19 undef=L.val/\T.getD 20 undef=.slice D N cc) (fun T u x=>a4 x) fun T4 O4 y4 h4=>?_;refine h4.runScore hG (i:=2) (l:=[3]) (d:=21) (L:=L) (A:=D) (n:=N) (cap:=cc) (xs:=xs) rfl rfl rfl rfl (fun T u x=>⟨x.2,x.1.rd⟩) fun B2 y5 hB h5=>?_
 refine Sit.ops (l1:=[3]) (l2:=[]) (h5.mono (Q1:=fun T u=>Uh (vh W W.heap.size) 78 L D N cc xs b T u/\T.getD 21 undef=.int .i64 (L.score xs N)) fun T u ⟨T0,x,e⟩=>?_) AJ AK Av (fun T u u' x e=>⟨Uh.hpo T u u' x.1 e,x.2⟩) nn (Am fV_at) o4b (Q1:=Uo (vh W W.heap.size) 78 L D N cc xs b (L.score xs N)) (fun T u x=>a4b x.1 x.2) fun T6 O6 y6 h6=>?_
 . subst e;exact⟨x.1.put (by omega) _,A8 (by rw[x.1.size]; omega)⟩
 refine h6.ctl rfl (fun w1=>BG) ?_;rw[kR_eq];refine h6.ctl rfl (fun w1=>AF) ?_;refine h6.wp AJ AK Av Uo.hpo nn (Am fV_at) k5 (Q1:=fun T u=>Uo (vh W W.heap.size) 78 L D N cc xs b (L.score xs N) T u/\T.getD 6 undef=.int .i64 (L.score xs N)) (fun T u x=>a5 x) fun T7 O7 y7 h7=>?_;refine h7.ctl rfl (fun w1=>AF) ?_
 refine h7.wp2 AJ AK Av (fun T u u' x e=>⟨Uo.hpo T u u' x.1 e,x.2⟩) nn (Am fV_at) k6 (Q1:=fun T u=>Uo (vh W W.heap.size) 78 L D N cc xs b (L.score xs N) T u/\0<=L.score xs N) (Q2:=fun T u=>T.getD 2 undef=.bool true) (fun T u x=>a6 x.1 x.2) (fun T8 O8 y8 h8=>?_) (fun k T8 O8 y8 h8=>h8.done (fun j hj=>hB j hj) fV_at (by kernel_rfl) (by rfl) fun T u x=>x);have hx:=h8.fact fun T u x=>(⟨x.1.rd.ins.1,x.2,x.1.sm⟩:xs.length=N/\0<=L.score xs N/\N<=63);obtain⟨hok,i,i1,i2,i3,i4,i5,i6,i7,i8,i9⟩:=IL hx.1 hx.2.1;have hk1:=F6 hok i2;have hk2:=F6 (j:=i-1) hok (by omega)
 have e1:L.ans xs N (L.score xs N)=.tuple #[sva (L.at xs i),.bool true]:=by rw[i3,Lv.ans_eq,fin_at hk1,hk1]
 have e2:L.ans xs N (L.score xs N-1)=.tuple #[sva (L.at xs (i-1)),.bool true]:=by
  rw[show L.score xs N-1=((i-1:Nat):Int) by rw[i3]; omega,Lv.ans_eq,fin_at hk2,hk2]
 rw[kQ_eq];refine h8.ctl rfl (fun w1=>AF) ?_;refine h8.ctl rfl (fun w1=>by rw[show c8=.region 8 (cO c8) false from rfl]; exact Ba) ?_;refine h8.ops (l1:=[0,1,2]) (l2:=[3,4,5,6,7,8,9]) AJ AK Av (fun T u u' x e=>⟨Uo.hpo T u u' x.1 e,x.2⟩) nn (Am fV_at) o8 (Q1:=fun T u=>Uo (vh W W.heap.size) 78 L D N cc xs b (L.score xs N) T u/\T.getD 36 undef=L.val/\T.getD 37 undef=.slice D N cc/\T.getD 38 undef=.int .i64 (L.score xs N)) (fun T u x=>a8 x.1) fun T9 O9 y9 h9=>?_;have hz:=h9.slot (i:=38) (.int .i64 (L.score xs N)) fun T u x=>x.2.2.2
 refine h9.runTo hG (i:=3) (l:=[4,5,6,7,8,9]) (d:=39) (z:=.tmp 38) (k0:=L.score xs N) (L:=L) (A:=D) (n:=N) (cap:=cc) (xs:=xs) rfl rfl rfl rfl (by exact hz) (fun T u x=>⟨⟨x.2.1,x.2.2.1⟩,x.1.rd⟩) fun B3 y10 hB3 h10=>?_
 refine Sit.ops (l1:=[4,5,6,7,8,9]) (l2:=[]) (h10.mono (Q1:=fun T u=>Uo (vh W W.heap.size) 78 L D N cc xs b (L.score xs N) T u/\T.getD 39 undef=.tuple #[sva (L.at xs i),.bool true]) fun T u ⟨T0,x,e⟩=>?_) AJ AK Av (fun T u u' x e=>⟨Uo.hpo T u u' x.1 e,x.2⟩) nn (Am fV_at) o8b (Q1:=fun T u=>∃ c,Us (vh W W.heap.size) L D N cc xs b c (L.score xs N) (L.at xs i) T u) (fun T u x=>a8b x.1 x.2) fun T11 O11 y11 h11=>?_
 . subst e;exact⟨x.1.put (by omega) _,(A8 (by rw[x.1.size]; omega)).trans e1⟩
 obtain⟨c,h11⟩:=h11.split;refine h11.ctl rfl (fun w1=>BG) ?_;refine h11.ctl rfl (fun w1=>AF) ?_;refine h11.ctl rfl (fun w1=>by rw[show c9=.region 9 (cO c9) false from rfl]; exact Ba) ?_;refine h11.ops (l1:=[0,1,2,3]) (l2:=[4,5,6,7,8,9,10]) AJ AK Av Us.hpo nn (Am fV_at) o9 (Q1:=fun T u=>Us (vh W W.heap.size) L D N cc xs b c (L.score xs N) (L.at xs i) T u/\T.getD 43 undef=L.val/\T.getD 44 undef=.slice D N cc/\T.getD 46 undef=.int .i64 (L.score xs N-1)) (fun T u x=>a9 x ⟨hx.2.1,by rw[i3]; omega⟩) fun T12 O12 y12 h12=>?_;have hz2:=h12.slot (i:=46) (.int .i64 (L.score xs N-1)) fun T u x=>x.2.2.2
 refine h12.runTo hG (i:=4) (l:=[5,6,7,8,9,10]) (d:=47) (z:=.tmp 46) (k0:=L.score xs N-1) (L:=L) (A:=D) (n:=N) (cap:=cc) (xs:=xs) rfl rfl rfl rfl (by exact hz2) (fun T u x=>⟨⟨x.2.1,x.2.2.1⟩,x.1.rd⟩) fun B4 y13 hB4 h13=>?_
 refine Sit.ops (l1:=[5,6,7,8,9,10]) (l2:=[]) (h13.mono (Q1:=fun T u=>Us (vh W W.heap.size) L D N cc xs b c (L.score xs N) (L.at xs i) T u/\T.getD 47 undef=.tuple #[sva (L.at xs (i-1)),.bool true]) fun T u ⟨T0,x,e⟩=>?_) AJ AK Av (fun T u u' x e=>⟨Us.hpo T u u' x.1 e,x.2⟩) nn (Am fV_at) Vf (Q1:=fun T u=>∃ c2,Ut (vh W W.heap.size) L D N cc xs b c c2 (L.score xs N) (L.at xs i) (L.at xs (i-1)) T u) (fun T u x=>Vg x.1 x.2) fun T14 O14 y14 h14=>?_
 . subst e;exact⟨⟨x.1.toUo.put (by omega) _,(Aj (by omega)).trans x.1.t7,(Aj (by omega)).trans x.1.t8,x.1.S,x.1.lc⟩,(A8 (by rw[x.1.size]; omega)).trans e2⟩
 obtain⟨c2,h14⟩:=h14.split;refine h14.ctl rfl (fun w1=>BG) ?_;exact h14.wp2 AJ AK Av Ut.hpo nn (Am fV_at) kE (Q1:=fun _ _=>False) (Q2:=fun T u=>T.getD 2 undef=.bool true) (fun T u x=>aE x i6 i7 i8 i9) (fun T7 O7 y7 h7=>h7.fact fun _ _ x=>x.elim) (fun k T7 O7 y7 h7=>h7.done (fun j hj=>((hB4 j hj).trans (hB3 j hj)).trans (hB j hj)) fV_at (by kernel_rfl) (by rfl) fun T u x=>x)
end Go.Proofs.YtaemcekcancpdaaGreatDoor.fnScoreW
