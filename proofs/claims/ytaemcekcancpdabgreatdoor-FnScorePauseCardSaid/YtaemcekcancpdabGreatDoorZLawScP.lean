import Derived.Test.YtaemcekcancpdabGreatDoorZRunScM
set_option linter.all false
set_option maxRecDepth 100000
set_option maxHeartbeats 8000000
open Go.Lib
namespace Go.Proofs.YtaemcekcancpdabGreatDoor.fnScorePauseW
open Go.RowKit
open M
open Ren
open Go.Conc
noncomputable abbrev kB:Code:=EI Tryz.f6
noncomputable def c0:Code:=cA kB
noncomputable def cX:Code:=cA (cB kB)
noncomputable def c3:Code:=cA (cB (cB kB))
noncomputable def c4:Code:=cA (cB (cB (cB kB)))
noncomputable def cR:Code:=cB (cB (cB (cB kB)))
noncomputable def c5:Code:=cA cR
noncomputable def c6:Code:=cA (cB cR)
noncomputable def cQ:Code:=cB (cB cR)
theorem kB_eq:kB=.seq c0 (.seq cX (.seq c3 (.seq c4 cR))):=rfl
theorem UP:cR=.seq c5 (.seq c6 cQ):=rfl
abbrev fV:FuncId:=6
theorem fV_at:PP.funcs[fV]?=some Tryz.f6:=Tryz.func6
theorem k0:XR.C c0:=by show AH PP CH CO c0=true; kernel_rfl
theorem kX:XR.C cX:=by show AH PP CH CO cX=true; kernel_rfl
theorem k3:XR.C c3:=by show AH PP CH CO c3=true; kernel_rfl
theorem k5:XR.C c5:=by show AH PP CH CO c5=true; kernel_rfl
theorem k6:XR.C c6:=by show AH PP CH CO c6=true; kernel_rfl
theorem o4:∀ i∈[0,1],∀ o,(cO c4)[i]?=some o->OpOk XR gR o.op:=B8 (by kernel_rfl)
theorem o4b:∀ i∈[3],∀ o,(cO c4)[i]?=some o->OpOk XR gR o.op:=B8 (by kernel_rfl)
abbrev TV(J:Nat->Value):Array Value:=#[J 0,J 1,J 2,J 3,J 4,J 5,J 6,J 7,J 8,J 9,J 10,J 11,J 12,J 13,J 14,J 15,J 16,J 17,J 18,J 19,J 20,J 21,J 22,J 23,J 24,J 25,J 26,J 27,J 28,J 29,J 30,J 31,J 32,J 33,J 34,J 35,J 36,J 37,J 38,J 39,J 40,J 41,J 42,J 43,J 44,J 45,J 46,J 47,J 48,J 49]
theorem tv_of{T:Array Value}(h:T.size=50):T=TV fun n=>T.getD n undef:=by
 refine Array.ext h fun i h1 h2=>?_;have e:∀ n (hn:n<T.size),T.getD n undef=T[n]:=fun n hn=>by simp[Array.getD,hn]
 simp only[TV];have:i<50:=h▸h1
 iterate 50 (rcases i with _ | i; · exact(e _ _).symm)
 omega
theorem tv_args(a:Value):#[a]++Array.replicate 49 undef=#[a,undef,undef,undef,undef,undef,undef,undef,undef,undef,undef,undef,undef,undef,undef,undef,undef,undef,undef,undef,undef,undef,undef,undef,undef,undef,undef,undef,undef,undef,undef,undef,undef,undef,undef,undef,undef,undef,undef,undef,undef,undef,undef,undef,undef,undef,undef,undef,undef,undef]:=by kernel_rfl
structure Ux(h0:Array Obj)(L:Lv)(D:Option Addr)(N cc:Nat)(xs:List In)(b:Nat)(v:Int)(E:Option Addr)(ce:Nat)(T:Array Value)(u:World):Prop extends Uo h0 50 L D N cc xs b v T u where
 t7:T.getD 7 undef=.slice E (N+1) ce
 rx:Ready L E (N+1) ce (zP::xs) u
theorem Ux.hpo{h0:Array Obj}{L:Lv}{D:Option Addr}{N cc:Nat}{xs:List In}{b:Nat}{v:Int}{E:Option Addr}{ce:Nat}:Hpo (Ux h0 L D N cc xs b v E ce):=fun _ _ _ h e=>{ h with P:=h.P.same e,rd:=h.rd.same e,hp:=h.hp.same e,rx:=h.rx.same e }
theorem Ux.put{h0:Array Obj}{L:Lv}{D:Option Addr}{N cc:Nat}{xs:List In}{b d:Nat}{v:Int}{E:Option Addr}{ce:Nat}{T:Array Value}{u:World}(x:Ux h0 L D N cc xs b v E ce T u)(hd:7<d)(z:Value):Ux h0 L D N cc xs b v E ce (Bo T (some d) z) u:=⟨x.toUo.put (by omega) z,(Ay (by omega)).trans x.t7,x.rx⟩
noncomputable def c8:Code:=cA cQ
noncomputable def c9:Code:=cA (cA (cB cQ))
noncomputable def c10:Code:=match cB (cA (cB cQ)) with | .cond _ x _=>cA x | _=>.skip
noncomputable def c11:Code:=cA (cB (cB cQ))
theorem kQ_eq:cQ=.seq c8 (.seq (.seq c9 (.cond (.tmp 39) (.seq c10 .ret) .skip)) (.seq c11 .ret)):=rfl
theorem Vi:XR.C c8:=by show AH PP CH CO c8=true; kernel_rfl
theorem Vj:XR.C c9:=by show AH PP CH CO c9=true; kernel_rfl
theorem VF:∀ i∈[0,1],∀ o,(cO c10)[i]?=some o->OpOk XR gR o.op:=B8 (by kernel_rfl)
theorem Vk:∀ i∈[3,4],∀ o,(cO c10)[i]?=some o->OpOk XR gR o.op:=B8 (by kernel_rfl)
theorem o11:∀ i∈[0,1],∀ o,(cO c11)[i]?=some o->OpOk XR gR o.op:=B8 (by kernel_rfl)
theorem o11b:∀ i∈[3,4,5,6],∀ o,(cO c11)[i]?=some o->OpOk XR gR o.op:=B8 (by kernel_rfl)
section
variable {h0:Array Obj} {a:Option Addr} {len cap:Nat} {zs:List Int} {T:Array Value} {w:World} {L:Lv} {D:Option Addr} {N cc:Nat} {xs:List In} {v:Int} {b c:Nat} {s:St} {ok:Bool}
theorem a0{J:Nat->Value}(j0:J 0=.slice a len cap)(hr:IsRow .u8 w a len cap zs)(hq:Quarter w)(hp:Hp h0 w):c0.wp Tryz.prog (fun e t u=>e=.normal/\t.defers=[]/\Za h0 50 a len cap zs t.tmps u) ⟨TV J,[]⟩ w:=by
 rw[show c0=.region 0 _ false from rfl];go_wp;exact⟨rfl,rfl,rfl,rfl,hr,hq,hp⟩
theorem aX(H:Za h0 50 a len cap zs T w):cX.wp Tryz.prog (fun e t u=>t.defers=[]/\(e=.normal/\Za h0 50 a len cap zs t.tmps u\/e=.ret/\t.tmps.getD 2 undef=.bool true)) ⟨T,[]⟩ w:=by
 obtain⟨J,rfl⟩:∃ J,T=TV J:=⟨_,tv_of H.size⟩;have j0:J 0=.slice a len cap:=H.t0;rw[show cX=.seq (.region 1 _ false) (.cond (.tmp 10) (.seq (.region 2 _ false) .ret) .skip) from rfl];by_cases g9:1048576<len
 . have g1:(1048576:Int)<(len:Int):=by omega
   go_wp;exact⟨rfl,.inr ⟨rfl,rfl⟩⟩
 have g1:¬ (1048576:Int)<(len:Int):=by omega
 have g1d:decide ((1048576:Int)<(len:Int))=false:=decide_eq_false g1;have g2d:decide (1048576<len)=false:=decide_eq_false (by omega);go_wp;exact⟨rfl,.inl ⟨rfl,rfl,rfl,H.row,H.q,H.hp⟩⟩
theorem a3(H:Za h0 50 a len cap zs T w):c3.wp Tryz.prog (fun e t u=>e=.normal/\t.defers=[]/\∃ L D N cc xs b,Uh h0 50 L D N cc xs b t.tmps u) ⟨T,[]⟩ w:=by
 obtain⟨J,rfl⟩:∃ J,T=TV J:=⟨_,tv_of H.size⟩;have j0:J 0=.slice a len cap:=H.t0;rw[show c3=.region 3 _ false from rfl];go_wp;refine(LX a len cap zs w H.row).mono ?_;rintro e w1 ⟨i,t,x,y,A,n,c,G,m,kk,fp,fq,fs,fz,b,ws,gs,D,N,cc,xs,rfl,⟨zA,zG,zD⟩,hn,hm,hN,I,G1,Y,_,B⟩;dsimp only
 iterate 13 go_step
 refine Ah rfl 29 (.tmp 3) (.tmp 14) rfl w1.heap.size rfl (AU i t x y A n c G m kk fp fq fs fz b) rfl _ (CellsAt.new w1 _ [_,_,_,_,_,_,_,_,_,_,_] 29 rfl) (Nat.le_refl _) Ag rfl ?_;intro w2 K P;go_wp;have rd:Ready ⟨i,t,x,y,A,n,c,G,m,kk,fp,fq,fs,fz,b,ws,gs⟩ D N cc xs w1:=⟨⟨I,G1,by show n<=_; omega,by show m<=_; omega,I.cel zA,G1.cel zG⟩,Y,zD,by omega,hN.2,H.q.step B⟩;have B2:=Aa (Ac w1) (.cells #[.int .i64 0,.int .i64 0,.int .i64 0,.int .i64 0,.slice none 0 0,.slice none 0 0,.int .i64 0,.int .i64 0,.int .i64 0,.int .i64 0,.int .i64 0] 29);have h1:=H.hp.size;have h2:=B.size;have h3:=H.q.lt
 exact⟨rfl,rfl,⟨i,t,x,y,A,n,c,G,m,kk,fp,fq,fs,fz,b,ws,gs⟩,D,N,cc,xs,w1.heap.size,rfl,rfl,rfl,P,(rd.step B2).keep rd.low K (Nat.le_refl _) (by omega),rd.low,((H.hp.step B).step B2).kept K (by omega),by omega,by omega,hN.1⟩
theorem a4(H:Uh h0 50 L D N cc xs b T w):wpOps Tryz.prog (cO c4) (fun e t u=>e=.normal/\t.defers=[]/\(Uh h0 50 L D N cc xs b t.tmps u/\t.tmps.getD 16 undef=L.val/\t.tmps.getD 17 undef=.slice D N cc)) [0,1] ⟨T,[]⟩ w:=by
 obtain⟨J,rfl⟩:∃ J,T=TV J:=⟨_,tv_of H.size⟩;have j3:J 3=AJ b:=H.t3;have j4:J 4=.slice D N cc:=H.t4;have e:cO c4=#[_,_,_,_]:=rfl;rw[Ar (os:=[_,_]) rfl];simp only[e,List.getElem_toArray,List.getElem_cons_zero,List.getElem_cons_succ];refine Af rfl 29 (.tmp 3) rfl b j3 L.cs H.P Tryz.underlying29 rfl Ag ?_;go_wp;exact⟨rfl,rfl,⟨rfl,rfl,rfl,H.P,H.rd,H.lo,H.hp,H.lb,H.bp,H.sm⟩,rfl,rfl⟩
theorem a4b(H:Uh h0 50 L D N cc xs b T w)(h:T.getD 18 undef=.int .i64 v):wpOps Tryz.prog (cO c4) (fun e t u=>e=.normal/\t.defers=[]/\Uo h0 50 L D N cc xs b v t.tmps u) [3] ⟨T,[]⟩ w:=by
 obtain⟨J,rfl⟩:∃ J,T=TV J:=⟨_,tv_of H.size⟩;have j3:J 3=AJ b:=H.t3;have j4:J 4=.slice D N cc:=H.t4;have jv:J 18=.int .i64 v:=h;have e:cO c4=#[_,_,_,_]:=rfl;rw[Ar (os:=[_]) rfl];simp only[e,List.getElem_toArray,List.getElem_cons_zero,List.getElem_cons_succ];go_wp;exact⟨rfl,rfl,⟨⟨rfl,rfl,rfl,H.P,H.rd,H.lo,H.hp,H.lb,H.bp,H.sm⟩,rfl⟩⟩
theorem a5(H:Uo h0 50 L D N cc xs b (L.score xs N) T w):c5.wp Tryz.prog (fun e t u=>e=.normal/\t.defers=[]/\Uo h0 50 L D N cc xs b (L.score xs N) t.tmps u/\t.tmps.getD 6 undef=.int .i64 (L.score xs N)) ⟨T,[]⟩ w:=by
 obtain⟨J,rfl⟩:∃ J,T=TV J:=⟨_,tv_of H.size⟩;have j3:J 3=AJ b:=H.t3;have j4:J 4=.slice D N cc:=H.t4;have j5:J 5=.int .i64 (L.score xs N):=H.t5;rw[show c5=.region 5 _ false from rfl];have C:=hid (OT L D N cc xs w H.rd.lv.I H.rd.lv.J H.rd.lv.n H.rd.lv.m H.rd.ins (by have:=H.sm; omega));generalize L.score xs N=v at *;refine wp_region_lit ?_;refine Af rfl 29 (.tmp 3) rfl b j3 L.cs H.P Tryz.underlying29 rfl Ag ?_;go_wp;refine C.out.mono ?_;rintro e w1 ⟨rfl,B⟩;dsimp only;go_wp;exact⟨rfl,rfl,⟨⟨rfl,rfl,rfl,H.P.step B,H.rd.step B,H.lo,H.hp.step B,H.lb,H.bp,H.sm⟩,rfl⟩,rfl⟩
theorem a6(H:Uo h0 50 L D N cc xs b v T w)(h6:T.getD 6 undef=.int .i64 v):c6.wp Tryz.prog (fun e t u=>t.defers=[]/\(e=.normal/\(Uo h0 50 L D N cc xs b v t.tmps u/\0<=v)\/e=.ret/\t.tmps.getD 2 undef=.bool true)) ⟨T,[]⟩ w:=by
 obtain⟨J,rfl⟩:∃ J,T=TV J:=⟨_,tv_of H.size⟩;have j3:J 3=AJ b:=H.t3;have j4:J 4=.slice D N cc:=H.t4;have j5:J 5=.int .i64 v:=H.t5;have j6:J 6=.int .i64 v:=h6;rw[show c6=.seq (.region 6 _ false) (.cond (.tmp 28) (.seq (.region 7 _ false) .ret) .skip) from rfl];by_cases hv:v<0
 . have hd:decide (v<0)=true:=decide_eq_true hv;go_wp;exact⟨rfl,.inr ⟨rfl,rfl⟩⟩
 . have hd:decide (v<0)=false:=decide_eq_false hv;go_wp;exact⟨rfl,.inl ⟨rfl,⟨⟨rfl,rfl,rfl,H.P,H.rd,H.lo,H.hp,H.lb,H.bp,H.sm⟩,rfl⟩,by omega⟩⟩
theorem a8(H:Uo h0 50 L D N cc xs b v T w):c8.wp Tryz.prog (fun e t u=>e=.normal/\t.defers=[]/\∃ E ce,Ux h0 L D N cc xs b v E ce t.tmps u) ⟨T,[]⟩ w:=by
 obtain⟨J,rfl⟩:∃ J,T=TV J:=⟨_,tv_of H.size⟩;have j3:J 3=AJ b:=H.t3;have j4:J 4=.slice D N cc:=H.t4;have j5:J 5=.int .i64 v:=H.t5;rw[show c8=.region 8 _ false from rfl];apply wp_region_lit
 iterate 9 go_step
 have B1:=Aa (Ac w) (.cells #[.int .i64 0,.int .i64 0,.bool true] 47);have hO:(w.alloc (.cells #[.int .i64 0,.int .i64 0,.bool true] 47)).ownsRow w.heap.size 47 3 (.slice (some ⟨w.heap.size,0,none⟩) 1 1) 1 (EW [zP]):=World.ownsRow_lit w #[.int .i64 0,.int .i64 0,.bool true] 1 (Nat.le_refl _) (by unfold maxLen; omega) rfl;have hs:=B1.size;have hsm:=H.sm;refine Dz _ rfl _ _ rfl w.heap.size (.slice (some ⟨w.heap.size,0,none⟩) 1 1) 1 [zP] rfl hO D N cc xs rfl (H.rd.ins.step B1) (by omega) (by omega) ?_;intro v' w' O G _;have B:=B1.grown G hs (fun k e=>by cases e; exact Nat.le_refl _);obtain⟨E,ce,rfl,I,_⟩:=Inputs.of_own O
 have hr:1+N<=ce:=by
  rcases O.2 with⟨_,h⟩ | ⟨g,cap,cur,e,_,_,hc,_⟩
  . omega
  . cases e; exact hc
 go_wp;have rd:=H.rd.step B;rw[Nat.add_comm 1 N] at I hr;exact⟨rfl,rfl,E,ce,⟨⟨rfl,rfl,rfl,H.P.step B,rd,H.lo,H.hp.step B,H.lb,H.bp,H.sm⟩,rfl⟩,by rw[Nat.add_comm N 1]; rfl,⟨rd.lv,I,I.cel (fun h=>by omega),by omega,hr,rd.quarter⟩⟩
theorem a9{E:Option Addr}{ce:Nat}(H:Ux h0 L D N cc xs b v E ce T w):c9.wp Tryz.prog (fun e t u=>e=.normal/\t.defers=[]/\(Ux h0 L D N cc xs b v E ce t.tmps u/\t.tmps.getD 39 undef=.bool (decide (0<=DC L.i L.t L.x L.y L.ws L.gs L.fp L.fq L.fs L.fz L.b (zP::xs))))) ⟨T,[]⟩ w:=by
 obtain⟨J,rfl⟩:∃ J,T=TV J:=⟨_,tv_of H.size⟩;have j3:J 3=AJ b:=H.t3;have j4:J 4=.slice D N cc:=H.t4;have j5:J 5=.int .i64 v:=H.t5;have j7:J 7=.slice E (N+1) ce:=H.t7;have C:=hid (HJ L.i L.t L.x L.y L.A L.n L.c L.G L.m L.kk L.fp L.fq L.fs L.fz L.b L.ws L.gs E (N+1) ce (zP::xs) w H.rx.lv.I H.rx.lv.J H.rx.lv.n H.rx.lv.m H.rx.ins H.rx.small);generalize DC L.i L.t L.x L.y L.ws L.gs L.fp L.fq L.fs L.fz L.b (zP::xs)=z at *;rw[show c9=.region 9 _ false from rfl];apply wp_region_lit;refine Af rfl 29 (.tmp 3) rfl b j3 L.cs H.P Tryz.underlying29 rfl Ag ?_;go_wp;refine C.out.mono ?_;rintro e w1 ⟨rfl,B⟩;dsimp only;go_wp
 exact⟨rfl,rfl,⟨⟨⟨rfl,rfl,rfl,H.P.step B,H.rd.step B,H.lo,H.hp.step B,H.lb,H.bp,H.sm⟩,rfl⟩,rfl,H.rx.step B⟩,rfl⟩
theorem a10{E:Option Addr}{ce:Nat}(H:Ux h0 L D N cc xs b v E ce T w):wpOps Tryz.prog (cO c10) (fun e t u=>e=.normal/\t.defers=[]/\(Ux h0 L D N cc xs b v E ce t.tmps u/\t.tmps.getD 40 undef=L.val/\t.tmps.getD 41 undef=.slice E (N+1) ce)) [0,1] ⟨T,[]⟩ w:=by
 obtain⟨J,rfl⟩:∃ J,T=TV J:=⟨_,tv_of H.size⟩;have j3:J 3=AJ b:=H.t3;have j4:J 4=.slice D N cc:=H.t4;have j5:J 5=.int .i64 v:=H.t5;have j7:J 7=.slice E (N+1) ce:=H.t7;have e:cO c10=#[_,_,_,_,_]:=rfl;rw[Ar (os:=[_,_]) rfl];simp only[e,List.getElem_toArray,List.getElem_cons_zero,List.getElem_cons_succ];refine Af rfl 29 (.tmp 3) rfl b j3 L.cs H.P Tryz.underlying29 rfl Ag ?_;go_wp;exact⟨rfl,rfl,⟨⟨⟨rfl,rfl,rfl,H.P,H.rd,H.lo,H.hp,H.lb,H.bp,H.sm⟩,rfl⟩,rfl,H.rx⟩,rfl,rfl⟩
theorem Vm{E:Option Addr}{ce:Nat}{z:Int}(H:Ux h0 L D N cc xs b v E ce T w)(h:T.getD 42 undef=.int .i64 z)(hz:z=-1):wpOps Tryz.prog (cO c10) (fun e t u=>e=.normal/\t.defers=[]/\(t.tmps.getD 2 undef=.bool true)) [3,4] ⟨T,[]⟩ w:=by
 obtain⟨J,rfl⟩:∃ J,T=TV J:=⟨_,tv_of H.size⟩;have j3:J 3=AJ b:=H.t3;have j4:J 4=.slice D N cc:=H.t4;have j5:J 5=.int .i64 v:=H.t5;have j7:J 7=.slice E (N+1) ce:=H.t7;have jz:J 42=.int .i64 z:=h;subst hz;have e:cO c10=#[_,_,_,_,_]:=rfl;rw[Ar (os:=[_,_]) rfl];simp only[e,List.getElem_toArray,List.getElem_cons_zero,List.getElem_cons_succ];go_wp;exact⟨rfl,rfl,rfl⟩
theorem a11{E:Option Addr}{ce:Nat}(H:Ux h0 L D N cc xs b v E ce T w):wpOps Tryz.prog (cO c11) (fun e t u=>e=.normal/\t.defers=[]/\(Ux h0 L D N cc xs b v E ce t.tmps u/\t.tmps.getD 44 undef=L.val/\t.tmps.getD 45 undef=.slice E (N+1) ce)) [0,1] ⟨T,[]⟩ w:=by
 obtain⟨J,rfl⟩:∃ J,T=TV J:=⟨_,tv_of H.size⟩;have j3:J 3=AJ b:=H.t3;have j4:J 4=.slice D N cc:=H.t4;have j5:J 5=.int .i64 v:=H.t5;have j7:J 7=.slice E (N+1) ce:=H.t7;have e:cO c11=#[_,_,_,_,_,_,_]:=rfl;rw[Ar (os:=[_,_]) rfl];simp only[e,List.getElem_toArray,List.getElem_cons_zero,List.getElem_cons_succ];refine Af rfl 29 (.tmp 3) rfl b j3 L.cs H.P Tryz.underlying29 rfl Ag ?_;go_wp;exact⟨rfl,rfl,⟨⟨⟨rfl,rfl,rfl,H.P,H.rd,H.lo,H.hp,H.lb,H.bp,H.sm⟩,rfl⟩,rfl,H.rx⟩,rfl,rfl⟩
theorem a11b{E:Option Addr}{ce:Nat}{z:Int}(H:Ux h0 L D N cc xs b v E ce T w)(h:T.getD 46 undef=.int .i64 z)(hv:0<=v/\v<=1000)(hz:z=v+1):wpOps Tryz.prog (cO c11) (fun e t u=>e=.normal/\t.defers=[]/\(t.tmps.getD 2 undef=.bool true)) [3,4,5,6] ⟨T,[]⟩ w:=by
 obtain⟨J,rfl⟩:∃ J,T=TV J:=⟨_,tv_of H.size⟩;have j3:J 3=AJ b:=H.t3;have j4:J 4=.slice D N cc:=H.t4;have j5:J 5=.int .i64 v:=H.t5;have j7:J 7=.slice E (N+1) ce:=H.t7;have jz:J 46=.int .i64 z:=h;have hw1:IntKind.i64.wrap (v+1)=v+1:=IntWalk.i64_in _ (by omega);subst hz;have e:cO c11=#[_,_,_,_,_,_,_]:=rfl;rw[Ar (os:=[_,_,_,_]) rfl];simp only[e,List.getElem_toArray,List.getElem_cons_zero,List.getElem_cons_succ];go_wp;exact⟨rfl,rfl,rfl⟩
end
theorem way(a:Option Addr)(len cap:Nat)(zs:List Int)(W:World)(hr:IsRow .u8 W a len cap zs)(ca:Cel W a)(hq:Quarter W)(hG:XR.G<=W.heap.size):Ren.Way PP (QD W) (Bc (Frame.enter PP fV #[.slice a len cap] .normal) []) W:=by
 refine Ren.Way.of_co (W:=W) (RO:=Lt W.heap.size) (O:=fun _=>False) ?_ (Ren.Alike.refl W) (fun j hj=>hj);have ha:ArrR XR.L (vr W W.heap.size) (#[.slice a len cap]++Array.replicate 49 undef) (#[.slice a len cap]++Array.replicate 49 undef) :=
  (ArrR.one (BH ca)).append (.replicate _ (.tuple rfl fun i x y h=>by simp at h))
 have h:Sit XR gR W.heap.size (vr W W.heap.size) (fun _=>False) (fun j=>W.heap[j]?) (fun T u=>T=#[.slice a len cap]++Array.replicate 49 undef/\(IsRow .u8 u a len cap zs/\Quarter u)/\Hp (vh W W.heap.size) u) (#[.slice a len cap]++Array.replicate 49 undef) (fun _=>False) W :=
  Sit.start (Nat.le_refl _) hG (Eh hq fun _ _=>rfl) (fun j h=>h.elim) ha ha (fun _ _=>rfl) (fun u hu=>⟨rfl,⟨hr.veil ca (Hp.refl hu),hq.veil (Hp.refl hu)⟩,Hp.refl hu⟩)
 rw[EJ fV_at (c:=kB) rfl,kB_eq];refine h.ctl rfl (fun w1=>AE) ?_;refine h.wp AV AW AD (fun T u u' x e=>⟨x.1,⟨x.2.1.1.same e,x.2.1.2.same e⟩,x.2.2.same e⟩) nn (Au fV_at) k0 (Q1:=Za (vh W W.heap.size) 50 a len cap zs) (fun T u x=>?_) fun T1 O1 y1 h1=>?_
 . rw[x.1,tv_args];exact a0 (J:=fun z=>match z with | 0=>.slice a len cap | _=>undef) rfl x.2.1.1 x.2.1.2 x.2.2
 refine h1.ctl rfl (fun w1=>AE) ?_;refine h1.wp2 AV AW AD Za.hpo nn (Au fV_at) kX (Q1:=Za (vh W W.heap.size) 50 a len cap zs) (Q2:=fun T u=>T.getD 2 undef=.bool true) (fun T u x=>aX x) (fun T2 O2 y2 h2=>?_) (fun k T2 O2 y2 h2=>h2.done (fun _ _=>rfl) fV_at (by kernel_rfl) (by rfl) fun T u x=>x);refine h2.ctl rfl (fun w1=>AE) ?_;refine h2.wp AV AW AD Za.hpo nn (Au fV_at) k3 (Q1:=fun T u=>∃ L D N cc xs b,Uh (vh W W.heap.size) 50 L D N cc xs b T u) (fun T u x=>a3 x) fun T3 O3 y3 h3=>?_;obtain⟨L,h3⟩:=h3.split;obtain⟨D,h3⟩:=h3.split;obtain⟨N,h3⟩:=h3.split;obtain⟨cc,h3⟩:=h3.split;obtain⟨xs,h3⟩:=h3.split
 obtain⟨b,h3⟩:=h3.split;refine h3.ctl rfl (fun w1=>AE) ?_;refine h3.ctl rfl (fun w1=>by rw[show c4=.region 4 (cO c4) false from rfl]; exact BG) ?_;refine h3.ops (l1:=[0,1]) (l2:=[2,3]) AV AW AD Uh.hpo nn (Au fV_at) o4 (Q1:=fun T u=>Uh (vh W W.heap.size) 50 L D N cc xs b T u/\T.getD 16 undef=L.val/\T.getD 17 undef=.slice D N cc) (fun T u x=>a4 x) fun T4 O4 y4 h4=>?_;refine h4.runScore hG (i:=2) (l:=[3]) (d:=18) (L:=L) (A:=D) (n:=N) (cap:=cc) (xs:=xs) rfl rfl rfl rfl (fun T u x=>⟨x.2,x.1.rd⟩) fun B2 y5 hB h5=>?_
 refine Sit.ops (l1:=[3]) (l2:=[]) (h5.mono (Q1:=fun T u=>Uh (vh W W.heap.size) 50 L D N cc xs b T u/\T.getD 18 undef=.int .i64 (L.score xs N)) fun T u ⟨T0,x,e⟩=>?_) AV AW AD (fun T u u' x e=>⟨Uh.hpo T u u' x.1 e,x.2⟩) nn (Au fV_at) o4b (Q1:=Uo (vh W W.heap.size) 50 L D N cc xs b (L.score xs N)) (fun T u x=>a4b x.1 x.2) fun T6 O6 y6 h6=>?_
 . subst e;exact⟨x.1.put (by omega) _,BW (by rw[x.1.size]; omega)⟩
 refine h6.ctl rfl (fun w1=>Ci) ?_;rw[UP];refine h6.ctl rfl (fun w1=>AE) ?_;refine h6.wp AV AW AD Uo.hpo nn (Au fV_at) k5 (Q1:=fun T u=>Uo (vh W W.heap.size) 50 L D N cc xs b (L.score xs N) T u/\T.getD 6 undef=.int .i64 (L.score xs N)) (fun T u x=>a5 x) fun T7 O7 y7 h7=>?_;refine h7.ctl rfl (fun w1=>AE) ?_
 refine h7.wp2 AV AW AD (fun T u u' x e=>⟨Uo.hpo T u u' x.1 e,x.2⟩) nn (Au fV_at) k6 (Q1:=fun T u=>Uo (vh W W.heap.size) 50 L D N cc xs b (L.score xs N) T u/\0<=L.score xs N) (Q2:=fun T u=>T.getD 2 undef=.bool true) (fun T u x=>a6 x.1 x.2) (fun T8 O8 y8 h8=>?_) (fun k T8 O8 y8 h8=>h8.done (fun j hj=>hB j hj) fV_at (by kernel_rfl) (by rfl) fun T u x=>x);have hx:=h8.fact fun T u x=>(⟨x.1.rd.ins.1,x.2,x.1.sm⟩:xs.length=N/\0<=L.score xs N/\N<=63);obtain⟨hok,i,i1,i2,i3,_⟩:=LH hx.1 hx.2.1;rw[kQ_eq];refine h8.ctl rfl (fun w1=>AE) ?_
 refine h8.wp AV AW AD (fun T u u' x e=>⟨Uo.hpo T u u' x.1 e,x.2⟩) nn (Au fV_at) Vi (Q1:=fun T u=>∃ E ce,Ux (vh W W.heap.size) L D N cc xs b (L.score xs N) E ce T u) (fun T u x=>a8 x.1) fun T9 O9 y9 h9=>?_;obtain⟨E,h9⟩:=h9.split;obtain⟨ce,h9⟩:=h9.split;refine h9.ctl rfl (fun w1=>AE) ?_;refine h9.ctl rfl (fun w1=>AE) ?_;refine h9.wp AV AW AD Ux.hpo nn (Au fV_at) Vj (Q1:=fun T u=>Ux (vh W W.heap.size) L D N cc xs b (L.score xs N) E ce T u/\T.getD 39 undef=.bool (decide (0<=DC L.i L.t L.x L.y L.ws L.gs L.fp L.fq L.fs L.fz L.b (zP::xs)))) (fun T u x=>a9 x) fun T10 O10 y10 h10=>?_
 cases hI:decide (0<=DC L.i L.t L.x L.y L.ws L.gs L.fp L.fq L.fs L.fz L.b (zP::xs))
 . have h39:=h10.slot (i:=39) (.bool false) fun T u x=>by rw[x.2,hI]
   refine h10.ctl rfl (fun w1=>CV (t:=false) (by exact h39)) ?_;refine h10.ctl rfl (fun w1=>GH) ?_;refine h10.ctl rfl (fun w1=>AE) ?_;refine h10.ctl rfl (fun w1=>by rw[show c11=.region 11 (cO c11) false from rfl]; exact BG) ?_;refine h10.ops (l1:=[0,1]) (l2:=[2,3,4,5,6]) AV AW AD (fun T u u' x e=>⟨Ux.hpo T u u' x.1 e,x.2⟩) nn (Au fV_at) o11 (Q1:=fun T u=>Ux (vh W W.heap.size) L D N cc xs b (L.score xs N) E ce T u/\T.getD 44 undef=L.val/\T.getD 45 undef=.slice E (N+1) ce) (fun T u x=>a11 x.1) fun T11 O11 y11 h11=>?_
   refine h11.runScore hG (i:=2) (l:=[3,4,5,6]) (d:=46) (L:=L) (A:=E) (n:=N+1) (cap:=ce) (xs:=zP::xs) rfl rfl rfl rfl (fun T u x=>⟨x.2,x.1.rx⟩) fun B4 y12 hB4 h12=>?_;refine Sit.ops (l1:=[3,4,5,6]) (l2:=[]) (h12.mono (Q1:=fun T u=>Ux (vh W W.heap.size) L D N cc xs b (L.score xs N) E ce T u/\T.getD 46 undef=.int .i64 (L.score (zP::xs) (N+1))) fun T u ⟨T0,x,e⟩=>?_) AV AW AD (fun T u u' x e=>⟨Ux.hpo T u u' x.1 e,x.2⟩) nn (Au fV_at) o11b (Q1:=fun T u=>T.getD 2 undef=.bool true) (fun T u x=>a11b x.1 x.2 ⟨hx.2.1,by rw[i3]; omega⟩ (LL hx.1 hx.2.1 (by have:=of_decide_eq_false hI; omega))) fun T13 O13 y13 h13=>?_
   . subst e;exact⟨x.1.put (by omega) _,BW (by rw[x.1.size]; omega)⟩
   refine h13.ctl rfl (fun w1=>Ci) ?_;refine h13.ctl rfl (fun w1=>IB) ?_;exact h13.done (fun j hj=>(hB4 j hj).trans (hB j hj)) fV_at (by kernel_rfl) (by rfl) fun T u x=>x
 . have h39:=h10.slot (i:=39) (.bool true) fun T u x=>by rw[x.2,hI]
   refine h10.ctl rfl (fun w1=>CV (t:=true) (by exact h39)) ?_;refine h10.ctl rfl (fun w1=>AE) ?_;refine h10.ctl rfl (fun w1=>by rw[show c10=.region 10 (cO c10) false from rfl]; exact BG) ?_;refine h10.ops (l1:=[0,1]) (l2:=[2,3,4]) AV AW AD (fun T u u' x e=>⟨Ux.hpo T u u' x.1 e,x.2⟩) nn (Au fV_at) VF (Q1:=fun T u=>Ux (vh W W.heap.size) L D N cc xs b (L.score xs N) E ce T u/\T.getD 40 undef=L.val/\T.getD 41 undef=.slice E (N+1) ce) (fun T u x=>a10 x.1) fun T11 O11 y11 h11=>?_
   refine h11.runScore hG (i:=2) (l:=[3,4]) (d:=42) (L:=L) (A:=E) (n:=N+1) (cap:=ce) (xs:=zP::xs) rfl rfl rfl rfl (fun T u x=>⟨x.2,x.1.rx⟩) fun B4 y12 hB4 h12=>?_;refine Sit.ops (l1:=[3,4]) (l2:=[]) (h12.mono (Q1:=fun T u=>Ux (vh W W.heap.size) L D N cc xs b (L.score xs N) E ce T u/\T.getD 42 undef=.int .i64 (L.score (zP::xs) (N+1))) fun T u ⟨T0,x,e⟩=>?_) AV AW AD (fun T u u' x e=>⟨Ux.hpo T u u' x.1 e,x.2⟩) nn (Au fV_at) Vk (Q1:=fun T u=>T.getD 2 undef=.bool true) (fun T u x=>Vm x.1 x.2 (QM (of_decide_eq_true hI))) fun T13 O13 y13 h13=>?_
   . subst e;exact⟨x.1.put (by omega) _,BW (by rw[x.1.size]; omega)⟩
   refine h13.ctl rfl (fun w1=>Ci) ?_;refine h13.ctl rfl (fun w1=>IB) ?_;exact h13.done (fun j hj=>(hB4 j hj).trans (hB j hj)) fV_at (by kernel_rfl) (by rfl) fun T u x=>x
end Go.Proofs.YtaemcekcancpdabGreatDoor.fnScorePauseW
