import Derived.Test.YtaemcekcancpdabGreatDoorZRunPath
import Derived.Test.YtaemcekcancpdabGreatDoorZRunHs
set_option linter.all false
set_option maxRecDepth 100000
set_option maxHeartbeats 8000000
open Go.Lib
namespace Go.Proofs.YtaemcekcancpdabGreatDoor.fnScoreIllegalW
open Go.RowKit
open M
open Ren
open Go.Conc
noncomputable abbrev kB:Code:=EI Tryz.f3
noncomputable def c0:Code:=cA kB
noncomputable def cX:Code:=cA (cB kB)
noncomputable def c3:Code:=cA (cB (cB kB))
noncomputable def c4:Code:=cA (cB (cB (cB kB)))
noncomputable def cR:Code:=cB (cB (cB (cB kB)))
noncomputable def c5:Code:=cA cR
noncomputable def c6:Code:=cA (cB cR)
noncomputable def cQ:Code:=cB (cB cR)
theorem Wr:kB=.seq c0 (.seq cX (.seq c3 (.seq c4 cR))):=rfl
theorem UP:cR=.seq c5 (.seq c6 cQ):=rfl
abbrev fV:FuncId:=3
theorem B0:PP.funcs[fV]?=some Tryz.f3:=Tryz.func3
theorem k0:XR.C c0:=by show AH PP CH CO c0=true; kernel_rfl
theorem kX:XR.C cX:=by show AH PP CH CO cX=true; kernel_rfl
theorem k3:XR.C c3:=by show AH PP CH CO c3=true; kernel_rfl
theorem k5:XR.C c5:=by show AH PP CH CO c5=true; kernel_rfl
theorem k6:XR.C c6:=by show AH PP CH CO c6=true; kernel_rfl
theorem o4:∀ i∈[0,1],∀ o,(cO c4)[i]?=some o->OpOk XR gR o.op:=B8 (by kernel_rfl)
theorem Wt:∀ i∈[3],∀ o,(cO c4)[i]?=some o->OpOk XR gR o.op:=B8 (by kernel_rfl)
abbrev TV(J:Nat->Value):Array Value:=#[J 0,J 1,J 2,J 3,J 4,J 5,J 6,J 7,J 8,J 9,J 10,J 11,J 12,J 13,J 14,J 15,J 16,J 17,J 18,J 19,J 20,J 21,J 22,J 23,J 24,J 25,J 26,J 27,J 28,J 29,J 30,J 31,J 32,J 33,J 34,J 35,J 36,J 37,J 38,J 39,J 40,J 41,J 42,J 43,J 44,J 45,J 46,J 47,J 48,J 49,J 50,J 51,J 52,J 53,J 54,J 55,J 56]
theorem Hh{T:Array Value}(h:T.size=57):T=TV fun n=>T.getD n undef:=by
 refine Array.ext h fun i h1 h2=>?_;have e:∀ n (hn:n<T.size),T.getD n undef=T[n]:=fun n hn=>by simp[Array.getD,hn]
 simp only[TV];have:i<57:=h▸h1
 iterate 57 (rcases i with _ | i; · exact(e _ _).symm)
 omega
theorem Wn(a:Value):#[a]++Array.replicate 56 undef=#[a,undef,undef,undef,undef,undef,undef,undef,undef,undef,undef,undef,undef,undef,undef,undef,undef,undef,undef,undef,undef,undef,undef,undef,undef,undef,undef,undef,undef,undef,undef,undef,undef,undef,undef,undef,undef,undef,undef,undef,undef,undef,undef,undef,undef,undef,undef,undef,undef,undef,undef,undef,undef,undef,undef,undef,undef]:=by kernel_rfl
structure Ui(h0:Array Obj)(L:Lv)(D:Option Addr)(N cc:Nat)(xs:List In)(b:Nat)(v:Int)(T:Array Value)(u:World):Prop extends Uo h0 57 L D N cc xs b v T u where
 t8:T.getD 8 undef=.bool false
theorem Ui.hpo{h0:Array Obj}{L:Lv}{D:Option Addr}{N cc:Nat}{xs:List In}{b:Nat}{v:Int}:Hpo (Ui h0 L D N cc xs b v):=fun _ _ _ h e=>{ h with P:=h.P.same e,rd:=h.rd.same e,hp:=h.hp.same e }
noncomputable def c8:Code:=cA cQ
noncomputable def c9:Code:=cA (cB cQ)
theorem Ws:cQ=.seq c8 (.seq c9 .ret):=rfl
theorem o8:∀ i∈[0,1],∀ o,(cO c8)[i]?=some o->OpOk XR gR o.op:=B8 (by kernel_rfl)
theorem Wu:∀ i∈[3,4,5,6,7,8],∀ o,(cO c8)[i]?=some o->OpOk XR gR o.op:=B8 (by kernel_rfl)
theorem o9:∀ i∈[0,1,2,3,4],∀ o,(cO c9)[i]?=some o->OpOk XR gR o.op:=B8 (by kernel_rfl)
theorem VD:∀ i∈[6,7,8,9,10,11],∀ o,(cO c9)[i]?=some o->OpOk XR gR o.op:=B8 (by kernel_rfl)
theorem Wv:∀ i∈[13,14,15,16],∀ o,(cO c9)[i]?=some o->OpOk XR gR o.op:=B8 (by kernel_rfl)
section
variable {h0:Array Obj} {a:Option Addr} {len cap:Nat} {zs:List Int} {T:Array Value} {w:World} {L:Lv} {D:Option Addr} {N cc:Nat} {xs:List In} {v:Int} {b c:Nat} {s:St} {ok:Bool}
theorem a0{J:Nat->Value}(j0:J 0=.slice a len cap)(hr:IsRow .u8 w a len cap zs)(hq:Quarter w)(hp:Hp h0 w):c0.wp Tryz.prog (fun e t u=>e=.normal/\t.defers=[]/\Za h0 57 a len cap zs t.tmps u) ⟨TV J,[]⟩ w:=by
 rw[show c0=.region 0 _ false from rfl];go_wp;exact⟨rfl,rfl,rfl,rfl,hr,hq,hp⟩
theorem aX(H:Za h0 57 a len cap zs T w):cX.wp Tryz.prog (fun e t u=>t.defers=[]/\(e=.normal/\Za h0 57 a len cap zs t.tmps u\/e=.ret/\t.tmps.getD 2 undef=.bool true)) ⟨T,[]⟩ w:=by
 obtain⟨J,rfl⟩:∃ J,T=TV J:=⟨_,Hh H.size⟩;have j0:J 0=.slice a len cap:=H.t0;rw[show cX=.seq (.region 1 _ false) (.cond (.tmp 11) (.seq (.region 2 _ false) .ret) .skip) from rfl];by_cases g9:1048576<len
 . have g1:(1048576:Int)<(len:Int):=by omega
   go_wp;exact⟨rfl,.inr ⟨rfl,rfl⟩⟩
 have g1:¬ (1048576:Int)<(len:Int):=by omega
 have g1d:decide ((1048576:Int)<(len:Int))=false:=decide_eq_false g1;have g2d:decide (1048576<len)=false:=decide_eq_false (by omega);go_wp;exact⟨rfl,.inl ⟨rfl,rfl,rfl,H.row,H.q,H.hp⟩⟩
theorem a3(H:Za h0 57 a len cap zs T w):c3.wp Tryz.prog (fun e t u=>e=.normal/\t.defers=[]/\∃ L D N cc xs b,Uh h0 57 L D N cc xs b t.tmps u) ⟨T,[]⟩ w:=by
 obtain⟨J,rfl⟩:∃ J,T=TV J:=⟨_,Hh H.size⟩;have j0:J 0=.slice a len cap:=H.t0;rw[show c3=.region 3 _ false from rfl];go_wp;refine(LX a len cap zs w H.row).mono ?_;rintro e w1 ⟨i,t,x,y,A,n,c,G,m,kk,fp,fq,fs,fz,b,ws,gs,D,N,cc,xs,rfl,⟨zA,zG,zD⟩,hn,hm,hN,I,G1,Y,_,B⟩;dsimp only
 iterate 13 go_step
 refine Ah rfl 29 (.tmp 3) (.tmp 15) rfl w1.heap.size rfl (AU i t x y A n c G m kk fp fq fs fz b) rfl _ (CellsAt.new w1 _ [_,_,_,_,_,_,_,_,_,_,_] 29 rfl) (Nat.le_refl _) Ag rfl ?_;intro w2 K P;go_wp;have rd:Ready ⟨i,t,x,y,A,n,c,G,m,kk,fp,fq,fs,fz,b,ws,gs⟩ D N cc xs w1:=⟨⟨I,G1,by show n<=_; omega,by show m<=_; omega,I.cel zA,G1.cel zG⟩,Y,zD,by omega,hN.2,H.q.step B⟩;have B2:=Aa (Ac w1) (.cells #[.int .i64 0,.int .i64 0,.int .i64 0,.int .i64 0,.slice none 0 0,.slice none 0 0,.int .i64 0,.int .i64 0,.int .i64 0,.int .i64 0,.int .i64 0] 29);have h1:=H.hp.size;have h2:=B.size;have h3:=H.q.lt
 exact⟨rfl,rfl,⟨i,t,x,y,A,n,c,G,m,kk,fp,fq,fs,fz,b,ws,gs⟩,D,N,cc,xs,w1.heap.size,rfl,rfl,rfl,P,(rd.step B2).keep rd.low K (Nat.le_refl _) (by omega),rd.low,((H.hp.step B).step B2).kept K (by omega),by omega,by omega,hN.1⟩
theorem a4(H:Uh h0 57 L D N cc xs b T w):wpOps Tryz.prog (cO c4) (fun e t u=>e=.normal/\t.defers=[]/\(Uh h0 57 L D N cc xs b t.tmps u/\t.tmps.getD 17 undef=L.val/\t.tmps.getD 18 undef=.slice D N cc)) [0,1] ⟨T,[]⟩ w:=by
 obtain⟨J,rfl⟩:∃ J,T=TV J:=⟨_,Hh H.size⟩;have j3:J 3=AJ b:=H.t3;have j4:J 4=.slice D N cc:=H.t4;have e:cO c4=#[_,_,_,_]:=rfl;rw[Ar (os:=[_,_]) rfl];simp only[e,List.getElem_toArray,List.getElem_cons_zero,List.getElem_cons_succ];refine Af rfl 29 (.tmp 3) rfl b j3 L.cs H.P Tryz.underlying29 rfl Ag ?_;go_wp;exact⟨rfl,rfl,⟨rfl,rfl,rfl,H.P,H.rd,H.lo,H.hp,H.lb,H.bp,H.sm⟩,rfl,rfl⟩
theorem Ww(H:Uh h0 57 L D N cc xs b T w)(h:T.getD 19 undef=.int .i64 v):wpOps Tryz.prog (cO c4) (fun e t u=>e=.normal/\t.defers=[]/\Uo h0 57 L D N cc xs b v t.tmps u) [3] ⟨T,[]⟩ w:=by
 obtain⟨J,rfl⟩:∃ J,T=TV J:=⟨_,Hh H.size⟩;have j3:J 3=AJ b:=H.t3;have j4:J 4=.slice D N cc:=H.t4;have jv:J 19=.int .i64 v:=h;have e:cO c4=#[_,_,_,_]:=rfl;rw[Ar (os:=[_]) rfl];simp only[e,List.getElem_toArray,List.getElem_cons_zero,List.getElem_cons_succ];go_wp;exact⟨rfl,rfl,⟨⟨rfl,rfl,rfl,H.P,H.rd,H.lo,H.hp,H.lb,H.bp,H.sm⟩,rfl⟩⟩
theorem a5(H:Uo h0 57 L D N cc xs b (L.score xs N) T w):c5.wp Tryz.prog (fun e t u=>e=.normal/\t.defers=[]/\Uo h0 57 L D N cc xs b (L.score xs N) t.tmps u/\t.tmps.getD 6 undef=.int .i64 (L.score xs N)) ⟨T,[]⟩ w:=by
 obtain⟨J,rfl⟩:∃ J,T=TV J:=⟨_,Hh H.size⟩;have j3:J 3=AJ b:=H.t3;have j4:J 4=.slice D N cc:=H.t4;have j5:J 5=.int .i64 (L.score xs N):=H.t5;rw[show c5=.region 5 _ false from rfl];have C:=hid (OT L D N cc xs w H.rd.lv.I H.rd.lv.J H.rd.lv.n H.rd.lv.m H.rd.ins (by have:=H.sm; omega));generalize L.score xs N=v at *;refine wp_region_lit ?_;refine Af rfl 29 (.tmp 3) rfl b j3 L.cs H.P Tryz.underlying29 rfl Ag ?_;go_wp;refine C.out.mono ?_;rintro e w1 ⟨rfl,B⟩;dsimp only;go_wp;exact⟨rfl,rfl,⟨⟨rfl,rfl,rfl,H.P.step B,H.rd.step B,H.lo,H.hp.step B,H.lb,H.bp,H.sm⟩,rfl⟩,rfl⟩
theorem a6(H:Uo h0 57 L D N cc xs b v T w)(h6:T.getD 6 undef=.int .i64 v):c6.wp Tryz.prog (fun e t u=>t.defers=[]/\(e=.normal/\(Uo h0 57 L D N cc xs b v t.tmps u/\0<=(DC L.i L.t L.x L.y L.ws L.gs L.fp L.fq L.fs L.fz L.b xs))\/e=.ret/\t.tmps.getD 2 undef=.bool true)) ⟨T,[]⟩ w:=by
 obtain⟨J,rfl⟩:∃ J,T=TV J:=⟨_,Hh H.size⟩;have j3:J 3=AJ b:=H.t3;have j4:J 4=.slice D N cc:=H.t4;have j5:J 5=.int .i64 v:=H.t5;have j6:J 6=.int .i64 v:=h6;have C:=hid (HI L.i L.t L.x L.y L.A L.n L.c L.G L.m L.kk L.fp L.fq L.fs L.fz L.b L.ws L.gs D N cc xs w H.rd.lv.I H.rd.lv.J H.rd.lv.n H.rd.lv.m H.rd.ins H.rd.small);generalize (DC L.i L.t L.x L.y L.ws L.gs L.fp L.fq L.fs L.fz L.b xs)=z at *;rw[show c6=.seq (.region 6 _ false) (.cond (.tmp 31) (.seq (.region 7 _ false) .ret) .skip) from rfl];go_upto_region 6 with fail;refine wp_region_lit ?_
 iterate 12 go_step
 refine Cz (by simp[Region.wanted,yielded,Act.put]) 29 (.tmp 3) rfl b rfl L.cs H.P Tryz.underlying29 rfl Ag ?_;go_wp;refine C.out.mono ?_;rintro e w1 ⟨rfl,B⟩;dsimp only;by_cases hz:z<0
 . have hd:decide (z<0)=true:=decide_eq_true hz;go_wp;exact⟨rfl,.inr ⟨rfl,rfl⟩⟩
 . have hd:decide (z<0)=false:=decide_eq_false hz;go_wp;exact⟨rfl,.inl ⟨rfl,⟨⟨rfl,rfl,rfl,H.P.step B,H.rd.step B,H.lo,H.hp.step B,H.lb,H.bp,H.sm⟩,rfl⟩,by omega⟩⟩
theorem a8(H:Uo h0 57 L D N cc xs b v T w):wpOps Tryz.prog (cO c8) (fun e t u=>e=.normal/\t.defers=[]/\(Uo h0 57 L D N cc xs b v t.tmps u/\t.tmps.getD 36 undef=L.val/\t.tmps.getD 37 undef=.slice D N cc)) [0,1] ⟨T,[]⟩ w:=by
 obtain⟨J,rfl⟩:∃ J,T=TV J:=⟨_,Hh H.size⟩;have j3:J 3=AJ b:=H.t3;have j4:J 4=.slice D N cc:=H.t4;have j5:J 5=.int .i64 v:=H.t5;have e:cO c8=#[_,_,_,_,_,_,_,_,_]:=rfl;rw[Ar (os:=[_,_]) rfl];simp only[e,List.getElem_toArray,List.getElem_cons_zero,List.getElem_cons_succ];refine Af rfl 29 (.tmp 3) rfl b j3 L.cs H.P Tryz.underlying29 rfl Ag ?_;go_wp;exact⟨rfl,rfl,⟨⟨rfl,rfl,rfl,H.P,H.rd,H.lo,H.hp,H.lb,H.bp,H.sm⟩,rfl⟩,rfl,rfl⟩
theorem Wx(H:Uo h0 57 L D N cc xs b v T w)(hs:T.getD 38 undef=.tuple #[sva s,.bool false]):wpOps Tryz.prog (cO c8) (fun e t u=>e=.normal/\t.defers=[]/\(Ui h0 L D N cc xs b v t.tmps u)) [3,4,5,6,7,8] ⟨T,[]⟩ w:=by
 obtain⟨J,rfl⟩:∃ J,T=TV J:=⟨_,Hh H.size⟩;have j3:J 3=AJ b:=H.t3;have j4:J 4=.slice D N cc:=H.t4;have j5:J 5=.int .i64 v:=H.t5;have js:J 38=.tuple #[sva s,.bool false]:=hs;have e:cO c8=#[_,_,_,_,_,_,_,_,_]:=rfl;rw[Ar (os:=[_,_,_,_,_,_]) rfl];simp only[e,List.getElem_toArray,List.getElem_cons_zero,List.getElem_cons_succ]
 iterate 12 go_step
 have B2:=Aa (Ac w) (.cells #[.int .i64 0,.int .i64 0,.int .i64 0,.int .i64 0,.int .i64 0,.int .i64 0,.int .i64 0,.bool false,.bool false] 35);have h1:=H.P.lt;have h2:=H.hp.size;refine Ah rfl 35 (.tmp 7) (.tmp 39) rfl w.heap.size rfl (svs s) rfl _ (CellsAt.new w _ [_,_,_,_,_,_,_,_,_] 35 rfl) (Nat.le_refl _) Ad rfl ?_;intro w2 K S2;go_wp;exact⟨rfl,rfl,⟨⟨rfl,rfl,rfl,(H.P.step B2).kept K (by omega),(H.rd.step B2).keep H.rd.low K (by omega) (by omega),H.lo,(H.hp.step B2).kept K (by omega),H.lb,H.bp,H.sm⟩,rfl⟩,rfl⟩
theorem a9(H:Ui h0 L D N cc xs b v T w):wpOps Tryz.prog (cO c9) (fun e t u=>e=.normal/\t.defers=[]/\(Uo h0 57 L D N cc xs b v t.tmps u/\t.tmps.getD 43 undef=.bool true/\t.tmps.getD 44 undef=L.val/\t.tmps.getD 45 undef=.slice D N cc)) [0,1,2,3,4] ⟨T,[]⟩ w:=by
 obtain⟨J,rfl⟩:∃ J,T=TV J:=⟨_,Hh H.size⟩;have j3:J 3=AJ b:=H.t3;have j4:J 4=.slice D N cc:=H.t4;have j5:J 5=.int .i64 v:=H.t5;have j8:J 8=.bool false:=H.t8;have e:cO c9=#[_,_,_,_,_,_,_,_,_,_,_,_,_,_,_,_,_]:=rfl;rw[Ar (os:=[_,_,_,_,_]) rfl];simp only[e,List.getElem_toArray,List.getElem_cons_zero,List.getElem_cons_succ]
 iterate 9 go_step
 refine Cz (by simp[Region.wanted,yielded,Act.put]) 29 (.tmp 3) rfl b rfl L.cs H.P Tryz.underlying29 rfl Ag ?_;go_wp;exact⟨rfl,rfl,⟨⟨rfl,rfl,rfl,H.P,H.rd,H.lo,H.hp,H.lb,H.bp,H.sm⟩,rfl⟩,rfl,rfl,rfl⟩
theorem VE{g c2:Nat}(H:Uo h0 57 L D N cc xs b v T w)(h1:T.getD 43 undef=.bool true)(h2:T.getD 46 undef=.slice (some ⟨g,0,none⟩) 0 c2):wpOps Tryz.prog (cO c9) (fun e t u=>e=.normal/\t.defers=[]/\(Uo h0 57 L D N cc xs b v t.tmps u/\t.tmps.getD 50 undef=.bool true/\t.tmps.getD 51 undef=L.val/\t.tmps.getD 52 undef=.slice D N cc)) [6,7,8,9,10,11] ⟨T,[]⟩ w:=by
 obtain⟨J,rfl⟩:∃ J,T=TV J:=⟨_,Hh H.size⟩;have j3:J 3=AJ b:=H.t3;have j4:J 4=.slice D N cc:=H.t4;have j5:J 5=.int .i64 v:=H.t5;have j43:J 43=.bool true:=h1;have j46:J 46=.slice (some ⟨g,0,none⟩) 0 c2:=h2;have e:cO c9=#[_,_,_,_,_,_,_,_,_,_,_,_,_,_,_,_,_]:=rfl;rw[Ar (os:=[_,_,_,_,_,_]) rfl];simp only[e,List.getElem_toArray,List.getElem_cons_zero,List.getElem_cons_succ]
 iterate 10 go_step
 refine Cz (by simp[Region.wanted,yielded,Act.put]) 29 (.tmp 3) rfl b rfl L.cs H.P Tryz.underlying29 rfl Ag ?_;go_wp;exact⟨rfl,rfl,⟨⟨rfl,rfl,rfl,H.P,H.rd,H.lo,H.hp,H.lb,H.bp,H.sm⟩,rfl⟩,rfl,rfl,rfl⟩
theorem Wy{g c2:Nat}(H:Uo h0 57 L D N cc xs b v T w)(h1:T.getD 50 undef=.bool true)(h2:T.getD 53 undef=.slice (some ⟨g,0,none⟩) 0 c2):wpOps Tryz.prog (cO c9) (fun e t u=>e=.normal/\t.defers=[]/\(t.tmps.getD 2 undef=.bool true)) [13,14,15,16] ⟨T,[]⟩ w:=by
 obtain⟨J,rfl⟩:∃ J,T=TV J:=⟨_,Hh H.size⟩;have j3:J 3=AJ b:=H.t3;have j4:J 4=.slice D N cc:=H.t4;have j5:J 5=.int .i64 v:=H.t5;have j50:J 50=.bool true:=h1;have j53:J 53=.slice (some ⟨g,0,none⟩) 0 c2:=h2;have e:cO c9=#[_,_,_,_,_,_,_,_,_,_,_,_,_,_,_,_,_]:=rfl;rw[Ar (os:=[_,_,_,_]) rfl];simp only[e,List.getElem_toArray,List.getElem_cons_zero,List.getElem_cons_succ];go_wp;exact⟨rfl,rfl,rfl⟩
end
theorem way(a:Option Addr)(len cap:Nat)(zs:List Int)(W:World)(hr:IsRow .u8 W a len cap zs)(ca:Cel W a)(hq:Quarter W)(hG:XR.G<=W.heap.size):Ren.Way PP (QD W) (Bc (Frame.enter PP fV #[.slice a len cap] .normal) []) W:=by
 refine Ren.Way.of_co (W:=W) (RO:=Lt W.heap.size) (O:=fun _=>False) ?_ (Ren.Alike.refl W) (fun j hj=>hj);have ha:ArrR XR.L (vr W W.heap.size) (#[.slice a len cap]++Array.replicate 56 undef) (#[.slice a len cap]++Array.replicate 56 undef) :=
  (ArrR.one (BH ca)).append (.replicate _ (.tuple rfl fun i x y h=>by simp at h))
 have h:Sit XR gR W.heap.size (vr W W.heap.size) (fun _=>False) (fun j=>W.heap[j]?) (fun T u=>T=#[.slice a len cap]++Array.replicate 56 undef/\(IsRow .u8 u a len cap zs/\Quarter u)/\Hp (vh W W.heap.size) u) (#[.slice a len cap]++Array.replicate 56 undef) (fun _=>False) W :=
  Sit.start (Nat.le_refl _) hG (Eh hq fun _ _=>rfl) (fun j h=>h.elim) ha ha (fun _ _=>rfl) (fun u hu=>⟨rfl,⟨hr.veil ca (Hp.refl hu),hq.veil (Hp.refl hu)⟩,Hp.refl hu⟩)
 rw[EJ B0 (c:=kB) rfl,Wr];refine h.ctl rfl (fun w1=>AE) ?_;refine h.wp AV AW AD (fun T u u' x e=>⟨x.1,⟨x.2.1.1.same e,x.2.1.2.same e⟩,x.2.2.same e⟩) nn (Au B0) k0 (Q1:=Za (vh W W.heap.size) 57 a len cap zs) (fun T u x=>?_) fun T1 O1 y1 h1=>?_
 . rw[x.1,Wn];exact a0 (J:=fun z=>match z with | 0=>.slice a len cap | _=>undef) rfl x.2.1.1 x.2.1.2 x.2.2
 refine h1.ctl rfl (fun w1=>AE) ?_;refine h1.wp2 AV AW AD Za.hpo nn (Au B0) kX (Q1:=Za (vh W W.heap.size) 57 a len cap zs) (Q2:=fun T u=>T.getD 2 undef=.bool true) (fun T u x=>aX x) (fun T2 O2 y2 h2=>?_) (fun k T2 O2 y2 h2=>h2.done (fun _ _=>rfl) B0 (by kernel_rfl) (by rfl) fun T u x=>x);refine h2.ctl rfl (fun w1=>AE) ?_;refine h2.wp AV AW AD Za.hpo nn (Au B0) k3 (Q1:=fun T u=>∃ L D N cc xs b,Uh (vh W W.heap.size) 57 L D N cc xs b T u) (fun T u x=>a3 x) fun T3 O3 y3 h3=>?_;obtain⟨L,h3⟩:=h3.split;obtain⟨D,h3⟩:=h3.split;obtain⟨N,h3⟩:=h3.split;obtain⟨cc,h3⟩:=h3.split;obtain⟨xs,h3⟩:=h3.split
 obtain⟨b,h3⟩:=h3.split;refine h3.ctl rfl (fun w1=>AE) ?_;refine h3.ctl rfl (fun w1=>by rw[show c4=.region 4 (cO c4) false from rfl]; exact BG) ?_;refine h3.ops (l1:=[0,1]) (l2:=[2,3]) AV AW AD Uh.hpo nn (Au B0) o4 (Q1:=fun T u=>Uh (vh W W.heap.size) 57 L D N cc xs b T u/\T.getD 17 undef=L.val/\T.getD 18 undef=.slice D N cc) (fun T u x=>a4 x) fun T4 O4 y4 h4=>?_;refine h4.runScore hG (i:=2) (l:=[3]) (d:=19) (L:=L) (A:=D) (n:=N) (cap:=cc) (xs:=xs) rfl rfl rfl rfl (fun T u x=>⟨x.2,x.1.rd⟩) fun B2 y5 hB h5=>?_
 refine Sit.ops (l1:=[3]) (l2:=[]) (h5.mono (Q1:=fun T u=>Uh (vh W W.heap.size) 57 L D N cc xs b T u/\T.getD 19 undef=.int .i64 (L.score xs N)) fun T u ⟨T0,x,e⟩=>?_) AV AW AD (fun T u u' x e=>⟨Uh.hpo T u u' x.1 e,x.2⟩) nn (Au B0) Wt (Q1:=Uo (vh W W.heap.size) 57 L D N cc xs b (L.score xs N)) (fun T u x=>Ww x.1 x.2) fun T6 O6 y6 h6=>?_
 . subst e;exact⟨x.1.put (by omega) _,BW (by rw[x.1.size]; omega)⟩
 refine h6.ctl rfl (fun w1=>Ci) ?_;rw[UP];refine h6.ctl rfl (fun w1=>AE) ?_;refine h6.wp AV AW AD Uo.hpo nn (Au B0) k5 (Q1:=fun T u=>Uo (vh W W.heap.size) 57 L D N cc xs b (L.score xs N) T u/\T.getD 6 undef=.int .i64 (L.score xs N)) (fun T u x=>a5 x) fun T7 O7 y7 h7=>?_;refine h7.ctl rfl (fun w1=>AE) ?_
 refine h7.wp2 AV AW AD (fun T u u' x e=>⟨Uo.hpo T u u' x.1 e,x.2⟩) nn (Au B0) k6 (Q1:=fun T u=>Uo (vh W W.heap.size) 57 L D N cc xs b (L.score xs N) T u/\0<=(DC L.i L.t L.x L.y L.ws L.gs L.fp L.fq L.fs L.fz L.b xs)) (Q2:=fun T u=>T.getD 2 undef=.bool true) (fun T u x=>a6 x.1 x.2) (fun T8 O8 y8 h8=>?_) (fun k T8 O8 y8 h8=>h8.done (fun j hj=>hB j hj) B0 (by kernel_rfl) (by rfl) fun T u x=>x);have hx:=h8.fact fun T u x=>(⟨x.1.rd.ins.1,x.2,x.1.sm⟩:xs.length=N/\0<=(DC L.i L.t L.x L.y L.ws L.gs L.fp L.fq L.fs L.fz L.b xs)/\N<=63);have hno:∀ k0,CW L xs N k0=false:=fun k0=>by
  simp only[CW];rw[show decide ((DC L.i L.t L.x L.y L.ws L.gs L.fp L.fq L.fs L.fz L.b xs)=-1)=false from decide_eq_false (by omega)];simp
 have ea:L.ans xs N ((0:Nat):Int)=.tuple #[sva (L.fin xs N ((0:Nat):Int)),.bool false]:=by rw[Lv.ans_eq,hno]
 have s1:hashes.sts L xs N=[]:=by unfold hashes.sts; rw[hno]; rfl
 have s2:path.sts L xs N=[]:=by unfold path.sts; rw[hno]; rfl
 rw[Ws];refine h8.ctl rfl (fun w1=>AE) ?_;refine h8.ctl rfl (fun w1=>by rw[show c8=.region 8 (cO c8) false from rfl]; exact BG) ?_;refine h8.ops (l1:=[0,1]) (l2:=[2,3,4,5,6,7,8]) AV AW AD (fun T u u' x e=>⟨Uo.hpo T u u' x.1 e,x.2⟩) nn (Au B0) o8 (Q1:=fun T u=>Uo (vh W W.heap.size) 57 L D N cc xs b (L.score xs N) T u/\T.getD 36 undef=L.val/\T.getD 37 undef=.slice D N cc) (fun T u x=>a8 x.1) fun T9 O9 y9 h9=>?_
 refine h9.runTo hG (i:=2) (l:=[3,4,5,6,7,8]) (d:=38) (z:=.const (.int .i64 0)) (k0:=((0:Nat):Int)) (L:=L) (A:=D) (n:=N) (cap:=cc) (xs:=xs) rfl rfl rfl rfl rfl (fun T u x=>⟨x.2,x.1.rd⟩) fun B3 y10 hB3 h10=>?_;refine Sit.ops (l1:=[3,4,5,6,7,8]) (l2:=[]) (h10.mono (Q1:=fun T u=>Uo (vh W W.heap.size) 57 L D N cc xs b (L.score xs N) T u/\T.getD 38 undef=.tuple #[sva (L.fin xs N ((0:Nat):Int)),.bool false]) fun T u ⟨T0,x,e⟩=>?_) AV AW AD (fun T u u' x e=>⟨Uo.hpo T u u' x.1 e,x.2⟩) nn (Au B0) Wu (Q1:=Ui (vh W W.heap.size) L D N cc xs b (L.score xs N)) (fun T u x=>Wx x.1 x.2) fun T11 O11 y11 h11=>?_
 . subst e;exact⟨x.1.put (by omega) _,(BW (by rw[x.1.size]; omega)).trans ea⟩
 refine h11.ctl rfl (fun w1=>Ci) ?_;refine h11.ctl rfl (fun w1=>AE) ?_;refine h11.ctl rfl (fun w1=>by rw[show c9=.region 9 (cO c9) false from rfl]; exact BG) ?_;refine h11.ops (l1:=[0,1,2,3,4]) (l2:=[5,6,7,8,9,10,11,12,13,14,15,16]) AV AW AD Ui.hpo nn (Au B0) o9 (Q1:=fun T u=>Uo (vh W W.heap.size) 57 L D N cc xs b (L.score xs N) T u/\T.getD 43 undef=.bool true/\T.getD 44 undef=L.val/\T.getD 45 undef=.slice D N cc) (fun T u x=>a9 x) fun T12 O12 y12 h12=>?_;have e43:=h12.slot (i:=43) (.bool true) fun T u x=>x.2.1
 refine h12.runHashes0 hG (i:=5) (l:=[6,7,8,9,10,11,12,13,14,15,16]) (d:=46) (L:=L) (A:=D) (n:=N) (cap:=cc) (xs:=xs) rfl (Ux (j:=2) (d:=43) rfl rfl rfl e43) rfl rfl (fun T u x=>⟨x.2.2,x.1.rd⟩) (by omega) (hno _) fun c2 B4 y13 j4 O13 hcap hB4 h13=>?_;rw[s1] at h13 ⊢;have h14:=h13.mono (Q1:=fun T u=>∃ g,Uo (vh W W.heap.size) 57 L D N cc xs b (L.score xs N) T u/\T.getD 43 undef=.bool true/\T.getD 46 undef=.slice (some ⟨g,0,none⟩) 0 c2) fun T u ⟨T0,u0,x,e1,e2⟩=>by
  subst e1 e2;exact⟨u0.heap.size,(x.1.put (by omega) _).at (Aa (Ac u0) _),(Ay (by omega)).trans x.2.1,BW (by rw[x.1.size]; omega)⟩
 obtain⟨g,h14⟩:=h14.split;refine h14.ops (l1:=[6,7,8,9,10,11]) (l2:=[12,13,14,15,16]) AV AW AD (fun T u u' x e=>⟨Uo.hpo T u u' x.1 e,x.2⟩) nn (Au B0) VD (Q1:=fun T u=>Uo (vh W W.heap.size) 57 L D N cc xs b (L.score xs N) T u/\T.getD 50 undef=.bool true/\T.getD 51 undef=L.val/\T.getD 52 undef=.slice D N cc) (fun T u x=>VE x.1 x.2.1 x.2.2) fun T15 O15 y15 h15=>?_;have e50:=h15.slot (i:=50) (.bool true) fun T u x=>x.2.1
 refine h15.runPath0 hG (i:=12) (l:=[13,14,15,16]) (d:=53) (L:=L) (A:=D) (n:=N) (cap:=cc) (xs:=xs) rfl (Ux (j:=9) (d:=50) rfl rfl rfl e50) rfl rfl (fun T u x=>⟨x.2.2,x.1.rd⟩) (by omega) (hno _) fun c3 B5 y16 j5 O16 hcap hB5 h16=>?_;rw[s2] at h16 ⊢;have h17:=h16.mono (Q1:=fun T u=>∃ g,Uo (vh W W.heap.size) 57 L D N cc xs b (L.score xs N) T u/\T.getD 50 undef=.bool true/\T.getD 53 undef=.slice (some ⟨g,0,none⟩) 0 c3) fun T u ⟨T0,u0,x,e1,e2⟩=>by
  subst e1 e2;exact⟨u0.heap.size,(x.1.put (by omega) _).at (Aa (Ac u0) _),(Ay (by omega)).trans x.2.1,BW (by rw[x.1.size]; omega)⟩
 obtain⟨g2,h17⟩:=h17.split;refine Sit.ops (l1:=[13,14,15,16]) (l2:=[]) h17 AV AW AD (fun T u u' x e=>⟨Uo.hpo T u u' x.1 e,x.2⟩) nn (Au B0) Wv (Q1:=fun T u=>T.getD 2 undef=.bool true) (fun T u x=>Wy x.1 x.2.1 x.2.2) fun T18 O18 y18 h18=>?_;refine h18.ctl rfl (fun w1=>Ci) ?_;refine h18.ctl rfl (fun w1=>IB) ?_;exact h18.done (fun j hj=>(((hB5 j hj).trans (hB4 j hj)).trans (hB3 j hj)).trans (hB j hj)) B0 (by kernel_rfl) (by rfl) fun T u x=>x
end Go.Proofs.YtaemcekcancpdabGreatDoor.fnScoreIllegalW
