import Derived.Test.YtaemcekcancpdabGreatDoorZRunScM
set_option linter.all false
set_option maxRecDepth 100000
set_option maxHeartbeats 8000000
open Go.Lib
namespace Go.Proofs.YtaemcekcancpdabGreatDoor.fnHashesW
open Go.RowKit
open M
open Ren
open Go.Conc
noncomputable abbrev kB:Code:=EI Tryz.f4
noncomputable def c0:Code:=cA kB
noncomputable def cX:Code:=cA (cB kB)
noncomputable def c3:Code:=cA (cB (cB kB))
noncomputable def c4:Code:=cA (cB (cB (cB kB)))
noncomputable def c5:Code:=cA (cB (cB (cB (cB kB))))
noncomputable def c6:Code:=cA (cB (cB (cB (cB (cB kB)))))
noncomputable def cQ:Code:=cB (cB (cB (cB (cB (cB kB)))))
theorem kB_eq:kB=.seq c0 (.seq cX (.seq c3 (.seq c4 (.seq c5 (.seq c6 cQ))))):=rfl
abbrev fV:FuncId:=4
theorem fV_at:PP.funcs[fV]?=some Tryz.f4:=Tryz.func4
theorem k0:XR.C c0:=by show AH PP CH CO c0=true; kernel_rfl
theorem kX:XR.C cX:=by show AH PP CH CO cX=true; kernel_rfl
theorem k3:XR.C c3:=by show AH PP CH CO c3=true; kernel_rfl
theorem k5:XR.C c5:=by show AH PP CH CO c5=true; kernel_rfl
theorem k6:XR.C c6:=by show AH PP CH CO c6=true; kernel_rfl
theorem o4:∀ i∈[0,1],∀ o,(cO c4)[i]?=some o->OpOk XR gR o.op:=B8 (by kernel_rfl)
theorem o4b:∀ i∈[3],∀ o,(cO c4)[i]?=some o->OpOk XR gR o.op:=B8 (by kernel_rfl)
abbrev TV(J:Nat->Value):Array Value:=#[J 0,J 1,J 2,J 3,J 4,J 5,J 6,J 7,J 8,J 9,J 10,J 11,J 12,J 13,J 14,J 15,J 16,J 17,J 18,J 19,J 20,J 21,J 22,J 23,J 24,J 25,J 26,J 27,J 28,J 29,J 30,J 31,J 32,J 33,J 34,J 35,J 36,J 37,J 38,J 39,J 40,J 41,J 42,J 43,J 44,J 45,J 46,J 47,J 48,J 49,J 50,J 51,J 52,J 53,J 54,J 55,J 56,J 57,J 58,J 59,J 60,J 61,J 62,J 63,J 64,J 65,J 66,J 67,J 68]
theorem tv_of{T:Array Value}(h:T.size=69):T=TV fun n=>T.getD n undef:=by
 refine Array.ext h fun i h1 h2=>?_;have e:∀ n (hn:n<T.size),T.getD n undef=T[n]:=fun n hn=>by simp[Array.getD,hn]
 simp only[TV];have:i<69:=h▸h1
 iterate 69 (rcases i with _ | i; · exact(e _ _).symm)
 omega
theorem tv_args(a:Value):#[a]++Array.replicate 68 undef=#[a,undef,undef,undef,undef,undef,undef,undef,undef,undef,undef,undef,undef,undef,undef,undef,undef,undef,undef,undef,undef,undef,undef,undef,undef,undef,undef,undef,undef,undef,undef,undef,undef,undef,undef,undef,undef,undef,undef,undef,undef,undef,undef,undef,undef,undef,undef,undef,undef,undef,undef,undef,undef,undef,undef,undef,undef,undef,undef,undef,undef,undef,undef,undef,undef,undef,undef,undef,undef]:=by kernel_rfl
noncomputable def c8:Code:=cA (cA cQ)
noncomputable def cL:Code:=cI (cI (cB (cA cQ)))
noncomputable def cT:Code:=cB cQ
noncomputable def c9:Code:=cA (cA cL)
noncomputable def c11:Code:=cA (cI (cA (cB cL)))
noncomputable def c12:Code:=cB (cI (cA (cB cL)))
noncomputable def c10:Code:=cB (cB cL)
theorem kQ_eq:cQ=.seq (.seq c8 (.block 0 (.loop cL))) cT:=rfl
theorem PI:cL=.seq (.seq c9 (.cond (.tmp 40) .skip (.exit 0))) (.seq (.block 1 (.seq c11 c12)) c10):=rfl
theorem k8:XR.C c8:=by show AH PP CH CO c8=true; kernel_rfl
theorem k9:XR.C c9:=by show AH PP CH CO c9=true; kernel_rfl
theorem Vx:XR.C c10:=by show AH PP CH CO c10=true; kernel_rfl
theorem VA:XR.C c12:=by show AH PP CH CO c12=true; kernel_rfl
theorem kT:XR.C cT:=by show AH PP CH CO cT=true; kernel_rfl
theorem o11:∀ i∈[0,1,2,3,4],∀ o,(cO c11)[i]?=some o->OpOk XR gR o.op:=B8 (by kernel_rfl)
theorem o11b:∀ i∈[6,7,8,9,10,11],∀ o,(cO c11)[i]?=some o->OpOk XR gR o.op:=B8 (by kernel_rfl)
structure Hk(h0:Array Obj)(X:Value)(L:Lv)(D:Option Addr)(N cc:Nat)(xs:List In)(b:Nat)(g m c:Nat)(hs:List Int)(k:Nat)(T:Array Value)(u:World):Prop extends Ho h0 69 0 X L D N cc xs b g m c hs T u where
 t7:T.getD 7 undef=.int .i64 (k:Int)
theorem Hk.hpo{h0:Array Obj}{X:Value}{L:Lv}{D:Option Addr}{N cc:Nat}{xs:List In}{b:Nat}{g m c k:Nat}{hs:List Int}:Hpo (Hk h0 X L D N cc xs b g m c hs k):=fun _ _ _ h e=>⟨Ho.hpo _ _ _ h.toHo e,h.t7⟩
theorem Hk.put{h0:Array Obj}{X:Value}{L:Lv}{D:Option Addr}{N cc:Nat}{xs:List In}{b:Nat}{g m c k d:Nat}{hs:List Int}{T:Array Value}{u:World}(x:Hk h0 X L D N cc xs b g m c hs k T u)(hd:7<d)(v:Value):Hk h0 X L D N cc xs b g m c hs k (Bo T (some d) v) u:=⟨x.toHo.put (by omega) v,(Ay (by omega)).trans x.t7⟩
structure Hl(h0:Array Obj)(X:Value)(L:Lv)(D:Option Addr)(N cc:Nat)(xs:List In)(b:Nat)(g m c:Nat)(hs:List Int)(k e:Nat)(s:St)(T:Array Value)(u:World):Prop extends Hk h0 X L D N cc xs b g m c hs k T u where
 t8:T.getD 8 undef=AJ e
 t9:T.getD 9 undef=.bool true
 S:CellsAt u e (svs s)
theorem Hl.hpo{h0:Array Obj}{X:Value}{L:Lv}{D:Option Addr}{N cc:Nat}{xs:List In}{b:Nat}{g m c k e:Nat}{hs:List Int}{s:St}:Hpo (Hl h0 X L D N cc xs b g m c hs k e s):=fun _ _ _ h e=>⟨Hk.hpo _ _ _ h.toHk e,h.t8,h.t9,h.S.same e⟩
section
variable {X:Value} {a':Option Addr} {len' cap':Nat} {h0:Array Obj} {a:Option Addr} {len cap:Nat} {zs:List Int} {T:Array Value} {w:World} {L:Lv} {D:Option Addr} {N cc:Nat} {xs:List In} {b g m c:Nat} {hs:List Int} {s:St} {ok:Bool} {k e:Nat}
theorem a0{J:Nat->Value}(j0:J 0=.slice a len cap)(j1:J 1=X)(hr:IsRow .u8 w a len cap zs)(hq:Quarter w)(hp:Hp h0 w):c0.wp Tryz.prog (fun e t u=>e=.normal/\t.defers=[]/\Hz h0 69 X a len cap zs t.tmps u) ⟨TV J,[]⟩ w:=by
 rw[show c0=.region 0 _ false from rfl];go_wp;exact⟨rfl,rfl,rfl,rfl,rfl,hr,hq,hp⟩
theorem aX(H:Hz h0 69 X a len cap zs T w):cX.wp Tryz.prog (fun e t u=>t.defers=[]/\(e=.normal/\Hz h0 69 X a len cap zs t.tmps u\/e=.ret/\t.tmps.getD 2 undef=.bool true)) ⟨T,[]⟩ w:=by
 obtain⟨J,rfl⟩:∃ J,T=TV J:=⟨_,tv_of H.size⟩;have j0:J 0=.slice a len cap:=H.t0;have j1:J 1=X:=H.x1;rw[show cX=.seq (.region 1 _ false) (.cond (.tmp 12) (.seq (.region 2 _ false) .ret) .skip) from rfl];by_cases g9:1048576<len
 . have g1:(1048576:Int)<(len:Int):=by omega
   have g1d:decide ((1048576:Int)<(len:Int))=true:=decide_eq_true g1;have g2d:decide (1048576<len)=true:=decide_eq_true (by omega);go_wp;exact⟨rfl,.inr ⟨rfl,rfl⟩⟩
 have g1:¬ (1048576:Int)<(len:Int):=by omega
 have g1d:decide ((1048576:Int)<(len:Int))=false:=decide_eq_false g1;have g2d:decide (1048576<len)=false:=decide_eq_false (by omega);go_wp;exact⟨rfl,.inl ⟨rfl,rfl,rfl,rfl,H.row,H.q,H.hp⟩⟩
theorem a3(H:Hz h0 69 X a len cap zs T w):c3.wp Tryz.prog (fun e t u=>e=.normal/\t.defers=[]/\∃ L D N cc xs b,Hh h0 69 0 X L D N cc xs b t.tmps u) ⟨T,[]⟩ w:=by
 obtain⟨J,rfl⟩:∃ J,T=TV J:=⟨_,tv_of H.size⟩;have j0:J 0=.slice a len cap:=H.t0;have j1:J 1=X:=H.x1;rw[show c3=.region 3 _ false from rfl];go_wp;refine(GO a len cap zs w H.row).mono ?_;rintro e w1 ⟨i,t,x,y,A,n,c,G,m,kk,fp,fq,fs,fz,b,ws,gs,D,N,cc,xs,rfl,⟨zA,zG,zD⟩,hn,hm,hN,I,G1,Y,_,B⟩;dsimp only
 iterate 13 go_step
 refine Ah rfl 29 (.tmp 3) (.tmp 16) rfl w1.heap.size rfl (AU i t x y A n c G m kk fp fq fs fz b) rfl _ (CellsAt.new w1 _ [_,_,_,_,_,_,_,_,_,_,_] 29 rfl) (Nat.le_refl _) Ag rfl ?_;intro w2 K P;go_wp;have rd:Ready ⟨i,t,x,y,A,n,c,G,m,kk,fp,fq,fs,fz,b,ws,gs⟩ D N cc xs w1:=⟨⟨I,G1,by show n<=_; omega,by show m<=_; omega,I.cel zA,G1.cel zG⟩,Y,zD,by omega,hN.2,H.q.step B⟩;have B2:=Aa (Ac w1) (.cells #[.int .i64 0,.int .i64 0,.int .i64 0,.int .i64 0,.slice none 0 0,.slice none 0 0,.int .i64 0,.int .i64 0,.int .i64 0,.int .i64 0,.int .i64 0] 29);have h1:=H.hp.size;have h2:=B.size;have h3:=H.q.lt
 exact⟨rfl,rfl,⟨i,t,x,y,A,n,c,G,m,kk,fp,fq,fs,fz,b,ws,gs⟩,D,N,cc,xs,w1.heap.size,rfl,rfl,rfl,rfl,P,(rd.step B2).keep rd.low K (Nat.le_refl _) (by omega),rd.low,((H.hp.step B).step B2).kept K (by omega),by omega,by omega,hN.1⟩
theorem a4(H:Hh h0 69 0 X L D N cc xs b T w):wpOps Tryz.prog (cO c4) (fun e t u=>e=.normal/\t.defers=[]/\(Hh h0 69 0 X L D N cc xs b t.tmps u/\t.tmps.getD 18 undef=L.val/\t.tmps.getD 19 undef=.slice D N cc)) [0,1] ⟨T,[]⟩ w:=by
 obtain⟨J,rfl⟩:∃ J,T=TV J:=⟨_,tv_of H.size⟩;have j1:J 1=X:=H.x1;have j3:J 3=AJ b:=H.t3;have j4:J 4=.slice D N cc:=H.t4;have e:cO c4=#[_,_,_,_]:=rfl;rw[Ar (os:=[_,_]) rfl];simp only[e,List.getElem_toArray,List.getElem_cons_zero,List.getElem_cons_succ];refine Af rfl 29 (.tmp 3) rfl b j3 L.cs H.P Tryz.underlying29 rfl Ag ?_;go_wp;exact⟨rfl,rfl,⟨rfl,rfl,rfl,rfl,H.P,H.rd,H.lo,H.hp,H.lb,H.bp,H.sm⟩,rfl,rfl⟩
theorem a4b(H:Hh h0 69 0 X L D N cc xs b T w)(h:T.getD 20 undef=.slice (some ⟨g,0,none⟩) m c)(Y:Ints w (some ⟨g,0,none⟩) m hs)(hc:m<=c):wpOps Tryz.prog (cO c4) (fun e t u=>e=.normal/\t.defers=[]/\(Ho h0 69 0 X L D N cc xs b g m c hs t.tmps u)) [3] ⟨T,[]⟩ w:=by
 obtain⟨J,rfl⟩:∃ J,T=TV J:=⟨_,tv_of H.size⟩;have j1:J 1=X:=H.x1;have j3:J 3=AJ b:=H.t3;have j4:J 4=.slice D N cc:=H.t4;have jh:J 20=.slice (some ⟨g,0,none⟩) m c:=h;have e:cO c4=#[_,_,_,_]:=rfl;rw[Ar (os:=[_]) rfl];simp only[e,List.getElem_toArray,List.getElem_cons_zero,List.getElem_cons_succ];go_wp;exact⟨rfl,rfl,⟨rfl,rfl,rfl,rfl,H.P,H.rd,H.lo,H.hp,H.lb,H.bp,H.sm⟩,rfl,Y,hc⟩
theorem a5(H:Ho h0 69 0 X L D N cc xs b g (Bm 0 (hashes.sts L xs N)).length c (Bm 0 (hashes.sts L xs N)) T w):c5.wp Tryz.prog (fun e t u=>e=.normal/\t.defers=[]/\∃ E c2,Hp2 h0 69 0 X L D N cc xs b g (Bm 0 (hashes.sts L xs N)).length c (Bm 0 (hashes.sts L xs N)) E c2 t.tmps u) ⟨T,[]⟩ w:=by
 obtain⟨J,rfl⟩:∃ J,T=TV J:=⟨_,tv_of H.size⟩;have j1:J 1=X:=H.x1;have j3:J 3=AJ b:=H.t3;have j4:J 4=.slice D N cc:=H.t4;have j5:J 5=.slice (some ⟨g,0,none⟩) (Bm 0 (hashes.sts L xs N)).length c:=H.t5;rw[show c5=.region 5 _ false from rfl];have C:=hid (QK L D N cc xs w H.rd.lv.I H.rd.lv.J H.rd.lv.n H.rd.lv.m H.rd.ins (by have:=H.sm; omega));generalize (Bm 0 (hashes.sts L xs N))=hl at *;refine wp_region_lit ?_;refine Af rfl 29 (.tmp 3) rfl b j3 L.cs H.P Tryz.underlying29 rfl Ag ?_;go_wp;refine C.out.mono ?_;rintro e w1 ⟨⟨E,c2,rfl,Z⟩,B⟩;dsimp only;go_wp
 exact⟨rfl,rfl,E,c2,⟨⟨rfl,rfl,rfl,rfl,H.P.step B,H.rd.step B,H.lo,H.hp.step B,H.lb,H.bp,H.sm⟩,rfl,H.Y.step B,H.room⟩,rfl,Z⟩
theorem a6{E:Option Addr}{c2:Nat}(H:Hp2 h0 69 0 X L D N cc xs b g m c hs E c2 T w)(hm:m<=1000):c6.wp Tryz.prog (fun e t u=>t.defers=[]/\(e=.normal/\(Ho h0 69 0 X L D N cc xs b g m c hs t.tmps u/\(DC L.i L.t L.x L.y L.ws L.gs L.fp L.fq L.fs L.fz L.b xs)<0)\/e=.ret/\t.tmps.getD 2 undef=.bool true)) ⟨T,[]⟩ w:=by
 obtain⟨J,rfl⟩:∃ J,T=TV J:=⟨_,tv_of H.size⟩;have j1:J 1=X:=H.x1;have j3:J 3=AJ b:=H.t3;have j4:J 4=.slice D N cc:=H.t4;have j5:J 5=.slice (some ⟨g,0,none⟩) m c:=H.t5;have j6:J 6=.slice E m c2:=H.t6;have C:=hid fun(W:World) (a:Boxes W L.A L.n L.ws) (b:Boxes W L.G L.m L.gs) (c:Inputs W D N xs)=>HI L.i L.t L.x L.y L.A L.n L.c L.G L.m L.kk L.fp L.fq L.fs L.fz L.b L.ws L.gs D N cc xs W a b H.rd.lv.n H.rd.lv.m c H.rd.small;generalize (DC L.i L.t L.x L.y L.ws L.gs L.fp L.fq L.fs L.fz L.b xs)=y at *;rw[show c6=.seq (.region 6 _ false) (.cond (.tmp 33) (.seq (.region 7 _ false) .ret) .skip) from rfl];go_upto_region 6 with fail
 refine wp_region_lit ?_;go_wp;refine(Cl (some ⟨g,0,none⟩) E m c c2 hs w H.Y H.Z (by omega)).mono ?_;rintro e w1 ⟨rfl,B⟩;have P:=H.P.step B;dsimp only
 iterate 7 go_step
 refine Cz (by simp[Region.wanted,yielded,Act.put]) 29 (.tmp 3) rfl b rfl L.cs P Tryz.underlying29 rfl Ag ?_;go_wp;refine(C.out _ (H.rd.lv.I.step B) (H.rd.lv.J.step B) (H.rd.ins.step B)).mono ?_;rintro e w2 ⟨rfl,B1⟩;replace B:=Ab B B1;clear B1 P;dsimp only;by_cases hy:y<0
 . have hd:decide (0<=y)=false:=decide_eq_false (by omega);go_wp;exact⟨rfl,.inl ⟨rfl,⟨⟨rfl,rfl,rfl,rfl,H.P.step B,H.rd.step B,H.lo,H.hp.step B,H.lb,H.bp,H.sm⟩,rfl,H.Y.step B,H.room⟩,hy⟩⟩
 . have hd:decide (0<=y)=true:=decide_eq_true (by omega);go_wp;refine(Cl (some ⟨g,0,none⟩) E m c c2 hs w2 (H.Y.step B) (H.Z.step B) (by omega)).mono ?_;rintro e w3 ⟨rfl,B3⟩;dsimp only;go_wp;exact⟨rfl,.inr ⟨rfl,rfl⟩⟩
theorem a8(H:Ho h0 69 0 X L D N cc xs b g m c hs T w):c8.wp Tryz.prog (fun e t u=>e=.normal/\t.defers=[]/\Hk h0 X L D N cc xs b g m c hs 0 t.tmps u) ⟨T,[]⟩ w:=by
 obtain⟨J,rfl⟩:∃ J,T=TV J:=⟨_,tv_of H.size⟩;have j1:J 1=X:=H.x1;have j3:J 3=AJ b:=H.t3;have j4:J 4=.slice D N cc:=H.t4;have j5:J 5=.slice (some ⟨g,0,none⟩) m c:=H.t5;rw[show c8=.region 8 _ false from rfl];go_wp;exact⟨rfl,rfl,⟨⟨rfl,rfl,rfl,rfl,H.P,H.rd,H.lo,H.hp,H.lb,H.bp,H.sm⟩,rfl,H.Y,H.room⟩,rfl⟩
theorem a9(H:Hk h0 X L D N cc xs b g m c hs k T w):c9.wp Tryz.prog (fun e t u=>e=.normal/\t.defers=[]/\(Hk h0 X L D N cc xs b g m c hs k t.tmps u/\t.tmps.getD 40 undef=.bool (decide (k<m)))) ⟨T,[]⟩ w:=by
 obtain⟨J,rfl⟩:∃ J,T=TV J:=⟨_,tv_of H.size⟩;have j1:J 1=X:=H.x1;have j3:J 3=AJ b:=H.t3;have j4:J 4=.slice D N cc:=H.t4;have j5:J 5=.slice (some ⟨g,0,none⟩) m c:=H.t5;have j7:J 7=.int .i64 (k:Int):=H.t7;have hd:decide ((k:Int)<(m:Int))=decide (k<m):=by simp
 rw[show c9=.region 9 _ false from rfl];go_wp;exact⟨rfl,rfl,⟨⟨⟨rfl,rfl,rfl,rfl,H.P,H.rd,H.lo,H.hp,H.lb,H.bp,H.sm⟩,rfl,H.Y,H.room⟩,rfl⟩,by first | rfl | simp⟩
theorem a10(H:Hk h0 X L D N cc xs b g m c hs k T w)(hk:k<=1000):c10.wp Tryz.prog (fun e t u=>e=.normal/\t.defers=[]/\Hk h0 X L D N cc xs b g m c hs (k+1) t.tmps u) ⟨T,[]⟩ w:=by
 obtain⟨J,rfl⟩:∃ J,T=TV J:=⟨_,tv_of H.size⟩;have j1:J 1=X:=H.x1;have j3:J 3=AJ b:=H.t3;have j4:J 4=.slice D N cc:=H.t4;have j5:J 5=.slice (some ⟨g,0,none⟩) m c:=H.t5;have j7:J 7=.int .i64 (k:Int):=H.t7;have hw:IntKind.i64.wrap ((k:Int)+1)=(k:Int)+1:=IntWalk.i64_in _ (by omega);rw[show c10=.region 10 _ false from rfl];go_wp;exact⟨rfl,rfl,⟨⟨rfl,rfl,rfl,rfl,H.P,H.rd,H.lo,H.hp,H.lb,H.bp,H.sm⟩,rfl,H.Y,H.room⟩,congrArg (Value.int .i64) (show(k:Int)+1=((k+1:Nat):Int) by omega)⟩
theorem a11(H:Hk h0 X L D N cc xs b g m c hs k T w)(hk:k<=1000):wpOps Tryz.prog (cO c11) (fun e t u=>e=.normal/\t.defers=[]/\(Hk h0 X L D N cc xs b g m c hs k t.tmps u/\t.tmps.getD 44 undef=L.val/\t.tmps.getD 45 undef=.slice D N cc/\t.tmps.getD 48 undef=.int .i64 ((5*(k+1):Nat):Int))) [0,1,2,3,4] ⟨T,[]⟩ w:=by
 obtain⟨J,rfl⟩:∃ J,T=TV J:=⟨_,tv_of H.size⟩;have j1:J 1=X:=H.x1;have j3:J 3=AJ b:=H.t3;have j4:J 4=.slice D N cc:=H.t4;have j5:J 5=.slice (some ⟨g,0,none⟩) m c:=H.t5;have j7:J 7=.int .i64 (k:Int):=H.t7;have hw:IntKind.i64.wrap ((k:Int)+1)=(k:Int)+1:=IntWalk.i64_in _ (by omega);have hw2:IntKind.i64.wrap (((k:Int)+1)*5)=((k:Int)+1)*5:=IntWalk.i64_in _ (by omega);have e:cO c11=#[_,_,_,_,_,_,_,_,_,_,_,_]:=rfl;rw[Ar (os:=[_,_,_,_,_]) rfl];simp only[e,List.getElem_toArray,List.getElem_cons_zero,List.getElem_cons_succ]
 refine Af rfl 29 (.tmp 3) rfl b j3 L.cs H.P Tryz.underlying29 rfl Ag ?_;go_wp;exact⟨rfl,rfl,⟨⟨⟨rfl,rfl,rfl,rfl,H.P,H.rd,H.lo,H.hp,H.lb,H.bp,H.sm⟩,rfl,H.Y,H.room⟩,rfl⟩,rfl,rfl,congrArg (Value.int .i64) (show((k:Int)+1)*5=((5*(k+1):Nat):Int) by omega)⟩
theorem a11b(H:Hk h0 X L D N cc xs b g m c hs k T w)(h:T.getD 49 undef=.tuple #[sva s,.bool true]):wpOps Tryz.prog (cO c11) (fun e t u=>e=.normal/\t.defers=[]/\(∃ e,Hl h0 X L D N cc xs b g m c hs k e s t.tmps u)) [6,7,8,9,10,11] ⟨T,[]⟩ w:=by
 obtain⟨J,rfl⟩:∃ J,T=TV J:=⟨_,tv_of H.size⟩;have j1:J 1=X:=H.x1;have j3:J 3=AJ b:=H.t3;have j4:J 4=.slice D N cc:=H.t4;have j5:J 5=.slice (some ⟨g,0,none⟩) m c:=H.t5;have j7:J 7=.int .i64 (k:Int):=H.t7;have js:J 49=.tuple #[sva s,.bool true]:=h;have e:cO c11=#[_,_,_,_,_,_,_,_,_,_,_,_]:=rfl;rw[Ar (os:=[_,_,_,_,_,_]) rfl];simp only[e,List.getElem_toArray,List.getElem_cons_zero,List.getElem_cons_succ]
 iterate 12 go_step
 have B2:=Aa (Ac w) (.cells #[.int .i64 0,.int .i64 0,.int .i64 0,.int .i64 0,.int .i64 0,.int .i64 0,.int .i64 0,.bool false,.bool false] 35);have h1:=H.P.lt;have h2:=H.hp.size;refine Ah rfl 35 (.tmp 8) (.tmp 50) rfl w.heap.size rfl (svs s) rfl _ (CellsAt.new w _ [_,_,_,_,_,_,_,_,_] 35 rfl) (Nat.le_refl _) Ad rfl ?_;intro w2 K S2;go_wp
 exact⟨rfl,rfl,w.heap.size,⟨⟨⟨rfl,rfl,rfl,rfl,(H.P.step B2).kept K (by omega),(H.rd.step B2).keep H.rd.low K (by omega) (by omega),H.lo,(H.hp.step B2).kept K (by omega),H.lb,H.bp,H.sm⟩,rfl,(H.Y.step B2).kept K (fun h=>fun z off ez=>by cases ez; have:=H.Y.lt h g 0 rfl; omega),H.room⟩,rfl⟩,rfl,rfl,S2⟩
theorem VB(H:Hl h0 X L D N cc xs b g m c hs k e s T w)(hk:k<m)(hy:hs.getD k 0=Ta s):c12.wp Tryz.prog (fun e t u=>e=.normal/\t.defers=[]/\Hk h0 X L D N cc xs b g m c hs k t.tmps u) ⟨T,[]⟩ w:=by
 obtain⟨J,rfl⟩:∃ J,T=TV J:=⟨_,tv_of H.size⟩;have j1:J 1=X:=H.x1;have j3:J 3=AJ b:=H.t3;have j4:J 4=.slice D N cc:=H.t4;have j5:J 5=.slice (some ⟨g,0,none⟩) m c:=H.t5;have j7:J 7=.int .i64 (k:Int):=H.t7;have j8:J 8=AJ e:=H.t8;have j9:J 9=.bool true:=H.t9;obtain⟨b',off,ez,hb,hc⟩:=H.Y.2 (by omega);cases ez
 have q:=hc k hk;rw[hy,Nat.zero_add] at q;have hgl:=hb;have S:=H.S;have hel:=H.S.lt;have B0:=Ac w;have C:=fun W=>Jj s.k s.ax s.ay s.fx s.fy s.u s.g s.d s.o W;change w.cell? _=some (.int .i64 (ehI s.k s.ax s.ay s.fx s.fy s.u s.g s.d s.o)) at q;generalize ehI s.k s.ax s.ay s.fx s.fy s.u s.g s.d s.o=y at *;have C:=hid C;rw[show c12=.seq (.region 12 _ true) (.cond (.tmp 62) (.seq (.region 13 _ false) .ret) .skip) from rfl];go_upto_region 12 with fail;simp only[TV,j1,j3,j4,j5,j7,j8,j9];refine wp_region_noPanic ?_
 refine wp_region_held_drew (S:=fun w'=>CellsAt w' e (svs s)/\w'.cell? ⟨g,k,none⟩=some (.int .i64 y)) (by kernel_rfl) ⟨(by first | with_reducible exact S.drew | with_reducible exact S),q⟩ (fun hHeld=>?_);refine tl 0 ?_ ?_ hHeld ?_;rotate_left
 . intro w hSw
   try dsimp only at hSw
   go_simp
   all_goals with_reducible rfl
 try simp only[Act.put,sx]
 refine tl 1 ?_ ?_ hHeld ?_;rotate_left
 . intro w hSw
   try dsimp only at hSw
   go_simp
   all_goals with_reducible rfl
 try simp only[Act.put,sx]
 refine tl 2 ?_ ?_ hHeld ?_;rotate_left
 . intro w hSw
   try dsimp only at hSw
   go_simp
   all_goals with_reducible rfl
 try simp only[Act.put,sx]
 refine wpAnyH_take (i:=3) (oi:=_) (v:=.agg (svs s).toArray) rfl (by kernel_rfl) (by kernel_rfl) (by kernel_rfl) (fun _ _ _ h=>h) (yieldsIf_load_mid (by rfl) 35 (.tmp 8) rfl e 0 rfl (svs s) _ (fun W hS=>hS.1.range) Tryz.underlying35 rfl Ad) hHeld ?_
 try simp only[Act.put,sx]
 refine tl 5 ?_ ?_ hHeld ?_;rotate_left
 . intro w hSw
   try dsimp only at hSw
   go_simp
   all_goals with_reducible rfl
 try simp only[Act.put,sx]
 refine tl 6 ?_ ?_ hHeld ?_;rotate_left
 . intro w hSw
   try dsimp only at hSw
   go_simp
   all_goals with_reducible rfl
 try simp only[Act.put,sx]
 refine tl 7 ?_ ?_ hHeld ?_;rotate_left
 . intro w hSw
   try dsimp only at hSw
   go_simp
   all_goals with_reducible rfl
 try simp only[Act.put,sx]
 refine tl 8 ?_ ?_ hHeld ?_;rotate_left
 . intro w hSw;have c5:=hSw.2;go_simp
   all_goals with_reducible rfl
 try simp only[Act.put,sx]
 refine wpAnyH_ready (rs:=[4]) (by kernel_rfl) (by simp) ?_;apply AllReadyH.cons rfl ?_ AllReadyH.nil;intro K hK;go_simp
 go_at_call 19
 refine(C.out _).mono ?_;rintro e w1 ⟨rfl,B⟩;have q9:w1.cell? ⟨g,k,none⟩=some (.int .i64 y):=(World.cell?_of_block (a:=⟨g,k,none⟩) (B.block g hgl)).trans q;have S9:CellsAt w1 e (svs s):=S.of (B.block e hel) (Nat.le_trans (Nat.le_refl _) B.size);have B:=Ab (Az B0) B;clear q S;have q:=q9;have S:=S9;clear q9 S9 hgl hel B0;clear hHeld;go_wp2_with fail;refine hK.out _ _ ⟨(by first | with_reducible exact S.drew | with_reducible exact S),q⟩ (fun hHeld=>?_);clear hK K
 try simp only[Act.put,sx]
 refine tl 9 ?_ ?_ hHeld ?_;rotate_left
 . intro w hSw
   try dsimp only at hSw
   go_simp
   all_goals with_reducible rfl
 try simp only[Act.put,sx]
 refine tl 10 ?_ ?_ hHeld ?_;rotate_left
 . intro w hSw
   try dsimp only at hSw
   go_simp
   all_goals with_reducible rfl
 try simp only[Act.put,sx]
 refine wpAnyH_done (by kernel_rfl) ?_ _;refine NoPanic.normal ?_;go_wp;exact⟨rfl,rfl,⟨⟨rfl,rfl,rfl,rfl,H.P.step B,H.rd.step B,H.lo,H.hp.step B,H.lb,H.bp,H.sm⟩,rfl,H.Y.step B,H.room⟩,rfl⟩
theorem aT(H:Hk h0 X L D N cc xs b g m c hs k T w)(hm:m=N / 5):cT.wp Tryz.prog (fun e t u=>t.defers=[]/\(e=.normal/\False\/e=.ret/\t.tmps.getD 2 undef=.bool true)) ⟨T,[]⟩ w:=by
 obtain⟨J,rfl⟩:∃ J,T=TV J:=⟨_,tv_of H.size⟩;have j1:J 1=X:=H.x1;have j3:J 3=AJ b:=H.t3;have j4:J 4=.slice D N cc:=H.t4;have j5:J 5=.slice (some ⟨g,0,none⟩) m c:=H.t5;have j7:J 7=.int .i64 (k:Int):=H.t7;have hsm:=H.sm;have hq:((N:Int)).tdiv 5=((N / 5:Nat):Int):=by rw[Int.tdiv_eq_ediv_of_nonneg (by omega)]; simp
 subst hm;rw[show cT=.seq (.region 14 _ false) .ret from rfl];go_wp;exact⟨rfl,.inr ⟨rfl,rfl⟩⟩
end
theorem loop{W:World}{L:Lv}{D:Option Addr}{N cc:Nat}{xs:List In}{b g c:Nat}{B:Nat->Option Obj}(hG:XR.G<=W.heap.size)(hB:∀ j,j<W.heap.size->B j=W.heap[j]?)(hl:xs.length=N)(hN:N<=63)(hok:CW L xs N (N:Int)=true) :
 ∀(r k:Nat),k+r=(Bm 0 (hashes.sts L xs N)).length->∀{B2:Nat->Option Obj} {T:Array Value} {O:Nat->Prop} {w:World},(∀ j,j<W.heap.size->B2 j=B j)->Sit XR gR W.heap.size (vr W W.heap.size) (fun _=>False) B2 (Hk (vh W W.heap.size) undef L D N cc xs b g (Bm 0 (hashes.sts L xs N)).length c (Bm 0 (hashes.sts L xs N)) k) T O w ->
 Co PP true (Lt W.heap.size) (Do PP W (QD W)) O (Bc (F fV T (.code cL::.inLoop cL::.inBlock 0::[.code cT])) []) w:=by
 have hlen:(Bm 0 (hashes.sts L xs N)).length=N / 5:=by rw[LK hl hok]; simp
 intro r
 induction r with
 | zero =>
  intro k hk B2 T O w hB2 h;rw[PI];refine h.ctl rfl (fun w1=>AE) ?_;refine h.ctl rfl (fun w1=>AE) ?_;refine h.wp AV AW AD Hk.hpo nn (Au fV_at) k9 (Q1:=fun T u=>Hk (vh W W.heap.size) undef L D N cc xs b g (Bm 0 (hashes.sts L xs N)).length c (Bm 0 (hashes.sts L xs N)) k T u/\T.getD 40 undef=.bool (decide (k<(Bm 0 (hashes.sts L xs N)).length))) (fun T u x=>a9 x) fun T1 O1 y1 h1=>?_;have h40:=h1.slot (i:=40) (.bool false) fun T u x=>by rw[x.2,decide_eq_false (by omega)]
  refine h1.ctl rfl (fun w1=>CV (t:=false) (by exact h40)) ?_;refine h1.ctl rfl (fun w1=>Mw (k':=[.code cT]) rfl) ?_;exact h1.wp2 AV AW AD (fun T u u' x e=>⟨Hk.hpo T u u' x.1 e,x.2⟩) nn (Au fV_at) kT (Q1:=fun _ _=>False) (Q2:=fun T u=>T.getD 2 undef=.bool true) (fun T u x=>aT x.1 hlen) (fun T7 O7 y7 h7=>h7.fact fun _ _ x=>x.elim) (fun k T7 O7 y7 h7=>h7.done (fun j hj=>(hB2 j hj).trans (hB j hj)) fV_at (by kernel_rfl) (by rfl) fun T u x=>x)
 | succ r ih =>
  intro k hk B2 T O w hB2 h;have hkk:k<(Bm 0 (hashes.sts L xs N)).length:=by omega
  have h5:5*(k+1)<=N:=by omega
  have hr:=Kt hok h5;have ea:L.ans xs N ((5*(k+1):Nat):Int)=.tuple #[sva (L.at xs (5*(k+1))),.bool true]:=by rw[Lv.ans_eq,fin_at hr,hr]
  have hy:(Bm 0 (hashes.sts L xs N)).getD k 0=Ta (L.at xs (5*(k+1))):=by
   rw[LK hl hok,List.getD_eq_getElem?_getD,List.getElem?_map,List.getElem?_range (by omega)];rfl
  rw[PI];refine h.ctl rfl (fun w1=>AE) ?_;refine h.ctl rfl (fun w1=>AE) ?_;refine h.wp AV AW AD Hk.hpo nn (Au fV_at) k9 (Q1:=fun T u=>Hk (vh W W.heap.size) undef L D N cc xs b g (Bm 0 (hashes.sts L xs N)).length c (Bm 0 (hashes.sts L xs N)) k T u/\T.getD 40 undef=.bool (decide (k<(Bm 0 (hashes.sts L xs N)).length))) (fun T u x=>a9 x) fun T1 O1 y1 h1=>?_;have h40:=h1.slot (i:=40) (.bool true) fun T u x=>by rw[x.2,decide_eq_true hkk]
  refine h1.ctl rfl (fun w1=>CV (t:=true) (by exact h40)) ?_;refine h1.ctl rfl (fun w1=>GH) ?_;refine h1.ctl rfl (fun w1=>AE) ?_;refine h1.ctl rfl (fun w1=>Eg) ?_;refine h1.ctl rfl (fun w1=>AE) ?_;refine h1.ctl rfl (fun w1=>by rw[show c11=.region 11 (cO c11) false from rfl]; exact BG) ?_
  refine h1.ops (l1:=[0,1,2,3,4]) (l2:=[5,6,7,8,9,10,11]) AV AW AD (fun T u u' x e=>⟨Hk.hpo T u u' x.1 e,x.2⟩) nn (Au fV_at) o11 (Q1:=fun T u=>Hk (vh W W.heap.size) undef L D N cc xs b g (Bm 0 (hashes.sts L xs N)).length c (Bm 0 (hashes.sts L xs N)) k T u/\T.getD 44 undef=L.val/\T.getD 45 undef=.slice D N cc/\T.getD 48 undef=.int .i64 ((5*(k+1):Nat):Int)) (fun T u x=>a11 x.1 (by omega)) fun T2 O2 y2 h2=>?_;have hz:=h2.slot (i:=48) (.int .i64 ((5*(k+1):Nat):Int)) fun T u x=>x.2.2.2
  refine h2.runTo hG (i:=5) (l:=[6,7,8,9,10,11]) (d:=49) (z:=.tmp 48) (k0:=((5*(k+1):Nat):Int)) (L:=L) (A:=D) (n:=N) (cap:=cc) (xs:=xs) rfl rfl rfl rfl (by exact hz) (fun T u x=>⟨⟨x.2.1,x.2.2.1⟩,x.1.rd⟩) fun B3 y3 hB3 h3=>?_
  refine Sit.ops (l1:=[6,7,8,9,10,11]) (l2:=[]) (h3.mono (Q1:=fun T u=>Hk (vh W W.heap.size) undef L D N cc xs b g (Bm 0 (hashes.sts L xs N)).length c (Bm 0 (hashes.sts L xs N)) k T u/\T.getD 49 undef=.tuple #[sva (L.at xs (5*(k+1))),.bool true]) fun T u ⟨T0,x,e⟩=>?_) AV AW AD (fun T u u' x e=>⟨Hk.hpo T u u' x.1 e,x.2⟩) nn (Au fV_at) o11b (Q1:=fun T u=>∃ e,Hl (vh W W.heap.size) undef L D N cc xs b g (Bm 0 (hashes.sts L xs N)).length c (Bm 0 (hashes.sts L xs N)) k e (L.at xs (5*(k+1))) T u) (fun T u x=>a11b x.1 x.2) fun T4 O4 y4 h4=>?_
  . subst e;exact⟨x.1.put (by omega) _,(BW (by rw[x.1.size]; omega)).trans ea⟩
  obtain⟨e,h4⟩:=h4.split;refine h4.ctl rfl (fun w1=>Ci) ?_;refine h4.wp AV AW AD Hl.hpo nn (Au fV_at) VA (Q1:=Hk (vh W W.heap.size) undef L D N cc xs b g (Bm 0 (hashes.sts L xs N)).length c (Bm 0 (hashes.sts L xs N)) k) (fun T u x=>VB x hkk hy) fun T5 O5 y5 h5=>?_;refine h5.ctl rfl (fun w1=>GI) ?_;refine h5.wp AV AW AD Hk.hpo nn (Au fV_at) Vx (Q1:=Hk (vh W W.heap.size) undef L D N cc xs b g (Bm 0 (hashes.sts L xs N)).length c (Bm 0 (hashes.sts L xs N)) (k+1)) (fun T u x=>a10 x (by omega)) fun T6 O6 y6 h6=>?_;refine h6.ctl rfl (fun w1=>IA) ?_;have:=ih (k+1) (by omega) (fun j hj=>(hB3 j hj).trans (hB2 j hj)) h6
  rw[PI] at this;exact this
theorem way(a:Option Addr)(len cap:Nat)(zs:List Int)(W:World)(hr:IsRow .u8 W a len cap zs)(ca:Cel W a)(hq:Quarter W)(hG:XR.G<=W.heap.size):Ren.Way PP (QD W) (Bc (Frame.enter PP fV #[.slice a len cap] .normal) []) W:=by
 refine Ren.Way.of_co (W:=W) (RO:=Lt W.heap.size) (O:=fun _=>False) ?_ (Ren.Alike.refl W) (fun j hj=>hj);have ha:ArrR XR.L (vr W W.heap.size) (#[.slice a len cap]++Array.replicate 68 undef) (#[.slice a len cap]++Array.replicate 68 undef) :=
  (ArrR.one (BH ca)).append (.replicate _ (.tuple rfl fun i x y h=>by simp at h))
 have h:Sit XR gR W.heap.size (vr W W.heap.size) (fun _=>False) (fun j=>W.heap[j]?) (fun T u=>T=#[.slice a len cap]++Array.replicate 68 undef/\(IsRow .u8 u a len cap zs/\Quarter u)/\Hp (vh W W.heap.size) u) (#[.slice a len cap]++Array.replicate 68 undef) (fun _=>False) W :=
  Sit.start (Nat.le_refl _) hG (Eh hq fun _ _=>rfl) (fun j h=>h.elim) ha ha (fun _ _=>rfl) (fun u hu=>⟨rfl,⟨hr.veil ca (Hp.refl hu),hq.veil (Hp.refl hu)⟩,Hp.refl hu⟩)
 rw[EJ fV_at (c:=kB) rfl,kB_eq];refine h.ctl rfl (fun w1=>AE) ?_;refine h.wp AV AW AD (fun T u u' x e=>⟨x.1,⟨x.2.1.1.same e,x.2.1.2.same e⟩,x.2.2.same e⟩) nn (Au fV_at) k0 (Q1:=Hz (vh W W.heap.size) 69 undef a len cap zs) (fun T u x=>?_) fun T1 O1 y1 h1=>?_
 . rw[x.1,tv_args];exact a0 (J:=fun z=>match z with | 0=>.slice a len cap | _=>undef) rfl rfl x.2.1.1 x.2.1.2 x.2.2
 refine h1.ctl rfl (fun w1=>AE) ?_;refine h1.wp2 AV AW AD Hz.hpo nn (Au fV_at) kX (Q1:=Hz (vh W W.heap.size) 69 undef a len cap zs) (Q2:=fun T u=>T.getD 2 undef=.bool true) (fun T u x=>aX x) (fun T2 O2 y2 h2=>?_) (fun k T2 O2 y2 h2=>h2.done (fun _ _=>rfl) fV_at (by kernel_rfl) (by rfl) fun T u x=>x);refine h2.ctl rfl (fun w1=>AE) ?_;refine h2.wp AV AW AD Hz.hpo nn (Au fV_at) k3 (Q1:=fun T u=>∃ L D N cc xs b,Hh (vh W W.heap.size) 69 0 undef L D N cc xs b T u) (fun T u x=>a3 x) fun T3 O3 y3 h3=>?_;obtain⟨L,h3⟩:=h3.split;obtain⟨D,h3⟩:=h3.split;obtain⟨N,h3⟩:=h3.split;obtain⟨cc,h3⟩:=h3.split;obtain⟨xs,h3⟩:=h3.split
 obtain⟨b,h3⟩:=h3.split;have hx0:=h3.fact fun T u x=>(⟨x.rd.ins.1,x.sm⟩:xs.length=N/\N<=63);have hl0:(Bm 0 (hashes.sts L xs N)).length<=1000:=by
  have h1:=Hx (hashes.sts L xs N) 0;have h2:(hashes.sts L xs N).length<=N+1:=by
   unfold hashes.sts;split
   . rw[List.length_cons,FZ]; omega
   . simp
  omega
 refine h3.ctl rfl (fun w1=>AE) ?_;refine h3.ctl rfl (fun w1=>by rw[show c4=.region 4 (cO c4) false from rfl]; exact BG) ?_;refine h3.ops (l1:=[0,1]) (l2:=[2,3]) AV AW AD Hh.hpo nn (Au fV_at) o4 (Q1:=fun T u=>Hh (vh W W.heap.size) 69 0 undef L D N cc xs b T u/\T.getD 18 undef=L.val/\T.getD 19 undef=.slice D N cc) (fun T u x=>a4 x) fun T4 O4 y4 h4=>?_;refine h4.runHashes hG (i:=2) (l:=[3]) (d:=20) (L:=L) (A:=D) (n:=N) (cap:=cc) (xs:=xs) rfl rfl rfl rfl (fun T u x=>⟨x.2,x.1.rd⟩) (by omega) fun c B2 y5 j5 O5 hcap hB h5=>?_
 have h5:=h5.mono (Q1:=fun T u=>∃ g,(Hh (vh W W.heap.size) 69 0 undef L D N cc xs b T u/\T.getD 20 undef=.slice (some ⟨g,0,none⟩) (Bm 0 (hashes.sts L xs N)).length c)/\Ints u (some ⟨g,0,none⟩) (Bm 0 (hashes.sts L xs N)).length (Bm 0 (hashes.sts L xs N))) fun T u ⟨T0,u0,x,e1,e2⟩=>by
  subst e1 e2;exact⟨u0.heap.size,⟨(x.1.put (by omega) _).at (Aa (Ac u0) _),BW (by rw[x.1.size]; omega)⟩,Ints.lit u0 _ _⟩
 obtain⟨g,h5⟩:=h5.split;refine Sit.ops (l1:=[3]) (l2:=[]) h5 AV AW AD (fun T u u' x e=>⟨⟨Hh.hpo T u u' x.1.1 e,x.1.2⟩,x.2.same e⟩) nn (Au fV_at) o4b (Q1:=Ho (vh W W.heap.size) 69 0 undef L D N cc xs b g (Bm 0 (hashes.sts L xs N)).length c (Bm 0 (hashes.sts L xs N))) (fun T u x=>a4b x.1.1 x.1.2 x.2 hcap) fun T6 O6 y6 h6=>?_;refine h6.ctl rfl (fun w1=>Ci) ?_;refine h6.ctl rfl (fun w1=>AE) ?_;refine h6.wp AV AW AD Ho.hpo nn (Au fV_at) k5 (Q1:=fun T u=>∃ E c2,Hp2 (vh W W.heap.size) 69 0 undef L D N cc xs b g (Bm 0 (hashes.sts L xs N)).length c (Bm 0 (hashes.sts L xs N)) E c2 T u) (fun T u x=>a5 x) fun T7 O7 y7 h7=>?_
 obtain⟨E,h7⟩:=h7.split;obtain⟨c2,h7⟩:=h7.split;refine h7.ctl rfl (fun w1=>AE) ?_;refine h7.wp2 AV AW AD Hp2.hpo nn (Au fV_at) k6 (Q1:=fun T u=>Ho (vh W W.heap.size) 69 0 undef L D N cc xs b g (Bm 0 (hashes.sts L xs N)).length c (Bm 0 (hashes.sts L xs N)) T u/\(DC L.i L.t L.x L.y L.ws L.gs L.fp L.fq L.fs L.fz L.b xs)<0) (Q2:=fun T u=>T.getD 2 undef=.bool true) (fun T u x=>a6 x hl0) (fun T8 O8 y8 h8=>?_) (fun k T8 O8 y8 h8=>h8.done (fun j hj=>hB j hj) fV_at (by kernel_rfl) (by rfl) fun T u x=>x);have hil:=h8.fact fun T u x=>x.2;have hok:CW L xs N (N:Int)=true:=by
  have e:(DC L.i L.t L.x L.y L.ws L.gs L.fp L.fq L.fs L.fz L.b xs)=-1:=by
   unfold DC at hil ⊢;split
   . rename_i hv;rw[if_pos hv] at hil;rcases Jh L.t L.b xs 0 0 0 with e | ⟨e,_⟩
     . exact e
     . have:0<=IZ L.t L.b xs:=e;omega
   . rename_i hv;rw[if_neg hv] at hil;omega
  simp[CW,e]
 rw[kQ_eq];refine h8.ctl rfl (fun w1=>AE) ?_;refine h8.ctl rfl (fun w1=>AE) ?_;refine h8.wp AV AW AD (fun T u u' x e=>⟨Ho.hpo T u u' x.1 e,x.2⟩) nn (Au fV_at) k8 (Q1:=Hk (vh W W.heap.size) undef L D N cc xs b g (Bm 0 (hashes.sts L xs N)).length c (Bm 0 (hashes.sts L xs N)) 0) (fun T u x=>a8 x.1) fun T9 O9 y9 h9=>?_;refine h9.ctl rfl (fun w1=>Eg) ?_;refine h9.ctl rfl (fun w1=>Kn) ?_;exact loop hG hB hx0.1 hx0.2 hok _ 0 (Nat.zero_add _) (fun j _=>rfl) h9
end Go.Proofs.YtaemcekcancpdabGreatDoor.fnHashesW
