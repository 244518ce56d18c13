import Derived.Test.YtaemcekcancpdaaGreatDoorZRunScM
set_option linter.all false
set_option maxRecDepth 100000
set_option maxHeartbeats 8000000
open Go.Lib
namespace Go.Proofs.YtaemcekcancpdaaGreatDoor.fnRunBeginW
open Go.RowKit
open M
open Ren
open Go.Conc
noncomputable abbrev kB:Code:=Dr Tryz.f3
noncomputable def c0:Code:=cA kB
noncomputable def cX:Code:=cA (cB kB)
noncomputable def c3:Code:=cA (cB (cB kB))
noncomputable def c4:Code:=cA (cB (cB (cB kB)))
noncomputable def cR:Code:=cB (cB (cB (cB kB)))
theorem kB_eq:kB=.seq c0 (.seq cX (.seq c3 (.seq c4 cR))):=rfl
abbrev fV:FuncId:=3
theorem fV_at:PP.funcs[fV]?=some Tryz.f3:=Tryz.func3
theorem k0:XR.C c0:=by show AH PP Ck Cn c0=true; kernel_rfl
theorem kX:XR.C cX:=by show AH PP Ck Cn cX=true; kernel_rfl
theorem k3:XR.C c3:=by show AH PP Ck Cn c3=true; kernel_rfl
theorem o4:∀ i∈[0,1,2],∀ o,(cO c4)[i]?=some o->OpOk XR gR o.op:=Bz (by kernel_rfl)
theorem o4b:∀ i∈[4,5,6,7,8,9],∀ o,(cO c4)[i]?=some o->OpOk XR gR o.op:=Bz (by kernel_rfl)
abbrev TV(J:Nat->Value):Array Value:=#[J 0,J 1,J 2,J 3,J 4,J 5,J 6,J 7,J 8,J 9,J 10,J 11,J 12,J 13,J 14,J 15,J 16,J 17,J 18,J 19,J 20,J 21,J 22,J 23,J 24,J 25,J 26,J 27,J 28,J 29,J 30,J 31,J 32,J 33,J 34,J 35,J 36,J 37,J 38,J 39,J 40,J 41,J 42,J 43,J 44,J 45,J 46,J 47,J 48,J 49,J 50,J 51,J 52,J 53,J 54,J 55,J 56,J 57,J 58,J 59,J 60,J 61,J 62,J 63,J 64,J 65,J 66,J 67,J 68,J 69,J 70,J 71,J 72,J 73,J 74,J 75,J 76,J 77,J 78,J 79,J 80,J 81,J 82,J 83,J 84,J 85,J 86,J 87,J 88,J 89,J 90,J 91,J 92,J 93,J 94,J 95,J 96]
theorem tv_of{T:Array Value}(h:T.size=97):T=TV fun n=>T.getD n undef:=by
 refine Array.ext h fun i h1 h2=>?_;have e:∀ n (hn:n<T.size),T.getD n undef=T[n]:=fun n hn=>by simp[Array.getD,hn]
 simp only[TV];have:i<97:=h▸h1
 iterate 97 (rcases i with _ | i; · exact(e _ _).symm)
 omega
theorem tv_args(a:Value):#[a]++Array.replicate 96 undef=#[a,undef,undef,undef,undef,undef,undef,undef,undef,undef,undef,undef,undef,undef,undef,undef,undef,undef,undef,undef,undef,undef,undef,undef,undef,undef,undef,undef,undef,undef,undef,undef,undef,undef,undef,undef,undef,undef,undef,undef,undef,undef,undef,undef,undef,undef,undef,undef,undef,undef,undef,undef,undef,undef,undef,undef,undef,undef,undef,undef,undef,undef,undef,undef,undef,undef,undef,undef,undef,undef,undef,undef,undef,undef,undef,undef,undef,undef,undef,undef,undef,undef,undef,undef,undef,undef,undef,undef,undef,undef,undef,undef,undef,undef,undef,undef,undef]:=by kernel_rfl
structure Vb(h0:Array Obj)(L:Lv)(D:Option Addr)(N cc:Nat)(xs:List In)(k0:Int)(b c:Nat)(s:St)(ok:Bool)(c3:Nat)(s3:St)(T:Array Value)(u:World):Prop extends Vo h0 97 0 L D N cc xs k0 b c s ok T u where
 t10:T.getD 10 undef=AA c3
 t11:T.getD 11 undef=.bool true
 S3:CellsAt u c3 (svs s3)
 l3:b<c3
theorem Vb.hpo{h0:Array Obj}{L:Lv}{D:Option Addr}{N cc:Nat}{xs:List In}{k0:Int}{b c:Nat}{s:St}{ok:Bool}{c3:Nat}{s3:St}:Hpo (Vb h0 L D N cc xs k0 b c s ok c3 s3):=fun _ _ _ h e=>{ h with P:=h.P.same e,rd:=h.rd.same e,hp:=h.hp.same e,S:=h.S.same e,S3:=h.S3.same e }
structure Vc(h0:Array Obj)(L:Lv)(D:Option Addr)(N cc:Nat)(xs:List In)(k0:Int)(b c:Nat)(s:St)(ok:Bool)(c3 c4:Nat)(s3:St)(T:Array Value)(u:World):Prop extends Vb h0 L D N cc xs k0 b c s ok c3 s3 T u where
 t12:T.getD 12 undef=AA c4
 t13:T.getD 13 undef=.bool true
 S4:CellsAt u c4 (svs s3)
theorem Vc.hpo{h0:Array Obj}{L:Lv}{D:Option Addr}{N cc:Nat}{xs:List In}{k0:Int}{b c:Nat}{s:St}{ok:Bool}{c3 c4:Nat}{s3:St}:Hpo (Vc h0 L D N cc xs k0 b c s ok c3 c4 s3):=fun _ _ _ h e=>{ h with P:=h.P.same e,rd:=h.rd.same e,hp:=h.hp.same e,S:=h.S.same e,S3:=h.S3.same e,S4:=h.S4.same e }
structure Vd(h0:Array Obj)(L:Lv)(D:Option Addr)(N cc:Nat)(xs:List In)(k0:Int)(b c:Nat)(s:St)(ok:Bool)(c3 c4:Nat)(s3:St)(g m c2:Nat)(ps:List Pt)(T:Array Value)(u:World):Prop extends Vc h0 L D N cc xs k0 b c s ok c3 c4 s3 T u where
 t14:T.getD 14 undef=.slice (some ⟨g,0,none⟩) m c2
 Y:Points u (some ⟨g,0,none⟩) m ps
theorem Vd.hpo{h0:Array Obj}{L:Lv}{D:Option Addr}{N cc:Nat}{xs:List In}{k0:Int}{b c:Nat}{s:St}{ok:Bool}{c3 c4:Nat}{s3:St}{g m c2:Nat}{ps:List Pt}:Hpo (Vd h0 L D N cc xs k0 b c s ok c3 c4 s3 g m c2 ps):=fun _ _ _ h e=>{ h with P:=h.P.same e,rd:=h.rd.same e,hp:=h.hp.same e,S:=h.S.same e,S3:=h.S3.same e,S4:=h.S4.same e,Y:=h.Y.same e }
theorem Vc.put{h0:Array Obj}{L:Lv}{D:Option Addr}{N cc:Nat}{xs:List In}{k0:Int}{b c:Nat}{s:St}{ok:Bool}{c3 c4 d:Nat}{s3:St}{T:Array Value}{u:World}(x:Vc h0 L D N cc xs k0 b c s ok c3 c4 s3 T u)(hd:13<d)(v:Value):Vc h0 L D N cc xs k0 b c s ok c3 c4 s3 (Bh T (some d) v) u :=
 ⟨⟨x.toVo.put (by omega) v,(Aj (by omega)).trans x.t10,(Aj (by omega)).trans x.t11,x.S3,x.l3⟩,(Aj (by omega)).trans x.t12,(Aj (by omega)).trans x.t13,x.S4⟩
theorem Vc.path{h0:Array Obj}{L:Lv}{D:Option Addr}{N cc:Nat}{xs:List In}{k0:Int}{b c:Nat}{s:St}{ok:Bool}{c3 c4 d:Nat}{s3:St}{T:Array Value}{u:World}(x:Vc h0 L D N cc xs k0 b c s ok c3 c4 s3 T u)(hd:13<d)(hsz:d<97)(ss:List St)(cap:Nat)(t:TypeId) :
 ∃ g,(Vc h0 L D N cc xs k0 b c s ok c3 c4 s3 (Bh T (some d) (.slice (some ⟨u.heap.size,0,none⟩) ss.length cap)) (u.alloc (.cells (Dv (ss.map DI)).toArray t))/\(Bh T (some d) (.slice (some ⟨u.heap.size,0,none⟩) ss.length cap)).getD d undef=.slice (some ⟨g,0,none⟩) ss.length cap)/\Points (u.alloc (.cells (Dv (ss.map DI)).toArray t)) (some ⟨g,0,none⟩) ss.length (ss.map DI) :=
 ⟨u.heap.size,⟨by
  have y:=x.put hd (.slice (some ⟨u.heap.size,0,none⟩) ss.length cap);have B:=Aa (Ac u) (.cells (Dv (ss.map DI)).toArray t);exact { y with P:=y.P.step B,rd:=y.rd.step B,hp:=y.hp.step B,S:=y.S.step B,S3:=y.S3.step B,S4:=y.S4.step B },A8 (by rw[x.size]; exact hsz)⟩,by
  have:=Points.lit u (ss.map DI) t
  rwa [List.length_map] at this⟩
section
variable {h0:Array Obj} {a:Option Addr} {len cap:Nat} {zs:List Int} {T:Array Value} {w:World} {L:Lv} {D:Option Addr} {N cc:Nat} {xs:List In} {kz:Int} {b c:Nat} {s:St} {ok:Bool}
theorem a0{J:Nat->Value}(j0:J 0=.slice a len cap)(hr:IsRow .u8 w a len cap zs)(hq:Quarter w)(hp:Hp h0 w):c0.wp Tryz.prog (fun e t u=>e=.normal/\t.defers=[]/\Za h0 97 a len cap zs t.tmps u) ⟨TV J,[]⟩ w:=by
 rw[show c0=.region 0 _ false from rfl];go_wp;exact⟨rfl,rfl,rfl,rfl,hr,hq,hp⟩
theorem aX(H:Za h0 97 a len cap zs T w):cX.wp Tryz.prog (fun e t u=>t.defers=[]/\(e=.normal/\Za h0 97 a len cap zs t.tmps u\/e=.ret/\t.tmps.getD 2 undef=.bool true)) ⟨T,[]⟩ w:=by
 obtain⟨J,rfl⟩:∃ J,T=TV J:=⟨_,tv_of H.size⟩;have j0:J 0=.slice a len cap:=H.t0;rw[show cX=.seq (.region 1 _ false) (.cond (.tmp 17) (.seq (.region 2 _ false) .ret) .skip) from rfl];by_cases g9:1048576<len
 . have g1:(1048576:Int)<(len:Int):=by omega
   go_wp;exact⟨rfl,.inr ⟨rfl,rfl⟩⟩
 have g1:¬ (1048576:Int)<(len:Int):=by omega
 have g1d:decide ((1048576:Int)<(len:Int))=false:=decide_eq_false g1;have g2d:decide (1048576<len)=false:=decide_eq_false (by omega);go_wp;exact⟨rfl,.inl ⟨rfl,rfl,rfl,H.row,H.q,H.hp⟩⟩
theorem a3(H:Za h0 97 a len cap zs T w):c3.wp Tryz.prog (fun e t u=>e=.normal/\t.defers=[]/\∃ L D N cc xs kz b,Vh h0 97 0 L D N cc xs kz b t.tmps u) ⟨T,[]⟩ w:=by
 obtain⟨J,rfl⟩:∃ J,T=TV J:=⟨_,tv_of H.size⟩;have j0:J 0=.slice a len cap:=H.t0;rw[show c3=.region 3 _ false from rfl];go_wp;refine(ML a len cap zs w H.row).mono ?_;rintro e w1 ⟨i,t,x,y,A,n,c,G,m,kk,fp,fq,fs,fz,b,ws,gs,D,N,cc,xs,kz,rfl,⟨zA,zG,zD⟩,bd,hn,hm,hN,I,G1,Y,B⟩;dsimp only
 iterate 16 go_step
 refine Ai rfl 29 (.tmp 3) (.tmp 21) rfl w1.heap.size rfl (AX i t x y A n c G m kk fp fq fs fz b) rfl _ (CellsAt.new w1 _ [_,_,_,_,_,_,_,_,_,_,_] 29 rfl) (Nat.le_refl _) Ad rfl ?_;intro w2 K P;go_wp;have rd:Ready ⟨i,t,x,y,A,n,c,G,m,kk,fp,fq,fs,fz,b,ws,gs⟩ D N cc xs w1:=⟨⟨I,G1,by show n<=_; omega,by show m<=_; omega,I.cel zA,G1.cel zG⟩,Y,zD,by omega,hN.2,H.q.step B⟩;have B2:=Aa (Ac w1) (.cells #[.int .i64 0,.int .i64 0,.int .i64 0,.int .i64 0,.slice none 0 0,.slice none 0 0,.int .i64 0,.int .i64 0,.int .i64 0,.int .i64 0,.int .i64 0] 29);have h1:=H.hp.size;have h2:=B.size;have h3:=H.q.lt
 exact⟨rfl,rfl,⟨i,t,x,y,A,n,c,G,m,kk,fp,fq,fs,fz,b,ws,gs⟩,D,N,cc,xs,kz,w1.heap.size,rfl,rfl,rfl,rfl,P,(rd.step B2).keep rd.low K (Nat.le_refl _) (by omega),rd.low,((H.hp.step B).step B2).kept K (by omega),by omega,by omega,bd,hN.1⟩
theorem a4(H:Vh h0 97 0 L D N cc xs kz b T w):wpOps Tryz.prog (cO c4) (fun e t u=>e=.normal/\t.defers=[]/\(Vh h0 97 0 L D N cc xs kz b t.tmps u/\t.tmps.getD 25 undef=L.val/\t.tmps.getD 26 undef=.slice D N cc/\t.tmps.getD 27 undef=.int .i64 kz)) [0,1,2] ⟨T,[]⟩ w:=by
 obtain⟨J,rfl⟩:∃ J,T=TV J:=⟨_,tv_of H.size⟩;have j3:J 3=AA b:=H.t3;have j4:J 4=.slice D N cc:=H.t4;have j5:J 5=.int .i64 kz:=H.t5;have e:cO c4=#[_,_,_,_,_,_,_,_,_,_]:=rfl;rw[Ah (os:=[_,_,_]) rfl];simp only[e,List.getElem_toArray,List.getElem_cons_zero,List.getElem_cons_succ];refine Af rfl 29 (.tmp 3) rfl b j3 L.cs H.P Tryz.underlying29 rfl Ad ?_;go_wp;exact⟨rfl,rfl,⟨rfl,rfl,rfl,rfl,H.P,H.rd,H.lo,H.hp,H.lb,H.bp,H.bd,H.sm⟩,rfl,rfl,rfl⟩
theorem a5(H:Vh h0 97 0 L D N cc xs kz b T w)(h23:T.getD 28 undef=.tuple #[sva s,.bool ok]):wpOps Tryz.prog (cO c4) (fun e t u=>e=.normal/\t.defers=[]/\∃ c,Vo h0 97 0 L D N cc xs kz b c s ok t.tmps u) [4,5,6,7,8,9] ⟨T,[]⟩ w:=by
 obtain⟨J,rfl⟩:∃ J,T=TV J:=⟨_,tv_of H.size⟩;have j3:J 3=AA b:=H.t3;have j4:J 4=.slice D N cc:=H.t4;have j5:J 5=.int .i64 kz:=H.t5;have j23:J 28=.tuple #[sva s,.bool ok]:=h23;have e:cO c4=#[_,_,_,_,_,_,_,_,_,_]:=rfl;rw[Ah (os:=[_,_,_,_,_,_]) rfl];simp only[e,List.getElem_toArray,List.getElem_cons_zero,List.getElem_cons_succ]
 iterate 12 go_step
 refine Ai rfl 34 (.tmp 6) (.tmp 29) rfl w.heap.size rfl (svs s) rfl _ (CellsAt.new w _ [_,_,_,_,_,_,_,_,_] 34 rfl) (Nat.le_refl _) Ae rfl ?_;intro w2 K S;go_wp;have B2:=Aa (Ac w) (.cells #[.int .i64 0,.int .i64 0,.int .i64 0,.int .i64 0,.int .i64 0,.int .i64 0,.int .i64 0,.bool false,.bool false] 34);have h1:=H.P.lt;have h2:=H.hp.size;exact⟨rfl,rfl,w.heap.size,⟨rfl,rfl,rfl,rfl,(H.P.step B2).kept K (by omega),(H.rd.step B2).keep H.rd.low K (Nat.le_refl _) (by omega),H.lo,(H.hp.step B2).kept K (by omega),H.lb,H.bp,H.bd,H.sm⟩,rfl,rfl,S,h1⟩
noncomputable def c5:Code:=cA cR
noncomputable def c6:Code:=cA (cB cR)
noncomputable def c8:Code:=cA (cB (cB cR))
noncomputable def c9:Code:=cA (cB (cB (cB cR)))
noncomputable def NU:Code:=cA (cB (cB (cB (cB cR))))
noncomputable def cE:Code:=cB (cB (cB (cB (cB cR))))
theorem kR_eq:cR=.seq c5 (.seq c6 (.seq c8 (.seq c9 (.seq NU cE)))):=rfl
theorem k5:XR.C c5:=by show AH PP Ck Cn c5=true; kernel_rfl
theorem k6:XR.C c6:=by show AH PP Ck Cn c6=true; kernel_rfl
theorem kE:XR.C cE:=by show AH PP Ck Cn cE=true; kernel_rfl
theorem a5w(H:Vo h0 97 0 L D N cc xs kz b c (L.fin xs N kz) (B8 L xs N kz) T w):c5.wp Tryz.prog (fun e t u=>e=.normal/\t.defers=[]/\∃ c2,Vp h0 97 0 L D N cc xs kz b c c2 (L.fin xs N kz) (B8 L xs N kz) t.tmps u) ⟨T,[]⟩ w:=by
 obtain⟨J,rfl⟩:∃ J,T=TV J:=⟨_,tv_of H.size⟩;have j3:J 3=AA b:=H.t3;have j4:J 4=.slice D N cc:=H.t4;have j5:J 5=.int .i64 kz:=H.t5;have j6:J 6=AA c:=H.t6;have j7:J 7=.bool (B8 L xs N kz):=H.t7;rw[show c5=.region 5 _ false from rfl];have C:=hid (Nw L D N cc xs kz w H.rd.lv.I H.rd.lv.J H.rd.lv.n H.rd.lv.m H.rd.ins (by have:=H.sm; omega));rw[Lv.ans_eq] at C;generalize L.fin xs N kz=s at *;generalize B8 L xs N kz=ok at *;refine wp_region_lit ?_;refine Af rfl 29 (.tmp 3) rfl b j3 L.cs H.P Tryz.underlying29 rfl Ad ?_;go_wp;refine C.out.mono ?_;rintro e w1 ⟨rfl,B⟩;dsimp only
 iterate 13 go_step
 have B2:=Aa B (.cells #[.int .i64 0,.int .i64 0,.int .i64 0,.int .i64 0,.int .i64 0,.int .i64 0,.int .i64 0,.bool false,.bool false] 34);have b1:=B.size;have lc:=H.lc;have sl:=H.S.lt;have h2:=H.hp.size;refine Ai rfl 34 (.tmp 8) (.tmp 36) rfl w1.heap.size rfl (svs s) rfl _ (CellsAt.new w1 _ [_,_,_,_,_,_,_,_,_] 34 rfl) (Nat.le_refl _) Ae rfl ?_;intro w2 K S2;go_wp;exact⟨rfl,rfl,w1.heap.size,⟨⟨rfl,rfl,rfl,rfl,(H.P.step B2).kept K (by omega),(H.rd.step B2).keep H.rd.low K (by omega) (by omega),H.lo,(H.hp.step B2).kept K (by omega),H.lb,H.bp,H.bd,H.sm⟩,rfl,rfl,(H.S.step B2).kept K (by omega),H.lc⟩,rfl,rfl,S2⟩
theorem a6{c2:Nat}(H:Vp h0 97 0 L D N cc xs kz b c c2 s ok T w):c6.wp Tryz.prog (fun e t u=>t.defers=[]/\(e=.normal/\(Vo h0 97 0 L D N cc xs kz b c s ok t.tmps u/\ok=true)\/e=.ret/\t.tmps.getD 2 undef=.bool true)) ⟨T,[]⟩ w:=by
 obtain⟨J,rfl⟩:∃ J,T=TV J:=⟨_,tv_of H.size⟩;have j3:J 3=AA b:=H.t3;have j4:J 4=.slice D N cc:=H.t4;have j5:J 5=.int .i64 kz:=H.t5;have j6:J 6=AA c:=H.t6;have j7:J 7=.bool ok:=H.t7;have j8:J 8=AA c2:=H.t8;have j9:J 9=.bool ok:=H.t9;rw[show c6=.seq (.region 6 _ false) (.cond (.tmp 49) (.seq (.region 7 _ false) .ret) .skip) from rfl];have hneq:=fun W=>Jh s.k s.ax s.ay s.fx s.fy s.u s.g s.d s.o W;have heq:=fun W=>HT s.k s.ax s.ay s.fx s.fy s.u s.g s.d s.o W;have hgd:=Er;go_upto_region 6 with fail;refine wp_region_lit ?_;cases ok
 . iterate 12 go_step
   refine Az (by simp[Region.wanted,yielded,Act.put]) 34 (.tmp 6) rfl c rfl (svs s) H.S Tryz.underlying34 rfl Ae ?_;refine Az (by simp[Region.wanted,yielded,Act.put]) 34 (.tmp 8) rfl c2 rfl (svs s) H.S2 Tryz.underlying34 rfl Ae ?_;go_upto_region 7 with fail;refine wp_region_lit ?_
   iterate 12 go_step
   refine Az (by simp[Region.wanted,yielded,Act.put]) 34 (.tmp 6) rfl c rfl (svs s) H.S Tryz.underlying34 rfl Ae ?_;refine Az (by simp[Region.wanted,yielded,Act.put]) 34 (.tmp 8) rfl c2 rfl (svs s) H.S2 Tryz.underlying34 rfl Ae ?_;go_wp;exact⟨rfl,.inr ⟨rfl,rfl⟩⟩
 . iterate 12 go_step
   refine Az (by simp[Region.wanted,yielded,Act.put]) 34 (.tmp 6) rfl c rfl (svs s) H.S Tryz.underlying34 rfl Ae ?_;refine Az (by simp[Region.wanted,yielded,Act.put]) 34 (.tmp 8) rfl c2 rfl (svs s) H.S2 Tryz.underlying34 rfl Ae ?_;go_wp;exact⟨rfl,.inl ⟨rfl,⟨⟨rfl,rfl,rfl,rfl,H.P,H.rd,H.lo,H.hp,H.lb,H.bp,H.bd,H.sm⟩,rfl,rfl,H.S,H.lc⟩,rfl⟩⟩
theorem o8:∀ i∈[0,1],∀ o,(cO c8)[i]?=some o->OpOk XR gR o.op:=Bz (by kernel_rfl)
theorem o8b:∀ i∈[3,4,5,6,7,8],∀ o,(cO c8)[i]?=some o->OpOk XR gR o.op:=Bz (by kernel_rfl)
theorem k9:XR.C c9:=by show AH PP Ck Cn c9=true; kernel_rfl
theorem Va:∀ i∈[0,1],∀ o,(cO NU)[i]?=some o->OpOk XR gR o.op:=Bz (by kernel_rfl)
theorem UU:∀ i∈[3],∀ o,(cO NU)[i]?=some o->OpOk XR gR o.op:=Bz (by kernel_rfl)
theorem a8(H:Vo h0 97 0 L D N cc xs kz b c s ok T w):wpOps Tryz.prog (cO c8) (fun e t u=>e=.normal/\t.defers=[]/\(Vo h0 97 0 L D N cc xs kz b c s ok t.tmps u/\t.tmps.getD 59 undef=L.val/\t.tmps.getD 60 undef=.slice D N cc)) [0,1] ⟨T,[]⟩ w:=by
 obtain⟨J,rfl⟩:∃ J,T=TV J:=⟨_,tv_of H.size⟩;have j3:J 3=AA b:=H.t3;have j4:J 4=.slice D N cc:=H.t4;have j5:J 5=.int .i64 kz:=H.t5;have j6:J 6=AA c:=H.t6;have j7:J 7=.bool ok:=H.t7;have e:cO c8=#[_,_,_,_,_,_,_,_,_]:=rfl;rw[Ah (os:=[_,_]) rfl];simp only[e,List.getElem_toArray,List.getElem_cons_zero,List.getElem_cons_succ];refine Af rfl 29 (.tmp 3) rfl b j3 L.cs H.P Tryz.underlying29 rfl Ad ?_;go_wp;exact⟨rfl,rfl,⟨⟨rfl,rfl,rfl,rfl,H.P,H.rd,H.lo,H.hp,H.lb,H.bp,H.bd,H.sm⟩,rfl,rfl,H.S,H.lc⟩,rfl,rfl⟩
theorem a8b{s3:St}(H:Vo h0 97 0 L D N cc xs kz b c s ok T w)(hs:T.getD 61 undef=.tuple #[sva s3,.bool true]):wpOps Tryz.prog (cO c8) (fun e t u=>e=.normal/\t.defers=[]/\(∃ c3,Vb h0 L D N cc xs kz b c s ok c3 s3 t.tmps u)) [3,4,5,6,7,8] ⟨T,[]⟩ w:=by
 obtain⟨J,rfl⟩:∃ J,T=TV J:=⟨_,tv_of H.size⟩;have j3:J 3=AA b:=H.t3;have j4:J 4=.slice D N cc:=H.t4;have j5:J 5=.int .i64 kz:=H.t5;have j6:J 6=AA c:=H.t6;have j7:J 7=.bool ok:=H.t7;have js:J 61=.tuple #[sva s3,.bool true]:=hs;have e:cO c8=#[_,_,_,_,_,_,_,_,_]:=rfl;rw[Ah (os:=[_,_,_,_,_,_]) rfl];simp only[e,List.getElem_toArray,List.getElem_cons_zero,List.getElem_cons_succ]
 iterate 12 go_step
 have B2:=Aa (Ac w) (.cells #[.int .i64 0,.int .i64 0,.int .i64 0,.int .i64 0,.int .i64 0,.int .i64 0,.int .i64 0,.bool false,.bool false] 34);have h1:=H.S.lt;have h2:=H.hp.size;have h3:=H.lc;refine Ai rfl 34 (.tmp 10) (.tmp 62) rfl w.heap.size rfl (svs s3) rfl _ (CellsAt.new w _ [_,_,_,_,_,_,_,_,_] 34 rfl) (Nat.le_refl _) Ae rfl ?_;intro w2 K S2;go_wp;exact⟨rfl,rfl,w.heap.size,⟨⟨rfl,rfl,rfl,rfl,(H.P.step B2).kept K (by omega),(H.rd.step B2).keep H.rd.low K (by omega) (by omega),H.lo,(H.hp.step B2).kept K (by omega),H.lb,H.bp,H.bd,H.sm⟩,rfl,rfl,(H.S.step B2).kept K (by omega),H.lc⟩,rfl,rfl,S2,by omega⟩
theorem a9{c3:Nat}(H:Vb h0 L D N cc xs kz b c s ok c3 ⟨0,L.x,L.y,0,0,0,0,false,false⟩ T w)(hv:Cr L.i L.t L.x L.y L.ws L.gs L.fp L.fq L.fs L.fz L.b=true):c9.wp Tryz.prog (fun e t u=>e=.normal/\t.defers=[]/\∃ c4,Vc h0 L D N cc xs kz b c s ok c3 c4 ⟨0,L.x,L.y,0,0,0,0,false,false⟩ t.tmps u) ⟨T,[]⟩ w:=by
 obtain⟨J,rfl⟩:∃ J,T=TV J:=⟨_,tv_of H.size⟩;have j3:J 3=AA b:=H.t3;have j4:J 4=.slice D N cc:=H.t4;have j5:J 5=.int .i64 kz:=H.t5;have j6:J 6=AA c:=H.t6;have j7:J 7=.bool ok:=H.t7;have j10:J 10=AA c3:=H.t10;have j11:J 11=.bool true:=H.t11;have C:=HQ L.i L.t L.x L.y L.A L.n L.c L.G L.m L.kk L.fp L.fq L.fs L.fz L.b L.ws L.gs w H.rd.lv.I H.rd.lv.J H.rd.lv.n H.rd.lv.m;rw[hv] at C;replace C:=hid C;rw[show c9=.region 9 _ false from rfl];refine wp_region_lit ?_;refine Af rfl 29 (.tmp 3) rfl b j3 L.cs H.P Tryz.underlying29 rfl Ad ?_;go_wp;refine C.out.mono ?_;rintro e w1 ⟨rfl,B⟩;dsimp only
 iterate 13 go_step
 have B2:=Aa B (.cells #[.int .i64 0,.int .i64 0,.int .i64 0,.int .i64 0,.int .i64 0,.int .i64 0,.int .i64 0,.bool false,.bool false] 34);have b1:=B.size;have lc:=H.lc;have l3:=H.l3;have sl:=H.S.lt;have sl3:=H.S3.lt;have h2:=H.hp.size;refine Ai rfl 34 (.tmp 12) (.tmp 67) rfl w1.heap.size rfl (AB 0 L.x L.y 0 0 0 0 false false) rfl _ (CellsAt.new w1 _ [_,_,_,_,_,_,_,_,_] 34 rfl) (Nat.le_refl _) Ae rfl ?_;intro w2 K S2;go_wp
 exact⟨rfl,rfl,w1.heap.size,⟨⟨⟨rfl,rfl,rfl,rfl,(H.P.step B2).kept K (by omega),(H.rd.step B2).keep H.rd.low K (by omega) (by omega),H.lo,(H.hp.step B2).kept K (by omega),H.lb,H.bp,H.bd,H.sm⟩,rfl,rfl,(H.S.step B2).kept K (by omega),H.lc⟩,rfl,rfl,(H.S3.step B2).kept K (by omega),H.l3⟩,rfl,rfl,S2⟩
theorem Ve{c3 c4:Nat}{s3:St}(H:Vc h0 L D N cc xs kz b c s ok c3 c4 s3 T w):wpOps Tryz.prog (cO NU) (fun e t u=>e=.normal/\t.defers=[]/\(Vc h0 L D N cc xs kz b c s ok c3 c4 s3 t.tmps u/\t.tmps.getD 69 undef=L.val/\t.tmps.getD 70 undef=.slice D N cc)) [0,1] ⟨T,[]⟩ w:=by
 obtain⟨J,rfl⟩:∃ J,T=TV J:=⟨_,tv_of H.size⟩;have j3:J 3=AA b:=H.t3;have j4:J 4=.slice D N cc:=H.t4;have j5:J 5=.int .i64 kz:=H.t5;have j6:J 6=AA c:=H.t6;have j7:J 7=.bool ok:=H.t7;have j10:J 10=AA c3:=H.t10;have j11:J 11=.bool true:=H.t11;have j12:J 12=AA c4:=H.t12;have j13:J 13=.bool true:=H.t13;have e:cO NU=#[_,_,_,_]:=rfl;rw[Ah (os:=[_,_]) rfl];simp only[e,List.getElem_toArray,List.getElem_cons_zero,List.getElem_cons_succ];refine Af rfl 29 (.tmp 3) rfl b j3 L.cs H.P Tryz.underlying29 rfl Ad ?_;go_wp
 exact⟨rfl,rfl,⟨⟨⟨⟨rfl,rfl,rfl,rfl,H.P,H.rd,H.lo,H.hp,H.lb,H.bp,H.bd,H.sm⟩,rfl,rfl,H.S,H.lc⟩,rfl,rfl,H.S3,H.l3⟩,rfl,rfl,H.S4⟩,rfl,rfl⟩
theorem UV{c3 c4:Nat}{s3:St}{g m c2:Nat}{ps:List Pt}(H:Vc h0 L D N cc xs kz b c s ok c3 c4 s3 T w)(hs:T.getD 71 undef=.slice (some ⟨g,0,none⟩) m c2)(Y:Points w (some ⟨g,0,none⟩) m ps):wpOps Tryz.prog (cO NU) (fun e t u=>e=.normal/\t.defers=[]/\(Vd h0 L D N cc xs kz b c s ok c3 c4 s3 g m c2 ps t.tmps u)) [3] ⟨T,[]⟩ w:=by
 obtain⟨J,rfl⟩:∃ J,T=TV J:=⟨_,tv_of H.size⟩;have j3:J 3=AA b:=H.t3;have j4:J 4=.slice D N cc:=H.t4;have j5:J 5=.int .i64 kz:=H.t5;have j6:J 6=AA c:=H.t6;have j7:J 7=.bool ok:=H.t7;have j10:J 10=AA c3:=H.t10;have j11:J 11=.bool true:=H.t11;have j12:J 12=AA c4:=H.t12;have j13:J 13=.bool true:=H.t13;have js:J 71=.slice (some ⟨g,0,none⟩) m c2:=hs;have e:cO NU=#[_,_,_,_]:=rfl;rw[Ah (os:=[_]) rfl];simp only[e,List.getElem_toArray,List.getElem_cons_zero,List.getElem_cons_succ];go_wp
 exact⟨rfl,rfl,⟨⟨⟨⟨rfl,rfl,rfl,rfl,H.P,H.rd,H.lo,H.hp,H.lb,H.bp,H.bd,H.sm⟩,rfl,rfl,H.S,H.lc⟩,rfl,rfl,H.S3,H.l3⟩,rfl,rfl,H.S4⟩,rfl,Y⟩
theorem aE{c3 c4 g c2:Nat}{ps:List Pt}(H:Vd h0 L D N cc xs kz b c s ok c3 c4 ⟨0,L.x,L.y,0,0,0,0,false,false⟩ g (N+1) c2 ps T w)(hp:ps.getD 0 pz=⟨L.x,L.y⟩):cE.wp Tryz.prog (fun e t u=>t.defers=[]/\(e=.normal/\False\/e=.ret/\t.tmps.getD 2 undef=.bool true)) ⟨T,[]⟩ w:=by
 obtain⟨J,rfl⟩:∃ J,T=TV J:=⟨_,tv_of H.size⟩;have j3:J 3=AA b:=H.t3;have j4:J 4=.slice D N cc:=H.t4;have j5:J 5=.int .i64 kz:=H.t5;have j6:J 6=AA c:=H.t6;have j7:J 7=.bool ok:=H.t7;have j10:J 10=AA c3:=H.t10;have j11:J 11=.bool true:=H.t11;have j12:J 12=AA c4:=H.t12;have j13:J 13=.bool true:=H.t13;have j14:J 14=.slice (some ⟨g,0,none⟩) (N+1) c2:=H.t14;have hsm:=H.sm;have hw1:IntKind.i64.wrap ((N:Int)+1)=(N:Int)+1:=IntWalk.i64_in _ (by omega);have hn1:((N+1:Nat):Int)=(N:Int)+1:=by omega
 obtain⟨b',off,e,hb,hc⟩:=H.Y.2 (by omega);cases e
 have q:=hc 0 (by omega);rw[hp] at q;have q0:=q.c0;have q1:=q.c1;simp only[Nat.zero_add,Nat.zero_mul] at q0 q1;have p2:=H.P.cell 2 _ rfl;have p3:=H.P.cell 3 _ rfl;have S3:=H.S3;have S4:=H.S4;have heq:=fun W=>Gd L.x L.y L.x L.y W;have hgd:=Da;have heq2:=fun W=>HT 0 L.x L.y 0 0 0 0 false false W;have hgd2:=Er;rw[show cE=.seq (.region 11 _ true) .ret from rfl];clear H;go_upto_region 11 with fail;simp only[TV,j3,j4,j5,j6,j7,j10,j11,j12,j13,j14];refine wp_region_noPanic ?_
 refine wp_region_held_drew (S:=fun w'=>((w'.cell? ⟨g,0,none⟩=some (.int .i64 L.x)/\w'.cell? ⟨g,1,none⟩=some (.int .i64 L.y))/\(w'.cell? ⟨b,2,none⟩=some (.int .i64 L.x)/\w'.cell? ⟨b,3,none⟩=some (.int .i64 L.y)))/\CellsAt w' c3 (AB 0 L.x L.y 0 0 0 0 false false)/\CellsAt w' c4 (AB 0 L.x L.y 0 0 0 0 false false)) (by kernel_rfl) ⟨⟨⟨q0,q1⟩,p2,p3⟩,S3.drew,S4.drew⟩ (fun hHeld=>?_);refine tl 0 ?_ ?_ hHeld ?_;rotate_left
 . intro w hSw
   try dsimp only at hSw
   go_simp
   all_goals with_reducible rfl
 try simp only[Act.put,sx]
 refine tl 1 ?_ ?_ hHeld ?_;rotate_left
 . intro w hSw
   try dsimp only at hSw
   go_simp
   all_goals with_reducible rfl
 try simp only[Act.put,sx]
 refine tl 2 ?_ ?_ hHeld ?_;rotate_left
 . intro w hSw
   try dsimp only at hSw
   go_simp
   all_goals with_reducible rfl
 try simp only[Act.put,sx]
 refine tl 3 ?_ ?_ hHeld ?_;rotate_left
 . intro w hSw
   try dsimp only at hSw
   go_simp
   all_goals with_reducible rfl
 try simp only[Act.put,sx]
 refine tl 4 ?_ ?_ hHeld ?_;rotate_left
 . intro w hSw
   try dsimp only at hSw
   go_simp
   all_goals with_reducible rfl
 try simp only[Act.put,sx]
 refine wpAnyH_take (i:=5) (oi:=_) (v:=.agg (AB 0 L.x L.y 0 0 0 0 false false).toArray) rfl (by kernel_rfl) (by kernel_rfl) (by kernel_rfl) (fun _ _ _ h=>h) (yieldsIf_load_mid (by rfl) 34 (.tmp 10) rfl c3 0 rfl (AB 0 L.x L.y 0 0 0 0 false false) _ (fun W hS=>hS.2.1.range) Tryz.underlying34 rfl Ae) hHeld ?_
 try simp only[Act.put,sx]
 refine wpAnyH_take (i:=6) (oi:=_) (v:=.agg (AB 0 L.x L.y 0 0 0 0 false false).toArray) rfl (by kernel_rfl) (by kernel_rfl) (by kernel_rfl) (fun _ _ _ h=>h) (yieldsIf_load_mid (by rfl) 34 (.tmp 12) rfl c4 0 rfl (AB 0 L.x L.y 0 0 0 0 false false) _ (fun W hS=>hS.2.2.range) Tryz.underlying34 rfl Ae) hHeld ?_
 try simp only[Act.put,sx]
 refine tl 7 ?_ ?_ hHeld ?_;rotate_left
 . intro w hSw
   try dsimp only at hSw
   go_simp
   all_goals with_reducible rfl
 try simp only[Act.put,sx]
 refine tl 8 ?_ ?_ hHeld ?_;rotate_left
 . intro w hSw
   try dsimp only at hSw
   go_simp
   all_goals with_reducible rfl
 try simp only[Act.put,sx]
 refine tl 9 ?_ ?_ hHeld ?_;rotate_left
 . intro w hSw
   try dsimp only at hSw
   go_simp
   all_goals with_reducible rfl
 try simp only[Act.put,sx]
 refine tl 10 ?_ ?_ hHeld ?_;rotate_left
 . intro w hSw
   try dsimp only at hSw
   go_simp
   all_goals with_reducible rfl
 try simp only[Act.put,sx]
 refine tl 11 ?_ ?_ hHeld ?_;rotate_left
 . intro w hSw
   try dsimp only at hSw
   go_simp
   all_goals with_reducible rfl
 try simp only[Act.put,sx]
 refine tl 12 ?_ ?_ hHeld ?_;rotate_left
 . intro w hSw
   try dsimp only at hSw
   go_simp
   all_goals with_reducible rfl
 try simp only[Act.put,sx]
 refine tl 13 ?_ ?_ hHeld ?_;rotate_left
 . intro w hSw
   try dsimp only at hSw
   go_simp
   all_goals with_reducible rfl
 try simp only[Act.put,sx]
 refine tl 14 ?_ ?_ hHeld ?_;rotate_left
 . intro w hSw
   try dsimp only at hSw
   go_simp
   all_goals with_reducible rfl
 try simp only[Act.put,sx]
 refine tl 15 ?_ ?_ hHeld ?_;rotate_left
 . intro w hSw
   try dsimp only at hSw
   go_simp
   all_goals with_reducible rfl
 try simp only[Act.put,sx]
 refine tl 16 ?_ ?_ hHeld ?_;rotate_left
 . intro w hSw
   try dsimp only at hSw
   go_simp
   all_goals with_reducible rfl
 try simp only[Act.put,sx]
 refine tl 17 ?_ ?_ hHeld ?_;rotate_left
 . intro w hSw
   try dsimp only at hSw
   go_simp
   all_goals with_reducible rfl
 try simp only[Act.put,sx]
 refine tl 18 ?_ ?_ hHeld ?_;rotate_left
 . intro w hSw
   try dsimp only at hSw
   go_simp
   all_goals with_reducible rfl
 try simp only[Act.put,sx]
 refine tl 19 ?_ ?_ hHeld ?_;rotate_left
 . intro w hSw
   try dsimp only at hSw
   go_simp
   all_goals with_reducible rfl
 try simp only[Act.put,sx]
 refine tl 20 ?_ ?_ hHeld ?_;rotate_left
 . intro w hSw;obtain⟨⟨⟨q0,q1⟩,p2,p3⟩,_⟩:=hSw;go_simp
   all_goals with_reducible rfl
 try simp only[Act.put,sx]
 refine tl 21 ?_ ?_ hHeld ?_;rotate_left
 . intro w hSw
   try dsimp only at hSw
   go_simp
   all_goals with_reducible rfl
 try simp only[Act.put,sx]
 refine tl 22 ?_ ?_ hHeld ?_;rotate_left
 . intro w hSw;obtain⟨⟨⟨q0,q1⟩,p2,p3⟩,_⟩:=hSw;go_simp
   all_goals with_reducible rfl
 try simp only[Act.put,sx]
 refine tl 23 ?_ ?_ hHeld ?_;rotate_left
 . intro w hSw
   try dsimp only at hSw
   go_simp
   all_goals with_reducible rfl
 try simp only[Act.put,sx]
 refine tl 24 ?_ ?_ hHeld ?_;rotate_left
 . intro w hSw
   try dsimp only at hSw
   go_simp
   all_goals with_reducible rfl
 try simp only[Act.put,sx]
 refine tl 25 ?_ ?_ hHeld ?_;rotate_left
 . intro w hSw
   try dsimp only at hSw
   go_simp
   all_goals with_reducible rfl
 try simp only[Act.put,sx]
 refine wpAnyH_done (by kernel_rfl) ?_ _;refine NoPanic.normal ?_;go_wp;exact⟨rfl,.inr ⟨rfl,rfl⟩⟩
end
theorem way(a:Option Addr)(len cap:Nat)(zs:List Int)(W:World)(hr:IsRow .u8 W a len cap zs)(ca:Cel W a)(hq:Quarter W)(hG:XR.G<=W.heap.size):Ren.Way PP (Lx W) (Bb (Frame.enter PP fV #[.slice a len cap] .normal) []) W:=by
 refine Ren.Way.of_co (W:=W) (RO:=Lt W.heap.size) (O:=fun _=>False) ?_ (Ren.Alike.refl W) (fun j hj=>hj);have ha:ArrR XR.L (vr W W.heap.size) (#[.slice a len cap]++Array.replicate 96 undef) (#[.slice a len cap]++Array.replicate 96 undef) :=
  (ArrR.one (Br ca)).append (.replicate _ (.tuple rfl fun i x y h=>by simp at h))
 have h:Sit XR gR W.heap.size (vr W W.heap.size) (fun _=>False) (fun j=>W.heap[j]?) (fun T u=>T=#[.slice a len cap]++Array.replicate 96 undef/\(IsRow .u8 u a len cap zs/\Quarter u)/\Hp (vh W W.heap.size) u) (#[.slice a len cap]++Array.replicate 96 undef) (fun _=>False) W :=
  Sit.start (Nat.le_refl _) hG (CS hq fun _ _=>rfl) (fun j h=>h.elim) ha ha (fun _ _=>rfl) (fun u hu=>⟨rfl,⟨hr.veil ca (Hp.refl hu),hq.veil (Hp.refl hu)⟩,Hp.refl hu⟩)
 rw[Ds fV_at (c:=kB) rfl,kB_eq];refine h.ctl rfl (fun w1=>AF) ?_;refine h.wp AJ AK Av (fun T u u' x e=>⟨x.1,⟨x.2.1.1.same e,x.2.1.2.same e⟩,x.2.2.same e⟩) nn (Am fV_at) k0 (Q1:=Za (vh W W.heap.size) 97 a len cap zs) (fun T u x=>?_) fun T1 O1 y1 h1=>?_
 . rw[x.1,tv_args];exact a0 (J:=fun z=>match z with | 0=>.slice a len cap | _=>undef) rfl x.2.1.1 x.2.1.2 x.2.2
 refine h1.ctl rfl (fun w1=>AF) ?_;refine h1.wp2 AJ AK Av Za.hpo nn (Am fV_at) kX (Q1:=Za (vh W W.heap.size) 97 a len cap zs) (Q2:=fun T u=>T.getD 2 undef=.bool true) (fun T u x=>aX x) (fun T2 O2 y2 h2=>?_) (fun k T2 O2 y2 h2=>h2.done (fun _ _=>rfl) fV_at (by kernel_rfl) (by rfl) fun T u x=>x);refine h2.ctl rfl (fun w1=>AF) ?_;refine h2.wp AJ AK Av Za.hpo nn (Am fV_at) k3 (Q1:=fun T u=>∃ L D N cc xs kz b,Vh (vh W W.heap.size) 97 0 L D N cc xs kz b T u) (fun T u x=>a3 x) fun T3 O3 y3 h3=>?_;obtain⟨L,h3⟩:=h3.split;obtain⟨D,h3⟩:=h3.split;obtain⟨N,h3⟩:=h3.split;obtain⟨cc,h3⟩:=h3.split;obtain⟨xs,h3⟩:=h3.split
 obtain⟨kz,h3⟩:=h3.split;obtain⟨b,h3⟩:=h3.split;refine h3.ctl rfl (fun w1=>AF) ?_;refine h3.ctl rfl (fun w1=>by rw[show c4=.region 4 (cO c4) false from rfl]; exact Ba) ?_;refine h3.ops (l1:=[0,1,2]) (l2:=[3,4,5,6,7,8,9]) AJ AK Av Vh.hpo nn (Am fV_at) o4 (Q1:=fun T u=>Vh (vh W W.heap.size) 97 0 L D N cc xs kz b T u/\T.getD 25 undef=L.val/\T.getD 26 undef=.slice D N cc/\T.getD 27 undef=.int .i64 kz) (fun T u x=>a4 x) fun T4 O4 y4 h4=>?_;have hz:=h4.slot (i:=27) (.int .i64 kz) fun T u x=>x.2.2.2
 refine h4.runTo hG (i:=3) (l:=[4,5,6,7,8,9]) (d:=28) (z:=.tmp 27) (k0:=kz) (L:=L) (A:=D) (n:=N) (cap:=cc) (xs:=xs) rfl rfl rfl rfl (by exact hz) (fun T u x=>⟨⟨x.2.1,x.2.2.1⟩,x.1.rd⟩) fun B2 y5 hB h5=>?_
 refine Sit.ops (l1:=[4,5,6,7,8,9]) (l2:=[]) (h5.mono (Q1:=fun T u=>Vh (vh W W.heap.size) 97 0 L D N cc xs kz b T u/\T.getD 28 undef=.tuple #[sva (L.fin xs N kz),.bool (B8 L xs N kz)]) fun T u ⟨T0,x,e⟩=>?_) AJ AK Av (fun T u u' x e=>⟨Vh.hpo T u u' x.1 e,x.2⟩) nn (Am fV_at) o4b (Q1:=fun T u=>∃ c,Vo (vh W W.heap.size) 97 0 L D N cc xs kz b c (L.fin xs N kz) (B8 L xs N kz) T u) (fun T u x=>a5 x.1 x.2) fun T6 O6 y6 h6=>?_
 . subst e;exact⟨⟨size_put.trans x.1.size,(Aj (by omega)).trans x.1.t3,(Aj (by omega)).trans x.1.t4,(Aj (by omega)).trans x.1.t5,x.1.P,x.1.rd,x.1.lo,x.1.hp,x.1.lb,x.1.bp,x.1.bd,x.1.sm⟩,A8 (by rw[x.1.size]; omega)⟩
 obtain⟨c,h6⟩:=h6.split;refine h6.ctl rfl (fun w1=>BG) ?_;rw[kR_eq];refine h6.ctl rfl (fun w1=>AF) ?_;refine h6.wp AJ AK Av Vo.hpo nn (Am fV_at) k5 (Q1:=fun T u=>∃ c2,Vp (vh W W.heap.size) 97 0 L D N cc xs kz b c c2 (L.fin xs N kz) (B8 L xs N kz) T u) (fun T u x=>a5w x) fun T7 O7 y7 h7=>?_;obtain⟨c2,h7⟩:=h7.split;refine h7.ctl rfl (fun w1=>AF) ?_
 refine h7.wp2 AJ AK Av Vp.hpo nn (Am fV_at) k6 (Q1:=fun T u=>Vo (vh W W.heap.size) 97 0 L D N cc xs kz b c (L.fin xs N kz) (B8 L xs N kz) T u/\B8 L xs N kz=true) (Q2:=fun T u=>T.getD 2 undef=.bool true) (fun T u x=>a6 x) (fun T8 O8 y8 h8=>?_) (fun k T8 O8 y8 h8=>h8.done (fun j hj=>hB j hj) fV_at (by kernel_rfl) (by rfl) fun T u x=>x);refine h8.ctl rfl (fun w1=>AF) ?_;have hx:=h8.fact fun T u x=>(⟨x.1.rd.ins.1,x.2,x.1.sm⟩:xs.length=N/\B8 L xs N kz=true/\N<=63);have hf:=LC hx.2.1;have h0:=F6 hf (Nat.zero_le N);obtain⟨_,hlv,_⟩:=BZ.1 hf
 have e0:L.s0=⟨0,L.x,L.y,0,0,0,0,false,false⟩:=(Lv.start_ok hlv).1;have ea:L.ans xs N ((0:Nat):Int)=.tuple #[sva ⟨0,L.x,L.y,0,0,0,0,false,false⟩,.bool true]:=by rw[Lv.ans_eq,fin_at h0,h0,Lv.at_zero,e0]
 refine h8.ctl rfl (fun w1=>by rw[show c8=.region 8 (cO c8) false from rfl]; exact Ba) ?_;refine h8.ops (l1:=[0,1]) (l2:=[2,3,4,5,6,7,8]) AJ AK Av (fun T u u' x e=>⟨Vo.hpo T u u' x.1 e,x.2⟩) nn (Am fV_at) o8 (Q1:=fun T u=>Vo (vh W W.heap.size) 97 0 L D N cc xs kz b c (L.fin xs N kz) (B8 L xs N kz) T u/\T.getD 59 undef=L.val/\T.getD 60 undef=.slice D N cc) (fun T u x=>a8 x.1) fun T9 O9 y9 h9=>?_;refine h9.runTo hG (i:=2) (l:=[3,4,5,6,7,8]) (d:=61) (z:=.const (.int .i64 0)) (k0:=0) (L:=L) (A:=D) (n:=N) (cap:=cc) (xs:=xs) rfl rfl rfl rfl rfl (fun T u x=>⟨x.2,x.1.rd⟩) fun B3 y10 hB3 h10=>?_
 refine Sit.ops (l1:=[3,4,5,6,7,8]) (l2:=[]) (h10.mono (Q1:=fun T u=>Vo (vh W W.heap.size) 97 0 L D N cc xs kz b c (L.fin xs N kz) (B8 L xs N kz) T u/\T.getD 61 undef=.tuple #[sva ⟨0,L.x,L.y,0,0,0,0,false,false⟩,.bool true]) fun T u ⟨T0,x,e⟩=>?_) AJ AK Av (fun T u u' x e=>⟨Vo.hpo T u u' x.1 e,x.2⟩) nn (Am fV_at) o8b (Q1:=fun T u=>∃ c3,Vb (vh W W.heap.size) L D N cc xs kz b c (L.fin xs N kz) (B8 L xs N kz) c3 ⟨0,L.x,L.y,0,0,0,0,false,false⟩ T u) (fun T u x=>a8b x.1 x.2) fun T11 O11 y11 h11=>?_
 . subst e;exact⟨x.1.put (by omega) _,(A8 (by rw[x.1.size]; omega)).trans ea⟩
 obtain⟨c3,h11⟩:=h11.split;refine h11.ctl rfl (fun w1=>BG) ?_;refine h11.ctl rfl (fun w1=>AF) ?_;refine h11.wp AJ AK Av Vb.hpo nn (Am fV_at) k9 (Q1:=fun T u=>∃ c4,Vc (vh W W.heap.size) L D N cc xs kz b c (L.fin xs N kz) (B8 L xs N kz) c3 c4 ⟨0,L.x,L.y,0,0,0,0,false,false⟩ T u) (fun T u x=>a9 x hlv) fun T12 O12 y12 h12=>?_;obtain⟨c4,h12⟩:=h12.split;refine h12.ctl rfl (fun w1=>AF) ?_;refine h12.ctl rfl (fun w1=>by rw[show NU=.region 10 (cO NU) false from rfl]; exact Ba) ?_
 refine h12.ops (l1:=[0,1]) (l2:=[2,3]) AJ AK Av Vc.hpo nn (Am fV_at) Va (Q1:=fun T u=>Vc (vh W W.heap.size) L D N cc xs kz b c (L.fin xs N kz) (B8 L xs N kz) c3 c4 ⟨0,L.x,L.y,0,0,0,0,false,false⟩ T u/\T.getD 69 undef=L.val/\T.getD 70 undef=.slice D N cc) (fun T u x=>Ve x) fun T13 O13 y13 h13=>?_;refine h13.runPath hG (i:=2) (l:=[3]) (d:=71) (L:=L) (A:=D) (n:=N) (cap:=cc) (xs:=xs) rfl rfl rfl rfl (fun T u x=>⟨x.2,x.1.rd⟩) (by omega) fun c2 B4 y14 j O14 hcap hB4 h14=>?_;have hlen:=path.sts_len hx.1 hf
 have h15:=h14.mono (Q1:=fun T u=>∃ g,(Vc (vh W W.heap.size) L D N cc xs kz b c (L.fin xs N kz) (B8 L xs N kz) c3 c4 ⟨0,L.x,L.y,0,0,0,0,false,false⟩ T u/\T.getD 71 undef=.slice (some ⟨g,0,none⟩) (N+1) c2)/\Points u (some ⟨g,0,none⟩) (N+1) ((path.sts L xs N).map DI)) fun T u ⟨T0,u0,x,e1,e2⟩=>by
  subst e1 e2;have:=x.1.path (d:=71) (by omega) (by omega) (path.sts L xs N) c2 24
  rwa [hlen] at this ⊢
 obtain⟨g,h15⟩:=h15.split;refine Sit.ops (l1:=[3]) (l2:=[]) h15 AJ AK Av (fun T u u' x e=>⟨⟨Vc.hpo T u u' x.1.1 e,x.1.2⟩,x.2.same e⟩) nn (Am fV_at) UU (Q1:=Vd (vh W W.heap.size) L D N cc xs kz b c (L.fin xs N kz) (B8 L xs N kz) c3 c4 ⟨0,L.x,L.y,0,0,0,0,false,false⟩ g (N+1) c2 ((path.sts L xs N).map DI)) (fun T u x=>UV x.1.1 x.1.2 x.2) fun T16 O16 y16 h16=>?_;refine h16.ctl rfl (fun w1=>BG) ?_
 exact h16.wp2 AJ AK Av Vd.hpo nn (Am fV_at) kE (Q1:=fun _ _=>False) (Q2:=fun T u=>T.getD 2 undef=.bool true) (fun T u x=>aE x (by rw[path.sts_at hx.1 hf (Nat.zero_le N),Lv.at_zero,e0])) (fun T7 O7 y7 h7=>h7.fact fun _ _ x=>x.elim) (fun k T7 O7 y7 h7=>h7.done (fun j hj=>((hB4 j hj).trans (hB3 j hj)).trans (hB j hj)) fV_at (by kernel_rfl) (by rfl) fun T u x=>x)
end Go.Proofs.YtaemcekcancpdaaGreatDoor.fnRunBeginW
