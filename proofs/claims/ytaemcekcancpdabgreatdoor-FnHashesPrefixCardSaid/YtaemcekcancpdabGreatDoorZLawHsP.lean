import Derived.Test.YtaemcekcancpdabGreatDoorZRunScM
set_option linter.all false
set_option maxRecDepth 100000
set_option maxHeartbeats 8000000
open Go.Lib
namespace Go.Proofs.YtaemcekcancpdabGreatDoor.fnHashesPrefixW
open Go.RowKit
open M
open Ren
open Go.Conc
noncomputable abbrev kB:Code:=EI Tryz.f5
noncomputable def c0:Code:=cA kB
noncomputable def cX:Code:=cA (cB kB)
noncomputable def c3:Code:=cA (cB (cB kB))
noncomputable def c4:Code:=cA (cB (cB (cB kB)))
noncomputable def c5:Code:=cA (cB (cB (cB (cB kB))))
noncomputable def c6:Code:=cA (cB (cB (cB (cB (cB kB)))))
noncomputable def cQ:Code:=cB (cB (cB (cB (cB (cB kB)))))
theorem kB_eq:kB=.seq c0 (.seq cX (.seq c3 (.seq c4 (.seq c5 (.seq c6 cQ))))):=rfl
abbrev fV:FuncId:=5
theorem fV_at:PP.funcs[fV]?=some Tryz.f5:=Tryz.func5
theorem k0:XR.C c0:=by show AH PP CH CO c0=true; kernel_rfl
theorem kX:XR.C cX:=by show AH PP CH CO cX=true; kernel_rfl
theorem k3:XR.C c3:=by show AH PP CH CO c3=true; kernel_rfl
theorem k5:XR.C c5:=by show AH PP CH CO c5=true; kernel_rfl
theorem k6:XR.C c6:=by show AH PP CH CO c6=true; kernel_rfl
theorem o4:∀ i∈[0,1],∀ o,(cO c4)[i]?=some o->OpOk XR gR o.op:=B8 (by kernel_rfl)
theorem o4b:∀ i∈[3],∀ o,(cO c4)[i]?=some o->OpOk XR gR o.op:=B8 (by kernel_rfl)
abbrev TV(J:Nat->Value):Array Value:=#[J 0,J 1,J 2,J 3,J 4,J 5,J 6,J 7,J 8,J 9,J 10,J 11,J 12,J 13,J 14,J 15,J 16,J 17,J 18,J 19,J 20,J 21,J 22,J 23,J 24,J 25,J 26,J 27,J 28,J 29,J 30,J 31,J 32,J 33,J 34,J 35,J 36,J 37,J 38,J 39,J 40,J 41,J 42,J 43,J 44,J 45,J 46,J 47,J 48,J 49,J 50,J 51,J 52,J 53,J 54,J 55,J 56,J 57,J 58,J 59,J 60,J 61,J 62,J 63,J 64,J 65,J 66]
theorem tv_of{T:Array Value}(h:T.size=67):T=TV fun n=>T.getD n undef:=by
 refine Array.ext h fun i h1 h2=>?_;have e:∀ n (hn:n<T.size),T.getD n undef=T[n]:=fun n hn=>by simp[Array.getD,hn]
 simp only[TV];have:i<67:=h▸h1
 iterate 67 (rcases i with _ | i; · exact(e _ _).symm)
 omega
theorem tv_args(a a':Value):#[a,a']++Array.replicate 65 undef=#[a,a',undef,undef,undef,undef,undef,undef,undef,undef,undef,undef,undef,undef,undef,undef,undef,undef,undef,undef,undef,undef,undef,undef,undef,undef,undef,undef,undef,undef,undef,undef,undef,undef,undef,undef,undef,undef,undef,undef,undef,undef,undef,undef,undef,undef,undef,undef,undef,undef,undef,undef,undef,undef,undef,undef,undef,undef,undef,undef,undef,undef,undef,undef,undef,undef,undef]:=by kernel_rfl
noncomputable def c8:Code:=cA cQ
noncomputable def c9:Code:=cA (cB cQ)
noncomputable def cE:Code:=cB (cB cQ)
theorem kQ_eq:cQ=.seq c8 (.seq c9 cE):=rfl
theorem k8:XR.C c8:=by show AH PP CH CO c8=true; kernel_rfl
theorem kE:XR.C cE:=by show AH PP CH CO cE=true; kernel_rfl
theorem VC:∀ i∈[0,1,2,3],∀ o,(cO c9)[i]?=some o->OpOk XR gR o.op:=B8 (by kernel_rfl)
theorem o9{l:List Nat}(hl:l∈[[0,1,2,3],[0,2,1,3],[1,0,2,3],[1,2,0,3],[1,2,3,0],[2,0,1,3],[2,1,0,3],[2,1,3,0]]):∀ i∈l,∀ o,(cO c9)[i]?=some o->OpOk XR gR o.op:=fun i hi=>VC i (by
 simp only[List.mem_cons,List.not_mem_nil,or_false] at hl;rcases hl with rfl | rfl | rfl | rfl | rfl | rfl | rfl | rfl<;>simp only[List.mem_cons,List.not_mem_nil,or_false] at hi ⊢<;>omega)
theorem VD:∀ i∈[5],∀ o,(cO c9)[i]?=some o->OpOk XR gR o.op:=B8 (by kernel_rfl)
theorem RJ:Dp .any (cO c9) (cO c9).size (Array.replicate (cO c9).size false)=[[0,1,2,3,4,5],[0,2,1,3,4,5],[1,0,2,3,4,5],[1,2,0,3,4,5],[1,2,3,0,4,5],[2,0,1,3,4,5],[2,1,0,3,4,5],[2,1,3,0,4,5]]:=by kernel_rfl
structure Hn(h0:Array Obj)(X:Value)(L:Lv)(D:Option Addr)(N cc:Nat)(xs:List In)(b:Nat)(g m c:Nat)(hs:List Int)(n:Nat)(T:Array Value)(u:World):Prop extends Ho h0 67 2 X L D N cc xs b g m c hs T u where
 t9:T.getD 9 undef=.int .i64 (n:Int)
theorem Hn.hpo{h0:Array Obj}{X:Value}{L:Lv}{D:Option Addr}{N cc:Nat}{xs:List In}{b:Nat}{g m c n:Nat}{hs:List Int}:Hpo (Hn h0 X L D N cc xs b g m c hs n):=fun _ _ _ h e=>⟨Ho.hpo _ _ _ h.toHo e,h.t9⟩
theorem Hn.put{h0:Array Obj}{X:Value}{L:Lv}{D:Option Addr}{N cc:Nat}{xs:List In}{b:Nat}{g m c n d:Nat}{hs:List Int}{T:Array Value}{u:World}(x:Hn h0 X L D N cc xs b g m c hs n T u)(hd:9<d)(v:Value):Hn h0 X L D N cc xs b g m c hs n (Bo T (some d) v) u:=⟨x.toHo.put (by omega) v,(Ay (by omega)).trans x.t9⟩
theorem Hn.at{h0:Array Obj}{X:Value}{L:Lv}{D:Option Addr}{N cc:Nat}{xs:List In}{b:Nat}{g m c n:Nat}{hs:List Int}{T:Array Value}{u u':World}(x:Hn h0 X L D N cc xs b g m c hs n T u)(B:Below u.heap.size u u'):Hn h0 X L D N cc xs b g m c hs n T u':=⟨x.toHo.at B,x.t9⟩
structure Hm(h0:Array Obj)(X:Value)(L:Lv)(D:Option Addr)(N cc:Nat)(xs:List In)(b:Nat)(g m c:Nat)(hs:List Int)(n g2 m2 c3:Nat)(hs2:List Int)(T:Array Value)(u:World):Prop extends Hn h0 X L D N cc xs b g m c hs n T u where
 t10:T.getD 10 undef=.slice (some ⟨g2,0,none⟩) m2 c3
 Y2:Ints u (some ⟨g2,0,none⟩) m2 hs2
theorem Hm.hpo{h0:Array Obj}{X:Value}{L:Lv}{D:Option Addr}{N cc:Nat}{xs:List In}{b:Nat}{g m c n g2 m2 c3:Nat}{hs hs2:List Int}:Hpo (Hm h0 X L D N cc xs b g m c hs n g2 m2 c3 hs2):=fun _ _ _ h e=>⟨Hn.hpo _ _ _ h.toHn e,h.t10,h.Y2.same e⟩
theorem RL{L:Lv}{xs:List In}{N n:Nat}(hl:xs.length=N)(h:CW L xs N (N:Int)=true)(hn:n<=N):Bm 0 (hashes.sts L (xs.take n) n)=(Bm 0 (hashes.sts L xs N)).take (n / 5)/\(Bm 0 (hashes.sts L (xs.take n) n)).length=n / 5/\n / 5<=(Bm 0 (hashes.sts L xs N)).length:=by
 have hl2:(xs.take n).length=n:=by rw[List.length_take]; omega
 obtain⟨_,h2,h3⟩:=CB.1 h;have hk:CW L (xs.take n) n (n:Int)=true:=CB.2 ⟨⟨by omega,by omega⟩,h2,JR L.t L.b xs n 0 0 0 (by omega) h3⟩;rw[LK hl h,LK hl2 hk];refine⟨?_,by simp,by simp; omega⟩;apply List.ext_getElem?;intro i;rw[List.getElem?_take];by_cases hi:i<n / 5
 . rw[if_pos hi,List.getElem?_map,List.getElem?_map,List.getElem?_range hi,List.getElem?_range (by omega)]
   show some (Ta (L.run ((xs.take n).take (5*(i+1)))))=some (Ta (L.run (xs.take (5*(i+1)))))
   rw[List.take_take,Nat.min_eq_left (by omega)]
 . rw[if_neg hi,List.getElem?_eq_none (by simp; omega)]
section
variable {X:Value} {a':Option Addr} {len' cap':Nat} {h0:Array Obj} {a:Option Addr} {len cap:Nat} {zs:List Int} {T:Array Value} {w:World} {L:Lv} {D:Option Addr} {N cc:Nat} {xs:List In} {b g m c:Nat} {hs:List Int} {s:St} {ok:Bool}
theorem a0{J:Nat->Value}(j0:J 0=.slice a len cap)(j1:J 1=X)(hr:IsRow .u8 w a len cap zs)(hq:Quarter w)(hp:Hp h0 w):c0.wp Tryz.prog (fun e t u=>e=.normal/\t.defers=[]/\Hz h0 67 X a len cap zs t.tmps u) ⟨TV J,[]⟩ w:=by
 rw[show c0=.region 0 _ false from rfl];go_wp;exact⟨rfl,rfl,rfl,rfl,rfl,hr,hq,hp⟩
theorem aX(H:Hz h0 67 (.slice a' len' cap') a len cap zs T w):cX.wp Tryz.prog (fun e t u=>t.defers=[]/\(e=.normal/\Hz h0 67 (.slice a' len' cap') a len cap zs t.tmps u\/e=.ret/\t.tmps.getD 4 undef=.bool true)) ⟨T,[]⟩ w:=by
 obtain⟨J,rfl⟩:∃ J,T=TV J:=⟨_,tv_of H.size⟩;have j0:J 0=.slice a len cap:=H.t0;have j1:J 1=(.slice a' len' cap'):=H.x1;rw[show cX=.seq (.region 1 _ false) (.cond (.tmp 18) (.seq (.region 2 _ false) .ret) .skip) from rfl];by_cases g9:1048576<len
 . have g1:(1048576:Int)<(len:Int):=by omega
   have g1d:decide ((1048576:Int)<(len:Int))=true:=decide_eq_true g1;have g2d:decide (1048576<len)=true:=decide_eq_true (by omega);go_wp;exact⟨rfl,.inr ⟨rfl,rfl⟩⟩
 have g1:¬ (1048576:Int)<(len:Int):=by omega
 have g1d:decide ((1048576:Int)<(len:Int))=false:=decide_eq_false g1;have g2d:decide (1048576<len)=false:=decide_eq_false (by omega);by_cases g9:1048576<len'
 . have g1':(1048576:Int)<(len':Int):=by omega
   have g3d:decide ((1048576:Int)<(len':Int))=true:=decide_eq_true g1';have g4d:decide (1048576<len')=true:=decide_eq_true (by omega);go_wp;exact⟨rfl,.inr ⟨rfl,rfl⟩⟩
 have g1':¬ (1048576:Int)<(len':Int):=by omega
 have g3d:decide ((1048576:Int)<(len':Int))=false:=decide_eq_false g1';have g4d:decide (1048576<len')=false:=decide_eq_false (by omega);go_wp;exact⟨rfl,.inl ⟨rfl,rfl,rfl,rfl,H.row,H.q,H.hp⟩⟩
theorem a3(H:Hz h0 67 X a len cap zs T w):c3.wp Tryz.prog (fun e t u=>e=.normal/\t.defers=[]/\∃ L D N cc xs b,Hh h0 67 2 X L D N cc xs b t.tmps u) ⟨T,[]⟩ w:=by
 obtain⟨J,rfl⟩:∃ J,T=TV J:=⟨_,tv_of H.size⟩;have j0:J 0=.slice a len cap:=H.t0;have j1:J 1=X:=H.x1;rw[show c3=.region 3 _ false from rfl];go_wp;refine(GO a len cap zs w H.row).mono ?_;rintro e w1 ⟨i,t,x,y,A,n,c,G,m,kk,fp,fq,fs,fz,b,ws,gs,D,N,cc,xs,rfl,⟨zA,zG,zD⟩,hn,hm,hN,I,G1,Y,_,B⟩;dsimp only
 iterate 13 go_step
 refine Ah rfl 29 (.tmp 5) (.tmp 22) rfl w1.heap.size rfl (AU i t x y A n c G m kk fp fq fs fz b) rfl _ (CellsAt.new w1 _ [_,_,_,_,_,_,_,_,_,_,_] 29 rfl) (Nat.le_refl _) Ag rfl ?_;intro w2 K P;go_wp;have rd:Ready ⟨i,t,x,y,A,n,c,G,m,kk,fp,fq,fs,fz,b,ws,gs⟩ D N cc xs w1:=⟨⟨I,G1,by show n<=_; omega,by show m<=_; omega,I.cel zA,G1.cel zG⟩,Y,zD,by omega,hN.2,H.q.step B⟩;have B2:=Aa (Ac w1) (.cells #[.int .i64 0,.int .i64 0,.int .i64 0,.int .i64 0,.slice none 0 0,.slice none 0 0,.int .i64 0,.int .i64 0,.int .i64 0,.int .i64 0,.int .i64 0] 29);have h1:=H.hp.size;have h2:=B.size;have h3:=H.q.lt
 exact⟨rfl,rfl,⟨i,t,x,y,A,n,c,G,m,kk,fp,fq,fs,fz,b,ws,gs⟩,D,N,cc,xs,w1.heap.size,rfl,rfl,rfl,rfl,P,(rd.step B2).keep rd.low K (Nat.le_refl _) (by omega),rd.low,((H.hp.step B).step B2).kept K (by omega),by omega,by omega,hN.1⟩
theorem a4(H:Hh h0 67 2 X L D N cc xs b T w):wpOps Tryz.prog (cO c4) (fun e t u=>e=.normal/\t.defers=[]/\(Hh h0 67 2 X L D N cc xs b t.tmps u/\t.tmps.getD 24 undef=L.val/\t.tmps.getD 25 undef=.slice D N cc)) [0,1] ⟨T,[]⟩ w:=by
 obtain⟨J,rfl⟩:∃ J,T=TV J:=⟨_,tv_of H.size⟩;have j1:J 1=X:=H.x1;have j3:J 5=AJ b:=H.t3;have j4:J 6=.slice D N cc:=H.t4;have e:cO c4=#[_,_,_,_]:=rfl;rw[Ar (os:=[_,_]) rfl];simp only[e,List.getElem_toArray,List.getElem_cons_zero,List.getElem_cons_succ];refine Af rfl 29 (.tmp 5) rfl b j3 L.cs H.P Tryz.underlying29 rfl Ag ?_;go_wp;exact⟨rfl,rfl,⟨rfl,rfl,rfl,rfl,H.P,H.rd,H.lo,H.hp,H.lb,H.bp,H.sm⟩,rfl,rfl⟩
theorem a4b(H:Hh h0 67 2 X L D N cc xs b T w)(h:T.getD 26 undef=.slice (some ⟨g,0,none⟩) m c)(Y:Ints w (some ⟨g,0,none⟩) m hs)(hc:m<=c):wpOps Tryz.prog (cO c4) (fun e t u=>e=.normal/\t.defers=[]/\(Ho h0 67 2 X L D N cc xs b g m c hs t.tmps u)) [3] ⟨T,[]⟩ w:=by
 obtain⟨J,rfl⟩:∃ J,T=TV J:=⟨_,tv_of H.size⟩;have j1:J 1=X:=H.x1;have j3:J 5=AJ b:=H.t3;have j4:J 6=.slice D N cc:=H.t4;have jh:J 26=.slice (some ⟨g,0,none⟩) m c:=h;have e:cO c4=#[_,_,_,_]:=rfl;rw[Ar (os:=[_]) rfl];simp only[e,List.getElem_toArray,List.getElem_cons_zero,List.getElem_cons_succ];go_wp;exact⟨rfl,rfl,⟨rfl,rfl,rfl,rfl,H.P,H.rd,H.lo,H.hp,H.lb,H.bp,H.sm⟩,rfl,Y,hc⟩
theorem a5(H:Ho h0 67 2 X L D N cc xs b g (Bm 0 (hashes.sts L xs N)).length c (Bm 0 (hashes.sts L xs N)) T w):c5.wp Tryz.prog (fun e t u=>e=.normal/\t.defers=[]/\∃ E c2,Hp2 h0 67 2 X L D N cc xs b g (Bm 0 (hashes.sts L xs N)).length c (Bm 0 (hashes.sts L xs N)) E c2 t.tmps u) ⟨T,[]⟩ w:=by
 obtain⟨J,rfl⟩:∃ J,T=TV J:=⟨_,tv_of H.size⟩;have j1:J 1=X:=H.x1;have j3:J 5=AJ b:=H.t3;have j4:J 6=.slice D N cc:=H.t4;have j5:J 7=.slice (some ⟨g,0,none⟩) (Bm 0 (hashes.sts L xs N)).length c:=H.t5;rw[show c5=.region 5 _ false from rfl];have C:=hid (QK L D N cc xs w H.rd.lv.I H.rd.lv.J H.rd.lv.n H.rd.lv.m H.rd.ins (by have:=H.sm; omega));generalize (Bm 0 (hashes.sts L xs N))=hl at *;refine wp_region_lit ?_;refine Af rfl 29 (.tmp 5) rfl b j3 L.cs H.P Tryz.underlying29 rfl Ag ?_;go_wp;refine C.out.mono ?_;rintro e w1 ⟨⟨E,c2,rfl,Z⟩,B⟩;dsimp only;go_wp
 exact⟨rfl,rfl,E,c2,⟨⟨rfl,rfl,rfl,rfl,H.P.step B,H.rd.step B,H.lo,H.hp.step B,H.lb,H.bp,H.sm⟩,rfl,H.Y.step B,H.room⟩,rfl,Z⟩
theorem a6{E:Option Addr}{c2:Nat}(H:Hp2 h0 67 2 X L D N cc xs b g m c hs E c2 T w)(hm:m<=1000):c6.wp Tryz.prog (fun e t u=>t.defers=[]/\(e=.normal/\(Ho h0 67 2 X L D N cc xs b g m c hs t.tmps u/\(DC L.i L.t L.x L.y L.ws L.gs L.fp L.fq L.fs L.fz L.b xs)<0)\/e=.ret/\t.tmps.getD 4 undef=.bool true)) ⟨T,[]⟩ w:=by
 obtain⟨J,rfl⟩:∃ J,T=TV J:=⟨_,tv_of H.size⟩;have j1:J 1=X:=H.x1;have j3:J 5=AJ b:=H.t3;have j4:J 6=.slice D N cc:=H.t4;have j5:J 7=.slice (some ⟨g,0,none⟩) m c:=H.t5;have j6:J 8=.slice E m c2:=H.t6;have C:=hid fun(W:World) (a:Boxes W L.A L.n L.ws) (b:Boxes W L.G L.m L.gs) (c:Inputs W D N xs)=>HI L.i L.t L.x L.y L.A L.n L.c L.G L.m L.kk L.fp L.fq L.fs L.fz L.b L.ws L.gs D N cc xs W a b H.rd.lv.n H.rd.lv.m c H.rd.small;generalize (DC L.i L.t L.x L.y L.ws L.gs L.fp L.fq L.fs L.fz L.b xs)=y at *;rw[show c6=.seq (.region 6 _ false) (.cond (.tmp 39) (.seq (.region 7 _ false) .ret) .skip) from rfl];go_upto_region 6 with fail
 refine wp_region_lit ?_;go_wp;refine(Cl (some ⟨g,0,none⟩) E m c c2 hs w H.Y H.Z (by omega)).mono ?_;rintro e w1 ⟨rfl,B⟩;have P:=H.P.step B;dsimp only
 iterate 7 go_step
 refine Cz (by simp[Region.wanted,yielded,Act.put]) 29 (.tmp 5) rfl b rfl L.cs P Tryz.underlying29 rfl Ag ?_;go_wp;refine(C.out _ (H.rd.lv.I.step B) (H.rd.lv.J.step B) (H.rd.ins.step B)).mono ?_;rintro e w2 ⟨rfl,B1⟩;replace B:=Ab B B1;clear B1 P;dsimp only;by_cases hy:y<0
 . have hd:decide (0<=y)=false:=decide_eq_false (by omega);go_wp;exact⟨rfl,.inl ⟨rfl,⟨⟨rfl,rfl,rfl,rfl,H.P.step B,H.rd.step B,H.lo,H.hp.step B,H.lb,H.bp,H.sm⟩,rfl,H.Y.step B,H.room⟩,hy⟩⟩
 . have hd:decide (0<=y)=true:=decide_eq_true (by omega);go_wp;refine(Cl (some ⟨g,0,none⟩) E m c c2 hs w2 (H.Y.step B) (H.Z.step B) (by omega)).mono ?_;rintro e w3 ⟨rfl,B3⟩;dsimp only;go_wp;exact⟨rfl,.inr ⟨rfl,rfl⟩⟩
theorem a8(H:Ho h0 67 2 (.slice a' len' cap') L D N cc xs b g m c hs T w):c8.wp Tryz.prog (fun e t u=>e=.normal/\t.defers=[]/\Hn h0 (.slice a' len' cap') L D N cc xs b g m c hs (len' % (N+1)) t.tmps u) ⟨T,[]⟩ w:=by
 obtain⟨J,rfl⟩:∃ J,T=TV J:=⟨_,tv_of H.size⟩;have j1:J 1=.slice a' len' cap':=H.x1;have j3:J 5=AJ b:=H.t3;have j4:J 6=.slice D N cc:=H.t4;have j5:J 7=.slice (some ⟨g,0,none⟩) m c:=H.t5;have hsm:=H.sm;have hw1:IntKind.i64.wrap ((N:Int)+1)=(N:Int)+1:=IntWalk.i64_in _ (by omega);have hne:¬ (N:Int)+1=0:=by omega
 have hrem:((len':Int)).tmod ((N:Int)+1)=((len' % (N+1):Nat):Int):=by
  rw[Int.tmod_eq_emod_of_nonneg (by omega)]; simp
 have hlt:len' % (N+1)<N+1:=Nat.mod_lt _ (by omega);have hw2:IntKind.i64.wrap ((len' % (N+1):Nat):Int)=((len' % (N+1):Nat):Int):=IntWalk.i64_in _ (by omega);rw[show c8=.region 8 _ false from rfl];go_wp;exact⟨rfl,rfl,⟨⟨rfl,rfl,rfl,rfl,H.P,H.rd,H.lo,H.hp,H.lb,H.bp,H.sm⟩,rfl,H.Y,H.room⟩,by first | rfl | (simp)⟩
theorem a9{n:Nat}(hn:n<=N)(hc:N<=cc){l:List Nat}(hl:l∈[[0,1,2,3],[0,2,1,3],[1,0,2,3],[1,2,0,3],[1,2,3,0],[2,0,1,3],[2,1,0,3],[2,1,3,0]])(H:Hn h0 X L D N cc xs b g m c hs n T w):wpOps Tryz.prog (cO c9) (fun e t u=>e=.normal/\t.defers=[]/\(Hn h0 X L D N cc xs b g m c hs n t.tmps u/\t.tmps.getD 49 undef=L.val/\t.tmps.getD 52 undef=.slice D n cc)) l ⟨T,[]⟩ w:=by
 obtain⟨J,rfl⟩:∃ J,T=TV J:=⟨_,tv_of H.size⟩;have j1:J 1=X:=H.x1;have j3:J 5=AJ b:=H.t3;have j4:J 6=.slice D N cc:=H.t4;have j5:J 7=.slice (some ⟨g,0,none⟩) m c:=H.t5;have j9:J 9=.int .i64 (n:Int):=H.t9;have hsm:=H.sm;have e:cO c9=#[_,_,_,_,_,_]:=rfl;simp only[List.mem_cons,List.not_mem_nil,or_false] at hl;rcases hl with rfl | rfl | rfl | rfl | rfl | rfl | rfl | rfl
 . rw[Ar (os:=[_,_,_,_]) rfl];simp only[e,List.getElem_toArray,List.getElem_cons_zero,List.getElem_cons_succ];refine Af rfl 29 (.tmp 5) rfl b j3 L.cs H.P Tryz.underlying29 rfl Ag ?_
   iterate 3 go_step
   iterate 3 go_step
   go_wp
   try go_wp
   exact⟨rfl,rfl,⟨⟨⟨rfl,rfl,rfl,rfl,H.P,H.rd,H.lo,H.hp,H.lb,H.bp,H.sm⟩,rfl,H.Y,H.room⟩,rfl⟩,rfl,rfl⟩
 . rw[Ar (os:=[_,_,_,_]) rfl];simp only[e,List.getElem_toArray,List.getElem_cons_zero,List.getElem_cons_succ];refine Af rfl 29 (.tmp 5) rfl b j3 L.cs H.P Tryz.underlying29 rfl Ag ?_
   iterate 3 go_step
   iterate 3 go_step
   go_wp
   try go_wp
   exact⟨rfl,rfl,⟨⟨⟨rfl,rfl,rfl,rfl,H.P,H.rd,H.lo,H.hp,H.lb,H.bp,H.sm⟩,rfl,H.Y,H.room⟩,rfl⟩,rfl,rfl⟩
 . rw[Ar (os:=[_,_,_,_]) rfl];simp only[e,List.getElem_toArray,List.getElem_cons_zero,List.getElem_cons_succ]
   iterate 3 go_step
   refine Af rfl 29 (.tmp 5) rfl b rfl L.cs H.P Tryz.underlying29 rfl Ag ?_
   iterate 3 go_step
   go_wp
   try go_wp
   exact⟨rfl,rfl,⟨⟨⟨rfl,rfl,rfl,rfl,H.P,H.rd,H.lo,H.hp,H.lb,H.bp,H.sm⟩,rfl,H.Y,H.room⟩,rfl⟩,rfl,rfl⟩
 . rw[Ar (os:=[_,_,_,_]) rfl];simp only[e,List.getElem_toArray,List.getElem_cons_zero,List.getElem_cons_succ]
   iterate 3 go_step
   iterate 3 go_step
   refine Af rfl 29 (.tmp 5) rfl b rfl L.cs H.P Tryz.underlying29 rfl Ag ?_;go_wp
   try go_wp
   exact⟨rfl,rfl,⟨⟨⟨rfl,rfl,rfl,rfl,H.P,H.rd,H.lo,H.hp,H.lb,H.bp,H.sm⟩,rfl,H.Y,H.room⟩,rfl⟩,rfl,rfl⟩
 . rw[Ar (os:=[_,_,_,_]) rfl];simp only[e,List.getElem_toArray,List.getElem_cons_zero,List.getElem_cons_succ]
   iterate 3 go_step
   iterate 3 go_step
   iterate 3 go_step
   refine Af rfl 29 (.tmp 5) rfl b rfl L.cs H.P Tryz.underlying29 rfl Ag ?_
   try go_wp
   exact⟨rfl,rfl,⟨⟨⟨rfl,rfl,rfl,rfl,H.P,H.rd,H.lo,H.hp,H.lb,H.bp,H.sm⟩,rfl,H.Y,H.room⟩,rfl⟩,rfl,rfl⟩
 . rw[Ar (os:=[_,_,_,_]) rfl];simp only[e,List.getElem_toArray,List.getElem_cons_zero,List.getElem_cons_succ]
   iterate 3 go_step
   refine Af rfl 29 (.tmp 5) rfl b rfl L.cs H.P Tryz.underlying29 rfl Ag ?_
   iterate 3 go_step
   go_wp
   try go_wp
   exact⟨rfl,rfl,⟨⟨⟨rfl,rfl,rfl,rfl,H.P,H.rd,H.lo,H.hp,H.lb,H.bp,H.sm⟩,rfl,H.Y,H.room⟩,rfl⟩,rfl,rfl⟩
 . rw[Ar (os:=[_,_,_,_]) rfl];simp only[e,List.getElem_toArray,List.getElem_cons_zero,List.getElem_cons_succ]
   iterate 3 go_step
   iterate 3 go_step
   refine Af rfl 29 (.tmp 5) rfl b rfl L.cs H.P Tryz.underlying29 rfl Ag ?_;go_wp
   try go_wp
   exact⟨rfl,rfl,⟨⟨⟨rfl,rfl,rfl,rfl,H.P,H.rd,H.lo,H.hp,H.lb,H.bp,H.sm⟩,rfl,H.Y,H.room⟩,rfl⟩,rfl,rfl⟩
 . rw[Ar (os:=[_,_,_,_]) rfl];simp only[e,List.getElem_toArray,List.getElem_cons_zero,List.getElem_cons_succ]
   iterate 3 go_step
   iterate 3 go_step
   iterate 3 go_step
   refine Af rfl 29 (.tmp 5) rfl b rfl L.cs H.P Tryz.underlying29 rfl Ag ?_
   try go_wp
   exact⟨rfl,rfl,⟨⟨⟨rfl,rfl,rfl,rfl,H.P,H.rd,H.lo,H.hp,H.lb,H.bp,H.sm⟩,rfl,H.Y,H.room⟩,rfl⟩,rfl,rfl⟩
theorem VE{n g2 m2 c3:Nat}{hs2:List Int}(H:Hn h0 X L D N cc xs b g m c hs n T w)(h:T.getD 53 undef=.slice (some ⟨g2,0,none⟩) m2 c3)(Y2:Ints w (some ⟨g2,0,none⟩) m2 hs2):wpOps Tryz.prog (cO c9) (fun e t u=>e=.normal/\t.defers=[]/\(Hm h0 X L D N cc xs b g m c hs n g2 m2 c3 hs2 t.tmps u)) [5] ⟨T,[]⟩ w:=by
 obtain⟨J,rfl⟩:∃ J,T=TV J:=⟨_,tv_of H.size⟩;have j1:J 1=X:=H.x1;have j3:J 5=AJ b:=H.t3;have j4:J 6=.slice D N cc:=H.t4;have j5:J 7=.slice (some ⟨g,0,none⟩) m c:=H.t5;have j9:J 9=.int .i64 (n:Int):=H.t9;have jh:J 53=.slice (some ⟨g2,0,none⟩) m2 c3:=h;have e:cO c9=#[_,_,_,_,_,_]:=rfl;rw[Ar (os:=[_]) rfl];simp only[e,List.getElem_toArray,List.getElem_cons_zero,List.getElem_cons_succ];go_wp;exact⟨rfl,rfl,⟨⟨⟨rfl,rfl,rfl,rfl,H.P,H.rd,H.lo,H.hp,H.lb,H.bp,H.sm⟩,rfl,H.Y,H.room⟩,rfl⟩,rfl,Y2⟩
theorem aE{n g2 c3:Nat}(H:Hm h0 X L D N cc xs b g m c hs n g2 (n / 5) c3 (hs.take (n / 5)) T w)(hn:n<=1000)(h5:n / 5<=m)(hmc:m<=1000):cE.wp Tryz.prog (fun e t u=>t.defers=[]/\(e=.normal/\False\/e=.ret/\t.tmps.getD 4 undef=.bool true)) ⟨T,[]⟩ w:=by
 obtain⟨J,rfl⟩:∃ J,T=TV J:=⟨_,tv_of H.size⟩;have j1:J 1=X:=H.x1;have j3:J 5=AJ b:=H.t3;have j4:J 6=.slice D N cc:=H.t4;have j5:J 7=.slice (some ⟨g,0,none⟩) m c:=H.t5;have j9:J 9=.int .i64 (n:Int):=H.t9;have j10:J 10=.slice (some ⟨g2,0,none⟩) (n / 5) c3:=H.t10;have hq:((n:Int)).tdiv 5=((n / 5:Nat):Int):=by rw[Int.tdiv_eq_ediv_of_nonneg (by omega)]; simp
 have hcap:n / 5<=c:=Nat.le_trans h5 H.room;have Y1:=H.Y.part h5;have Y2:=H.Y2;generalize n / 5=k5 at *;have heq:((k5:Int)==(k5:Int))=true:=by simp
 rw[show cE=.seq (.region 10 _ false) .ret from rfl];clear H;go_wp;refine(Cl (some ⟨g2,0,none⟩) (some ⟨g,0,none⟩) k5 c3 c (hs.take k5) w Y2 Y1 (by omega)).mono ?_;rintro e w1 ⟨rfl,B⟩;dsimp only;go_wp;exact⟨rfl,.inr ⟨rfl,rfl⟩⟩
end
theorem way(a:Option Addr)(len cap:Nat)(zs:List Int)(a':Option Addr)(len' cap':Nat)(W:World)(hr:IsRow .u8 W a len cap zs)(ca:Cel W a)(ca':Cel W a')(hq:Quarter W)(hG:XR.G<=W.heap.size):Ren.Way PP (QD W) (Bc (Frame.enter PP fV #[.slice a len cap,.slice a' len' cap'] .normal) []) W:=by
 refine Ren.Way.of_co (W:=W) (RO:=Lt W.heap.size) (O:=fun _=>False) ?_ (Ren.Alike.refl W) (fun j hj=>hj);have ha:ArrR XR.L (vr W W.heap.size) (#[.slice a len cap,.slice a' len' cap']++Array.replicate 65 undef) (#[.slice a len cap,.slice a' len' cap']++Array.replicate 65 undef) :=
  ((ArrR.one (BH ca)).append (ArrR.one (BH ca'))).append (.replicate _ (.tuple rfl fun i x y h=>by simp at h))
 have h:Sit XR gR W.heap.size (vr W W.heap.size) (fun _=>False) (fun j=>W.heap[j]?) (fun T u=>T=#[.slice a len cap,.slice a' len' cap']++Array.replicate 65 undef/\(IsRow .u8 u a len cap zs/\Quarter u)/\Hp (vh W W.heap.size) u) (#[.slice a len cap,.slice a' len' cap']++Array.replicate 65 undef) (fun _=>False) W :=
  Sit.start (Nat.le_refl _) hG (Eh hq fun _ _=>rfl) (fun j h=>h.elim) ha ha (fun _ _=>rfl) (fun u hu=>⟨rfl,⟨hr.veil ca (Hp.refl hu),hq.veil (Hp.refl hu)⟩,Hp.refl hu⟩)
 rw[EJ fV_at (c:=kB) rfl,kB_eq];refine h.ctl rfl (fun w1=>AE) ?_;refine h.wp AV AW AD (fun T u u' x e=>⟨x.1,⟨x.2.1.1.same e,x.2.1.2.same e⟩,x.2.2.same e⟩) nn (Au fV_at) k0 (Q1:=Hz (vh W W.heap.size) 67 (.slice a' len' cap') a len cap zs) (fun T u x=>?_) fun T1 O1 y1 h1=>?_
 . rw[x.1,tv_args];exact a0 (J:=fun z=>match z with | 0=>.slice a len cap | 1=>.slice a' len' cap' | _=>undef) rfl rfl x.2.1.1 x.2.1.2 x.2.2
 refine h1.ctl rfl (fun w1=>AE) ?_;refine h1.wp2 AV AW AD Hz.hpo nn (Au fV_at) kX (Q1:=Hz (vh W W.heap.size) 67 (.slice a' len' cap') a len cap zs) (Q2:=fun T u=>T.getD 4 undef=.bool true) (fun T u x=>aX x) (fun T2 O2 y2 h2=>?_) (fun k T2 O2 y2 h2=>h2.done (fun _ _=>rfl) fV_at (by kernel_rfl) (by rfl) fun T u x=>x);refine h2.ctl rfl (fun w1=>AE) ?_;refine h2.wp AV AW AD Hz.hpo nn (Au fV_at) k3 (Q1:=fun T u=>∃ L D N cc xs b,Hh (vh W W.heap.size) 67 2 (.slice a' len' cap') L D N cc xs b T u) (fun T u x=>a3 x) fun T3 O3 y3 h3=>?_;obtain⟨L,h3⟩:=h3.split;obtain⟨D,h3⟩:=h3.split;obtain⟨N,h3⟩:=h3.split;obtain⟨cc,h3⟩:=h3.split
 obtain⟨xs,h3⟩:=h3.split;obtain⟨b,h3⟩:=h3.split;have hx0:=h3.fact fun T u x=>(⟨x.rd.ins.1,x.sm⟩:xs.length=N/\N<=63);have hl0:(Bm 0 (hashes.sts L xs N)).length<=1000:=by
  have h1:=Hx (hashes.sts L xs N) 0;have h2:(hashes.sts L xs N).length<=N+1:=by
   unfold hashes.sts;split
   . rw[List.length_cons,FZ]; omega
   . simp
  omega
 refine h3.ctl rfl (fun w1=>AE) ?_;refine h3.ctl rfl (fun w1=>by rw[show c4=.region 4 (cO c4) false from rfl]; exact BG) ?_;refine h3.ops (l1:=[0,1]) (l2:=[2,3]) AV AW AD Hh.hpo nn (Au fV_at) o4 (Q1:=fun T u=>Hh (vh W W.heap.size) 67 2 (.slice a' len' cap') L D N cc xs b T u/\T.getD 24 undef=L.val/\T.getD 25 undef=.slice D N cc) (fun T u x=>a4 x) fun T4 O4 y4 h4=>?_;refine h4.runHashes hG (i:=2) (l:=[3]) (d:=26) (L:=L) (A:=D) (n:=N) (cap:=cc) (xs:=xs) rfl rfl rfl rfl (fun T u x=>⟨x.2,x.1.rd⟩) (by omega) fun c B2 y5 j5 O5 hcap hB h5=>?_
 have h5:=h5.mono (Q1:=fun T u=>∃ g,(Hh (vh W W.heap.size) 67 2 (.slice a' len' cap') L D N cc xs b T u/\T.getD 26 undef=.slice (some ⟨g,0,none⟩) (Bm 0 (hashes.sts L xs N)).length c)/\Ints u (some ⟨g,0,none⟩) (Bm 0 (hashes.sts L xs N)).length (Bm 0 (hashes.sts L xs N))) fun T u ⟨T0,u0,x,e1,e2⟩=>by
  subst e1 e2;exact⟨u0.heap.size,⟨(x.1.put (by omega) _).at (Aa (Ac u0) _),BW (by rw[x.1.size]; omega)⟩,Ints.lit u0 _ _⟩
 obtain⟨g,h5⟩:=h5.split;refine Sit.ops (l1:=[3]) (l2:=[]) h5 AV AW AD (fun T u u' x e=>⟨⟨Hh.hpo T u u' x.1.1 e,x.1.2⟩,x.2.same e⟩) nn (Au fV_at) o4b (Q1:=Ho (vh W W.heap.size) 67 2 (.slice a' len' cap') L D N cc xs b g (Bm 0 (hashes.sts L xs N)).length c (Bm 0 (hashes.sts L xs N))) (fun T u x=>a4b x.1.1 x.1.2 x.2 hcap) fun T6 O6 y6 h6=>?_;refine h6.ctl rfl (fun w1=>Ci) ?_;refine h6.ctl rfl (fun w1=>AE) ?_
 refine h6.wp AV AW AD Ho.hpo nn (Au fV_at) k5 (Q1:=fun T u=>∃ E c2,Hp2 (vh W W.heap.size) 67 2 (.slice a' len' cap') L D N cc xs b g (Bm 0 (hashes.sts L xs N)).length c (Bm 0 (hashes.sts L xs N)) E c2 T u) (fun T u x=>a5 x) fun T7 O7 y7 h7=>?_;obtain⟨E,h7⟩:=h7.split;obtain⟨c2,h7⟩:=h7.split;refine h7.ctl rfl (fun w1=>AE) ?_
 refine h7.wp2 AV AW AD Hp2.hpo nn (Au fV_at) k6 (Q1:=fun T u=>Ho (vh W W.heap.size) 67 2 (.slice a' len' cap') L D N cc xs b g (Bm 0 (hashes.sts L xs N)).length c (Bm 0 (hashes.sts L xs N)) T u/\(DC L.i L.t L.x L.y L.ws L.gs L.fp L.fq L.fs L.fz L.b xs)<0) (Q2:=fun T u=>T.getD 4 undef=.bool true) (fun T u x=>a6 x hl0) (fun T8 O8 y8 h8=>?_) (fun k T8 O8 y8 h8=>h8.done (fun j hj=>hB j hj) fV_at (by kernel_rfl) (by rfl) fun T u x=>x);have hil:=h8.fact fun T u x=>x.2;have hok:CW L xs N (N:Int)=true:=by
  have e:(DC L.i L.t L.x L.y L.ws L.gs L.fp L.fq L.fs L.fz L.b xs)=-1:=by
   unfold DC at hil ⊢;split
   . rename_i hv;rw[if_pos hv] at hil;rcases Jh L.t L.b xs 0 0 0 with e | ⟨e,_⟩
     . exact e
     . have:0<=IZ L.t L.b xs:=e;omega
   . rename_i hv;rw[if_neg hv] at hil;omega
  simp[CW,e]
 have hn:len' % (N+1)<=N:=Nat.le_of_lt_succ (Nat.mod_lt _ (by omega));obtain⟨p1,p2,p3⟩:=RL hx0.1 hok hn;rw[kQ_eq];refine h8.ctl rfl (fun w1=>AE) ?_;refine h8.wp AV AW AD (fun T u u' x e=>⟨Ho.hpo T u u' x.1 e,x.2⟩) nn (Au fV_at) k8 (Q1:=Hn (vh W W.heap.size) (.slice a' len' cap') L D N cc xs b g (Bm 0 (hashes.sts L xs N)).length c (Bm 0 (hashes.sts L xs N)) (len' % (N+1))) (fun T u x=>a8 x.1) fun T9 O9 y9 h9=>?_;refine h9.ctl rfl (fun w1=>AE) ?_;rw[show c9=.region 9 (cO c9) true from rfl];refine h9.draw QE fun t=>?_
 obtain⟨l1,hl,hl1⟩:∃ l1,Region.linearise .any (cO c9) t=l1++[4,5]/\l1∈[[0,1,2,3],[0,2,1,3],[1,0,2,3],[1,2,0,3],[1,2,3,0],[2,0,1,3],[2,1,0,3],[2,1,3,0]]:=by
  have:=IC .any (cO c9) t;rw[RJ] at this;simp only[List.mem_cons,List.not_mem_nil,or_false] at this;rcases this with e | e | e | e | e | e | e | e
  . exact⟨[0,1,2,3],e,by simp⟩
  . exact⟨[0,2,1,3],e,by simp⟩
  . exact⟨[1,0,2,3],e,by simp⟩
  . exact⟨[1,2,0,3],e,by simp⟩
  . exact⟨[1,2,3,0],e,by simp⟩
  . exact⟨[2,0,1,3],e,by simp⟩
  . exact⟨[2,1,0,3],e,by simp⟩
  . exact⟨[2,1,3,0],e,by simp⟩
 rw[hl];have hcc:=h9.fact fun T u x=>x.rd.room;refine h9.ops (l2:=[4,5]) AV AW AD Hn.hpo nn (Au fV_at) (o9 hl1) (Q1:=fun T u=>Hn (vh W W.heap.size) (.slice a' len' cap') L D N cc xs b g (Bm 0 (hashes.sts L xs N)).length c (Bm 0 (hashes.sts L xs N)) (len' % (N+1)) T u/\T.getD 49 undef=L.val/\T.getD 52 undef=.slice D (len' % (N+1)) cc) (fun T u x=>a9 hn hcc hl1 x) fun T10 O10 y10 h10=>?_
 refine h10.runHashes hG (i:=4) (l:=[5]) (d:=53) (L:=L) (A:=D) (n:=len' % (N+1)) (cap:=cc) (xs:=xs.take (len' % (N+1))) rfl rfl rfl rfl (fun T u x=>⟨x.2,x.1.rd.lv,x.1.rd.ins.take hn,x.1.rd.cel,by omega,by omega,x.1.rd.quarter⟩) (by omega) fun c3 B4 y11 j4 O11 hcap hB4 h11=>?_;rw[p2,p1] at h11;rw[p2]
 have h12:=h11.mono (Q1:=fun T u=>∃ g2,(Hn (vh W W.heap.size) (.slice a' len' cap') L D N cc xs b g (Bm 0 (hashes.sts L xs N)).length c (Bm 0 (hashes.sts L xs N)) (len' % (N+1)) T u/\T.getD 53 undef=.slice (some ⟨g2,0,none⟩) (len' % (N+1) / 5) c3)/\Ints u (some ⟨g2,0,none⟩) (len' % (N+1) / 5) ((Bm 0 (hashes.sts L xs N)).take (len' % (N+1) / 5))) fun T u ⟨T0,u0,x,e1,e2⟩=>by
  subst e1 e2;refine⟨u0.heap.size,⟨(x.1.put (by omega) _).at (Aa (Ac u0) _),BW (by rw[x.1.size]; omega)⟩,?_⟩;have:=Ints.lit u0 ((Bm 0 (hashes.sts L xs N)).take (len' % (N+1) / 5)) 3
  rwa [List.length_take,Nat.min_eq_left p3] at this
 obtain⟨g2,h12⟩:=h12.split;refine Sit.ops (l1:=[5]) (l2:=[]) h12 AV AW AD (fun T u u' x e=>⟨⟨Hn.hpo T u u' x.1.1 e,x.1.2⟩,x.2.same e⟩) nn (Au fV_at) VD (Q1:=Hm (vh W W.heap.size) (.slice a' len' cap') L D N cc xs b g (Bm 0 (hashes.sts L xs N)).length c (Bm 0 (hashes.sts L xs N)) (len' % (N+1)) g2 (len' % (N+1) / 5) c3 ((Bm 0 (hashes.sts L xs N)).take (len' % (N+1) / 5))) (fun T u x=>VE x.1.1 x.1.2 x.2) fun T13 O13 y13 h13=>?_;refine h13.ctl rfl (fun w1=>Ci) ?_
 exact h13.wp2 AV AW AD Hm.hpo nn (Au fV_at) kE (Q1:=fun _ _=>False) (Q2:=fun T u=>T.getD 4 undef=.bool true) (fun T u x=>aE x (by omega) p3 hl0) (fun T7 O7 y7 h7=>h7.fact fun _ _ x=>x.elim) (fun k T7 O7 y7 h7=>h7.done (fun j hj=>(hB4 j hj).trans (hB j hj)) fV_at (by kernel_rfl) (by rfl) fun T u x=>x)
end Go.Proofs.YtaemcekcancpdabGreatDoor.fnHashesPrefixW
