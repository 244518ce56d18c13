import Derived.Test.YtaemcekcancpdaaGreatDoorZRunScM
set_option linter.all false
set_option maxRecDepth 100000
set_option maxHeartbeats 8000000
open Go.Lib
namespace Go.Proofs.YtaemcekcancpdaaGreatDoor.fnRunPathW
open Go.RowKit
open M
open Ren
open Go.Conc
noncomputable abbrev kB:Code:=Dr Tryz.f5
noncomputable def c0:Code:=cA kB
noncomputable def cX:Code:=cA (cB kB)
noncomputable def c3:Code:=cA (cB (cB kB))
noncomputable def c4:Code:=cA (cB (cB (cB kB)))
noncomputable def cR:Code:=cB (cB (cB (cB kB)))
theorem kB_eq:kB=.seq c0 (.seq cX (.seq c3 (.seq c4 cR))):=rfl
abbrev fV:FuncId:=5
theorem fV_at:PP.funcs[fV]?=some Tryz.f5:=Tryz.func5
theorem k0:XR.C c0:=by show AH PP Ck Cn c0=true; kernel_rfl
theorem kX:XR.C cX:=by show AH PP Ck Cn cX=true; kernel_rfl
theorem k3:XR.C c3:=by show AH PP Ck Cn c3=true; kernel_rfl
theorem o4:∀ i∈[0,1,2],∀ o,(cO c4)[i]?=some o->OpOk XR gR o.op:=Bz (by kernel_rfl)
theorem o4b:∀ i∈[4,5,6,7,8,9],∀ o,(cO c4)[i]?=some o->OpOk XR gR o.op:=Bz (by kernel_rfl)
abbrev TV(J:Nat->Value):Array Value:=#[J 0,J 1,J 2,J 3,J 4,J 5,J 6,J 7,J 8,J 9,J 10,J 11,J 12,J 13,J 14,J 15,J 16,J 17,J 18,J 19,J 20,J 21,J 22,J 23,J 24,J 25,J 26,J 27,J 28,J 29,J 30,J 31,J 32,J 33,J 34,J 35,J 36,J 37,J 38,J 39,J 40,J 41,J 42,J 43,J 44,J 45,J 46,J 47,J 48,J 49,J 50,J 51,J 52,J 53,J 54,J 55,J 56,J 57,J 58,J 59,J 60,J 61,J 62,J 63,J 64,J 65,J 66,J 67,J 68,J 69,J 70,J 71,J 72,J 73,J 74,J 75,J 76,J 77,J 78,J 79,J 80,J 81]
theorem tv_of{T:Array Value}(h:T.size=82):T=TV fun n=>T.getD n undef:=by
 refine Array.ext h fun i h1 h2=>?_;have e:∀ n (hn:n<T.size),T.getD n undef=T[n]:=fun n hn=>by simp[Array.getD,hn]
 simp only[TV];have:i<82:=h▸h1
 iterate 82 (rcases i with _ | i; · exact(e _ _).symm)
 omega
theorem tv_args(a a':Value):#[a,a']++Array.replicate 80 undef=#[a,a',undef,undef,undef,undef,undef,undef,undef,undef,undef,undef,undef,undef,undef,undef,undef,undef,undef,undef,undef,undef,undef,undef,undef,undef,undef,undef,undef,undef,undef,undef,undef,undef,undef,undef,undef,undef,undef,undef,undef,undef,undef,undef,undef,undef,undef,undef,undef,undef,undef,undef,undef,undef,undef,undef,undef,undef,undef,undef,undef,undef,undef,undef,undef,undef,undef,undef,undef,undef,undef,undef,undef,undef,undef,undef,undef,undef,undef,undef,undef,undef]:=by kernel_rfl
structure Za(h0:Array Obj)(sz:Nat)(X:Value)(a:Option Addr)(len cap:Nat)(zs:List Int)(T:Array Value)(u:World):Prop where
 size:T.size=sz
 t0:T.getD 0 undef=.slice a len cap
 row:IsRow .u8 u a len cap zs
 q:Quarter u
 hp:Hp h0 u
 x1:T.getD 1 undef=X
theorem Za.hpo{h0:Array Obj}{sz:Nat}{X:Value}{a:Option Addr}{len cap:Nat}{zs:List Int}:Hpo (Za h0 sz X a len cap zs):=fun _ _ _ h e=>⟨h.size,h.t0,h.row.same e,h.q.same e,h.hp.same e,h.x1⟩
structure Vh(h0:Array Obj)(sz z:Nat)(X:Value)(L:Lv)(D:Option Addr)(N cc:Nat)(xs:List In)(k0:Int)(b:Nat)(T:Array Value)(u:World):Prop where
 size:T.size=sz
 t3:T.getD (3+z) undef=AA b
 t4:T.getD (4+z) undef=.slice D N cc
 t5:T.getD (5+z) undef=.int .i64 k0
 P:CellsAt u b L.cs
 rd:Ready L D N cc xs u
 lo:Low L D b
 hp:Hp h0 u
 lb:h0.size<=b
 bp:0<b
 bd:-2<=k0/\k0<=N+1
 sm:N<=63
 x1:T.getD 1 undef=X
theorem Vh.hpo{h0:Array Obj}{sz z:Nat}{X:Value}{L:Lv}{D:Option Addr}{N cc:Nat}{xs:List In}{k0:Int}{b:Nat}:Hpo (Vh h0 sz z X L D N cc xs k0 b):=fun _ _ _ h e=>{ h with P:=h.P.same e,rd:=h.rd.same e,hp:=h.hp.same e }
structure Vo(h0:Array Obj)(sz z:Nat)(X:Value)(L:Lv)(D:Option Addr)(N cc:Nat)(xs:List In)(k0:Int)(b c:Nat)(s:St)(ok:Bool)(T:Array Value)(u:World):Prop extends Vh h0 sz z X L D N cc xs k0 b T u where
 t6:T.getD (6+z) undef=AA c
 t7:T.getD (7+z) undef=.bool ok
 S:CellsAt u c (svs s)
 lc:b<c
theorem Vo.hpo{h0:Array Obj}{sz z:Nat}{X:Value}{L:Lv}{D:Option Addr}{N cc:Nat}{xs:List In}{k0:Int}{b c:Nat}{s:St}{ok:Bool}:Hpo (Vo h0 sz z X L D N cc xs k0 b c s ok):=fun _ _ _ h e=>{ h with P:=h.P.same e,rd:=h.rd.same e,hp:=h.hp.same e,S:=h.S.same e }
structure Vp(h0:Array Obj)(sz z:Nat)(X:Value)(L:Lv)(D:Option Addr)(N cc:Nat)(xs:List In)(k0:Int)(b c c2:Nat)(s:St)(ok:Bool)(T:Array Value)(u:World):Prop extends Vo h0 sz z X L D N cc xs k0 b c s ok T u where
 t8:T.getD (8+z) undef=AA c2
 t9:T.getD (9+z) undef=.bool ok
 S2:CellsAt u c2 (svs s)
theorem Vp.hpo{h0:Array Obj}{sz z:Nat}{X:Value}{L:Lv}{D:Option Addr}{N cc:Nat}{xs:List In}{k0:Int}{b c c2:Nat}{s:St}{ok:Bool}:Hpo (Vp h0 sz z X L D N cc xs k0 b c c2 s ok):=fun _ _ _ h e=>{ h with P:=h.P.same e,rd:=h.rd.same e,hp:=h.hp.same e,S:=h.S.same e,S2:=h.S2.same e }
structure Vq(h0:Array Obj)(X:Value)(L:Lv)(D:Option Addr)(N cc:Nat)(xs:List In)(k0:Int)(b c:Nat)(s:St)(ok:Bool)(g m c2:Nat)(ps:List Pt)(T:Array Value)(u:World):Prop extends Vo h0 82 2 X L D N cc xs k0 b c s ok T u where
 t12:T.getD 12 undef=.slice (some ⟨g,0,none⟩) m c2
 Y:Points u (some ⟨g,0,none⟩) m ps
theorem Vq.hpo{h0:Array Obj}{X:Value}{L:Lv}{D:Option Addr}{N cc:Nat}{xs:List In}{k0:Int}{b c:Nat}{s:St}{ok:Bool}{g m c2:Nat}{ps:List Pt}:Hpo (Vq h0 X L D N cc xs k0 b c s ok g m c2 ps):=fun _ _ _ h e=>{ h with P:=h.P.same e,rd:=h.rd.same e,hp:=h.hp.same e,S:=h.S.same e,Y:=h.Y.same e }
theorem Vo.put{h0:Array Obj}{sz z:Nat}{X:Value}{L:Lv}{D:Option Addr}{N cc:Nat}{xs:List In}{k0:Int}{b c d:Nat}{s:St}{ok:Bool}{T:Array Value}{u:World}(x:Vo h0 sz z X L D N cc xs k0 b c s ok T u)(hd:7+z<d)(v:Value):Vo h0 sz z X L D N cc xs k0 b c s ok (Bh T (some d) v) u :=
 ⟨⟨size_put.trans x.size,(Aj (by omega)).trans x.t3,(Aj (by omega)).trans x.t4,(Aj (by omega)).trans x.t5,x.P,x.rd,x.lo,x.hp,x.lb,x.bp,x.bd,x.sm,(Aj (by omega)).trans x.x1⟩,(Aj (by omega)).trans x.t6,(Aj (by omega)).trans x.t7,x.S,x.lc⟩
theorem Vo.path{h0:Array Obj}{sz z:Nat}{X:Value}{L:Lv}{D:Option Addr}{N cc:Nat}{xs:List In}{k0:Int}{b c d:Nat}{s:St}{ok:Bool}{T:Array Value}{u:World}(x:Vo h0 sz z X L D N cc xs k0 b c s ok T u)(hd:7+z<d)(hsz:d<sz)(ss:List St)(cap:Nat)(t:TypeId) :
 ∃ g,(Vo h0 sz z X L D N cc xs k0 b c s ok (Bh T (some d) (.slice (some ⟨u.heap.size,0,none⟩) ss.length cap)) (u.alloc (.cells (Dv (ss.map DI)).toArray t))/\(Bh T (some d) (.slice (some ⟨u.heap.size,0,none⟩) ss.length cap)).getD d undef=.slice (some ⟨g,0,none⟩) ss.length cap)/\Points (u.alloc (.cells (Dv (ss.map DI)).toArray t)) (some ⟨g,0,none⟩) ss.length (ss.map DI) :=
 ⟨u.heap.size,⟨by
  have y:=x.put hd (.slice (some ⟨u.heap.size,0,none⟩) ss.length cap);have B:=Aa (Ac u) (.cells (Dv (ss.map DI)).toArray t);exact { y with P:=y.P.step B,rd:=y.rd.step B,hp:=y.hp.step B,S:=y.S.step B },A8 (by rw[x.size]; exact hsz)⟩,by
  have:=Points.lit u (ss.map DI) t
  rwa [List.length_map] at this⟩
section
variable {a':Option Addr} {len' cap':Nat} {h0:Array Obj} {a:Option Addr} {len cap:Nat} {zs:List Int} {X:Value} {T:Array Value} {w:World} {L:Lv} {D:Option Addr} {N cc:Nat} {xs:List In} {kz:Int} {b c:Nat} {s:St} {ok:Bool}
theorem a0{J:Nat->Value}(j0:J 0=.slice a len cap)(j1:J 1=.slice a' len' cap')(hr:IsRow .u8 w a len cap zs)(hq:Quarter w)(hp:Hp h0 w):c0.wp Tryz.prog (fun e t u=>e=.normal/\t.defers=[]/\Za h0 82 (.slice a' len' cap') a len cap zs t.tmps u) ⟨TV J,[]⟩ w:=by
 rw[show c0=.region 0 _ false from rfl];go_wp;exact⟨rfl,rfl,rfl,rfl,hr,hq,hp,rfl⟩
theorem aX(H:Za h0 82 (.slice a' len' cap') a len cap zs T w):cX.wp Tryz.prog (fun e t u=>t.defers=[]/\(e=.normal/\Za h0 82 (.slice a' len' cap') a len cap zs t.tmps u\/e=.ret/\t.tmps.getD 4 undef=.bool true)) ⟨T,[]⟩ w:=by
 obtain⟨J,rfl⟩:∃ J,T=TV J:=⟨_,tv_of H.size⟩;have j0:J 0=.slice a len cap:=H.t0;have j1:J 1=.slice a' len' cap':=H.x1;rw[show cX=.seq (.region 1 _ false) (.cond (.tmp 20) (.seq (.region 2 _ false) .ret) .skip) from rfl];by_cases g9:1048576<len
 . have g1:(1048576:Int)<(len:Int):=by omega
   have g1d:decide ((1048576:Int)<(len:Int))=true:=decide_eq_true g1;have g2d:decide (1048576<len)=true:=decide_eq_true (by omega);go_wp;exact⟨rfl,.inr ⟨rfl,rfl⟩⟩
 have g1:¬ (1048576:Int)<(len:Int):=by omega
 have g1d:decide ((1048576:Int)<(len:Int))=false:=decide_eq_false g1;have g2d:decide (1048576<len)=false:=decide_eq_false (by omega);by_cases g9:1048576<len'
 . have g1':(1048576:Int)<(len':Int):=by omega
   have g3d:decide ((1048576:Int)<(len':Int))=true:=decide_eq_true g1';have g4d:decide (1048576<len')=true:=decide_eq_true (by omega);go_wp;exact⟨rfl,.inr ⟨rfl,rfl⟩⟩
 have g1':¬ (1048576:Int)<(len':Int):=by omega
 have g3d:decide ((1048576:Int)<(len':Int))=false:=decide_eq_false g1';have g4d:decide (1048576<len')=false:=decide_eq_false (by omega);go_wp;exact⟨rfl,.inl ⟨rfl,rfl,rfl,H.row,H.q,H.hp,rfl⟩⟩
theorem a3(H:Za h0 82 X a len cap zs T w):c3.wp Tryz.prog (fun e t u=>e=.normal/\t.defers=[]/\∃ L D N cc xs kz b,Vh h0 82 2 X L D N cc xs kz b t.tmps u) ⟨T,[]⟩ w:=by
 obtain⟨J,rfl⟩:∃ J,T=TV J:=⟨_,tv_of H.size⟩;have jx:J 1=X:=H.x1;have j0:J 0=.slice a len cap:=H.t0;rw[show c3=.region 3 _ false from rfl];go_wp;refine(ML a len cap zs w H.row).mono ?_;rintro e w1 ⟨i,t,x,y,A,n,c,G,m,kk,fp,fq,fs,fz,b,ws,gs,D,N,cc,xs,kz,rfl,⟨zA,zG,zD⟩,bd,hn,hm,hN,I,G1,Y,B⟩;dsimp only
 iterate 16 go_step
 refine Ai rfl 29 (.tmp 5) (.tmp 24) rfl w1.heap.size rfl (AX i t x y A n c G m kk fp fq fs fz b) rfl _ (CellsAt.new w1 _ [_,_,_,_,_,_,_,_,_,_,_] 29 rfl) (Nat.le_refl _) Ad rfl ?_;intro w2 K P;go_wp;have rd:Ready ⟨i,t,x,y,A,n,c,G,m,kk,fp,fq,fs,fz,b,ws,gs⟩ D N cc xs w1:=⟨⟨I,G1,by show n<=_; omega,by show m<=_; omega,I.cel zA,G1.cel zG⟩,Y,zD,by omega,hN.2,H.q.step B⟩;have B2:=Aa (Ac w1) (.cells #[.int .i64 0,.int .i64 0,.int .i64 0,.int .i64 0,.slice none 0 0,.slice none 0 0,.int .i64 0,.int .i64 0,.int .i64 0,.int .i64 0,.int .i64 0] 29);have h1:=H.hp.size;have h2:=B.size;have h3:=H.q.lt
 exact⟨rfl,rfl,⟨i,t,x,y,A,n,c,G,m,kk,fp,fq,fs,fz,b,ws,gs⟩,D,N,cc,xs,kz,w1.heap.size,rfl,rfl,rfl,rfl,P,(rd.step B2).keep rd.low K (Nat.le_refl _) (by omega),rd.low,((H.hp.step B).step B2).kept K (by omega),by omega,by omega,bd,hN.1,rfl⟩
theorem a4(H:Vh h0 82 2 X L D N cc xs kz b T w):wpOps Tryz.prog (cO c4) (fun e t u=>e=.normal/\t.defers=[]/\(Vh h0 82 2 X L D N cc xs kz b t.tmps u/\t.tmps.getD 28 undef=L.val/\t.tmps.getD 29 undef=.slice D N cc/\t.tmps.getD 30 undef=.int .i64 kz)) [0,1,2] ⟨T,[]⟩ w:=by
 obtain⟨J,rfl⟩:∃ J,T=TV J:=⟨_,tv_of H.size⟩;have jx:J 1=X:=H.x1;have j3:J 5=AA b:=H.t3;have j4:J 6=.slice D N cc:=H.t4;have j5:J 7=.int .i64 kz:=H.t5;have e:cO c4=#[_,_,_,_,_,_,_,_,_,_]:=rfl;rw[Ah (os:=[_,_,_]) rfl];simp only[e,List.getElem_toArray,List.getElem_cons_zero,List.getElem_cons_succ];refine Af rfl 29 (.tmp 5) rfl b j3 L.cs H.P Tryz.underlying29 rfl Ad ?_;go_wp;exact⟨rfl,rfl,⟨rfl,rfl,rfl,rfl,H.P,H.rd,H.lo,H.hp,H.lb,H.bp,H.bd,H.sm,rfl⟩,rfl,rfl,rfl⟩
theorem a5(H:Vh h0 82 2 X L D N cc xs kz b T w)(h23:T.getD 31 undef=.tuple #[sva s,.bool ok]):wpOps Tryz.prog (cO c4) (fun e t u=>e=.normal/\t.defers=[]/\∃ c,Vo h0 82 2 X L D N cc xs kz b c s ok t.tmps u) [4,5,6,7,8,9] ⟨T,[]⟩ w:=by
 obtain⟨J,rfl⟩:∃ J,T=TV J:=⟨_,tv_of H.size⟩;have jx:J 1=X:=H.x1;have j3:J 5=AA b:=H.t3;have j4:J 6=.slice D N cc:=H.t4;have j5:J 7=.int .i64 kz:=H.t5;have j23:J 31=.tuple #[sva s,.bool ok]:=h23;have e:cO c4=#[_,_,_,_,_,_,_,_,_,_]:=rfl;rw[Ah (os:=[_,_,_,_,_,_]) rfl];simp only[e,List.getElem_toArray,List.getElem_cons_zero,List.getElem_cons_succ]
 iterate 12 go_step
 refine Ai rfl 34 (.tmp 8) (.tmp 32) rfl w.heap.size rfl (svs s) rfl _ (CellsAt.new w _ [_,_,_,_,_,_,_,_,_] 34 rfl) (Nat.le_refl _) Ae rfl ?_;intro w2 K S;go_wp;have B2:=Aa (Ac w) (.cells #[.int .i64 0,.int .i64 0,.int .i64 0,.int .i64 0,.int .i64 0,.int .i64 0,.int .i64 0,.bool false,.bool false] 34);have h1:=H.P.lt;have h2:=H.hp.size;exact⟨rfl,rfl,w.heap.size,⟨rfl,rfl,rfl,rfl,(H.P.step B2).kept K (by omega),(H.rd.step B2).keep H.rd.low K (Nat.le_refl _) (by omega),H.lo,(H.hp.step B2).kept K (by omega),H.lb,H.bp,H.bd,H.sm,rfl⟩,rfl,rfl,S,h1⟩
noncomputable def c5:Code:=cA cR
noncomputable def c6:Code:=cA (cB cR)
noncomputable def c8:Code:=cA (cB (cB cR))
noncomputable def cE:Code:=cB (cB (cB cR))
theorem kR_eq:cR=.seq c5 (.seq c6 (.seq c8 cE)):=rfl
theorem k5:XR.C c5:=by show AH PP Ck Cn c5=true; kernel_rfl
theorem k6:XR.C c6:=by show AH PP Ck Cn c6=true; kernel_rfl
theorem kE:XR.C cE:=by show AH PP Ck Cn cE=true; kernel_rfl
theorem a5w(H:Vo h0 82 2 X L D N cc xs kz b c (L.fin xs N kz) (B8 L xs N kz) T w):c5.wp Tryz.prog (fun e t u=>e=.normal/\t.defers=[]/\∃ c2,Vp h0 82 2 X L D N cc xs kz b c c2 (L.fin xs N kz) (B8 L xs N kz) t.tmps u) ⟨T,[]⟩ w:=by
 obtain⟨J,rfl⟩:∃ J,T=TV J:=⟨_,tv_of H.size⟩;have jx:J 1=X:=H.x1;have j3:J 5=AA b:=H.t3;have j4:J 6=.slice D N cc:=H.t4;have j5:J 7=.int .i64 kz:=H.t5;have j6:J 8=AA c:=H.t6;have j7:J 9=.bool (B8 L xs N kz):=H.t7;rw[show c5=.region 5 _ false from rfl];have C:=hid (Nw L D N cc xs kz w H.rd.lv.I H.rd.lv.J H.rd.lv.n H.rd.lv.m H.rd.ins (by have:=H.sm; omega));rw[Lv.ans_eq] at C;generalize L.fin xs N kz=s at *;generalize B8 L xs N kz=ok at *;refine wp_region_lit ?_;refine Af rfl 29 (.tmp 5) rfl b j3 L.cs H.P Tryz.underlying29 rfl Ad ?_;go_wp;refine C.out.mono ?_;rintro e w1 ⟨rfl,B⟩;dsimp only
 iterate 13 go_step
 have B2:=Aa B (.cells #[.int .i64 0,.int .i64 0,.int .i64 0,.int .i64 0,.int .i64 0,.int .i64 0,.int .i64 0,.bool false,.bool false] 34);have b1:=B.size;have lc:=H.lc;have sl:=H.S.lt;have h2:=H.hp.size;refine Ai rfl 34 (.tmp 10) (.tmp 39) rfl w1.heap.size rfl (svs s) rfl _ (CellsAt.new w1 _ [_,_,_,_,_,_,_,_,_] 34 rfl) (Nat.le_refl _) Ae rfl ?_;intro w2 K S2;go_wp;exact⟨rfl,rfl,w1.heap.size,⟨⟨rfl,rfl,rfl,rfl,(H.P.step B2).kept K (by omega),(H.rd.step B2).keep H.rd.low K (by omega) (by omega),H.lo,(H.hp.step B2).kept K (by omega),H.lb,H.bp,H.bd,H.sm,rfl⟩,rfl,rfl,(H.S.step B2).kept K (by omega),H.lc⟩,rfl,rfl,S2⟩
theorem a6{c2:Nat}(H:Vp h0 82 2 X L D N cc xs kz b c c2 s ok T w):c6.wp Tryz.prog (fun e t u=>t.defers=[]/\(e=.normal/\(Vo h0 82 2 X L D N cc xs kz b c s ok t.tmps u/\ok=true)\/e=.ret/\t.tmps.getD 4 undef=.bool true)) ⟨T,[]⟩ w:=by
 obtain⟨J,rfl⟩:∃ J,T=TV J:=⟨_,tv_of H.size⟩;have jx:J 1=X:=H.x1;have j3:J 5=AA b:=H.t3;have j4:J 6=.slice D N cc:=H.t4;have j5:J 7=.int .i64 kz:=H.t5;have j6:J 8=AA c:=H.t6;have j7:J 9=.bool ok:=H.t7;have j8:J 10=AA c2:=H.t8;have j9:J 11=.bool ok:=H.t9;rw[show c6=.seq (.region 6 _ false) (.cond (.tmp 52) (.seq (.region 7 _ false) .ret) .skip) from rfl];have hneq:=fun W=>Jh s.k s.ax s.ay s.fx s.fy s.u s.g s.d s.o W;have heq:=fun W=>HT s.k s.ax s.ay s.fx s.fy s.u s.g s.d s.o W;have hgd:=Er;go_upto_region 6 with fail;refine wp_region_lit ?_;cases ok
 . iterate 12 go_step
   refine Az (by simp[Region.wanted,yielded,Act.put]) 34 (.tmp 8) rfl c rfl (svs s) H.S Tryz.underlying34 rfl Ae ?_;refine Az (by simp[Region.wanted,yielded,Act.put]) 34 (.tmp 10) rfl c2 rfl (svs s) H.S2 Tryz.underlying34 rfl Ae ?_;go_upto_region 7 with fail;refine wp_region_lit ?_
   iterate 12 go_step
   refine Az (by simp[Region.wanted,yielded,Act.put]) 34 (.tmp 8) rfl c rfl (svs s) H.S Tryz.underlying34 rfl Ae ?_;refine Az (by simp[Region.wanted,yielded,Act.put]) 34 (.tmp 10) rfl c2 rfl (svs s) H.S2 Tryz.underlying34 rfl Ae ?_;go_wp;exact⟨rfl,.inr ⟨rfl,rfl⟩⟩
 . iterate 12 go_step
   refine Az (by simp[Region.wanted,yielded,Act.put]) 34 (.tmp 8) rfl c rfl (svs s) H.S Tryz.underlying34 rfl Ae ?_;refine Az (by simp[Region.wanted,yielded,Act.put]) 34 (.tmp 10) rfl c2 rfl (svs s) H.S2 Tryz.underlying34 rfl Ae ?_;go_wp;exact⟨rfl,.inl ⟨rfl,⟨⟨rfl,rfl,rfl,rfl,H.P,H.rd,H.lo,H.hp,H.lb,H.bp,H.bd,H.sm,rfl⟩,rfl,rfl,H.S,H.lc⟩,rfl⟩⟩
theorem o8:∀ i∈[0,1],∀ o,(cO c8)[i]?=some o->OpOk XR gR o.op:=Bz (by kernel_rfl)
theorem o8b:∀ i∈[3],∀ o,(cO c8)[i]?=some o->OpOk XR gR o.op:=Bz (by kernel_rfl)
theorem a8(H:Vo h0 82 2 X L D N cc xs kz b c s ok T w):wpOps Tryz.prog (cO c8) (fun e t u=>e=.normal/\t.defers=[]/\(Vo h0 82 2 X L D N cc xs kz b c s ok t.tmps u/\t.tmps.getD 61 undef=L.val/\t.tmps.getD 62 undef=.slice D N cc)) [0,1] ⟨T,[]⟩ w:=by
 obtain⟨J,rfl⟩:∃ J,T=TV J:=⟨_,tv_of H.size⟩;have j3:J 5=AA b:=H.t3;have j4:J 6=.slice D N cc:=H.t4;have j5:J 7=.int .i64 kz:=H.t5;have j6:J 8=AA c:=H.t6;have jx:J 1=X:=H.x1;have j7:J 9=.bool ok:=H.t7;have e:cO c8=#[_,_,_,_]:=rfl;rw[Ah (os:=[_,_]) rfl];simp only[e,List.getElem_toArray,List.getElem_cons_zero,List.getElem_cons_succ];refine Af rfl 29 (.tmp 5) rfl b j3 L.cs H.P Tryz.underlying29 rfl Ad ?_;go_wp;exact⟨rfl,rfl,⟨⟨rfl,rfl,rfl,rfl,H.P,H.rd,H.lo,H.hp,H.lb,H.bp,H.bd,H.sm,rfl⟩,rfl,rfl,H.S,H.lc⟩,rfl,rfl⟩
theorem a8b{g m c2:Nat}{ps:List Pt}(H:Vo h0 82 2 X L D N cc xs kz b c s ok T w)(hs:T.getD 63 undef=.slice (some ⟨g,0,none⟩) m c2)(Y:Points w (some ⟨g,0,none⟩) m ps):wpOps Tryz.prog (cO c8) (fun e t u=>e=.normal/\t.defers=[]/\(Vq h0 X L D N cc xs kz b c s ok g m c2 ps t.tmps u)) [3] ⟨T,[]⟩ w:=by
 obtain⟨J,rfl⟩:∃ J,T=TV J:=⟨_,tv_of H.size⟩;have j3:J 5=AA b:=H.t3;have j4:J 6=.slice D N cc:=H.t4;have j5:J 7=.int .i64 kz:=H.t5;have j6:J 8=AA c:=H.t6;have jx:J 1=X:=H.x1;have j7:J 9=.bool ok:=H.t7;have js:J 63=.slice (some ⟨g,0,none⟩) m c2:=hs;have e:cO c8=#[_,_,_,_]:=rfl;rw[Ah (os:=[_]) rfl];simp only[e,List.getElem_toArray,List.getElem_cons_zero,List.getElem_cons_succ];go_wp;exact⟨rfl,rfl,⟨⟨rfl,rfl,rfl,rfl,H.P,H.rd,H.lo,H.hp,H.lb,H.bp,H.bd,H.sm,rfl⟩,rfl,rfl,H.S,H.lc⟩,rfl,Y⟩
theorem aE{g m c2:Nat}{ps:List Pt}{k:Nat}(H:Vq h0 (.slice a' len' cap') L D N cc xs (k:Int) b c s ok g m c2 ps T w)(hk:k<m)(hm:m<=1000)(hp:ps.getD k pz=DI s):cE.wp Tryz.prog (fun e t u=>t.defers=[]/\(e=.normal/\False\/e=.ret/\t.tmps.getD 4 undef=.bool true)) ⟨T,[]⟩ w:=by
 obtain⟨J,rfl⟩:∃ J,T=TV J:=⟨_,tv_of H.size⟩;have j3:J 5=AA b:=H.t3;have j4:J 6=.slice D N cc:=H.t4;have j5:J 7=.int .i64 (k:Int):=H.t5;have j6:J 8=AA c:=H.t6;have jx:J 1=.slice a' len' cap':=H.x1;have j7:J 9=.bool ok:=H.t7;have j12:J 12=.slice (some ⟨g,0,none⟩) m c2:=H.t12;have g1:decide ((k:Int)<(m:Int))=true:=decide_eq_true (by omega);have g2:decide (k<m)=true:=decide_eq_true hk;obtain⟨b',off,e,hb,hc⟩:=H.Y.2 (by omega);cases e
 have q:=hc k hk;rw[hp] at q;have q0:=q.c0;have q1:=q.c1;simp only[DI,Nat.zero_add] at q0 q1;have s1:=H.S.cell 1 _ rfl;have s2:=H.S.cell 2 _ rfl;have sl:=H.S.lt;have heq:=fun W=>Gd s.ax s.ay s.ax s.ay W;have hgd:=Da;rw[show cE=.seq (.region 9 _ true) .ret from rfl];clear H;go_upto_region 9 with fail
 go_region_held3 (fun w'=>(w'.cell? ⟨g,k*2,none⟩=some (.int .i64 s.ax)/\w'.cell? ⟨g,k*2+1,none⟩=some (.int .i64 s.ay))/\(w'.cell? ⟨c,1,none⟩=some (.int .i64 s.ax)/\w'.cell? ⟨c,2,none⟩=some (.int .i64 s.ay)))
  (exact⟨⟨q0,q1⟩,s1,s2⟩)
  (fail)
 all_goals
  go_wp;exact⟨rfl,.inr ⟨rfl,rfl⟩⟩
end
theorem way(a:Option Addr)(len cap:Nat)(zs:List Int)(a':Option Addr)(len' cap':Nat)(W:World)(hr:IsRow .u8 W a len cap zs)(ca:Cel W a)(ca':Cel W a')(hq:Quarter W)(hG:XR.G<=W.heap.size):Ren.Way PP (Lx W) (Bb (Frame.enter PP fV #[.slice a len cap,.slice a' len' cap'] .normal) []) W:=by
 refine Ren.Way.of_co (W:=W) (RO:=Lt W.heap.size) (O:=fun _=>False) ?_ (Ren.Alike.refl W) (fun j hj=>hj);have ha:ArrR XR.L (vr W W.heap.size) (#[.slice a len cap,.slice a' len' cap']++Array.replicate 80 undef) (#[.slice a len cap,.slice a' len' cap']++Array.replicate 80 undef) :=
  ((ArrR.one (Br ca)).append (ArrR.one (Br ca'))).append (.replicate _ (.tuple rfl fun i x y h=>by simp at h))
 have h:Sit XR gR W.heap.size (vr W W.heap.size) (fun _=>False) (fun j=>W.heap[j]?) (fun T u=>T=#[.slice a len cap,.slice a' len' cap']++Array.replicate 80 undef/\(IsRow .u8 u a len cap zs/\Quarter u)/\Hp (vh W W.heap.size) u) (#[.slice a len cap,.slice a' len' cap']++Array.replicate 80 undef) (fun _=>False) W :=
  Sit.start (Nat.le_refl _) hG (CS hq fun _ _=>rfl) (fun j h=>h.elim) ha ha (fun _ _=>rfl) (fun u hu=>⟨rfl,⟨hr.veil ca (Hp.refl hu),hq.veil (Hp.refl hu)⟩,Hp.refl hu⟩)
 rw[Ds fV_at (c:=kB) rfl,kB_eq];refine h.ctl rfl (fun w1=>AF) ?_;refine h.wp AJ AK Av (fun T u u' x e=>⟨x.1,⟨x.2.1.1.same e,x.2.1.2.same e⟩,x.2.2.same e⟩) nn (Am fV_at) k0 (Q1:=Za (vh W W.heap.size) 82 (.slice a' len' cap') a len cap zs) (fun T u x=>?_) fun T1 O1 y1 h1=>?_
 . rw[x.1,tv_args];exact a0 (J:=fun z=>match z with | 0=>.slice a len cap | 1=>.slice a' len' cap' | _=>undef) rfl rfl x.2.1.1 x.2.1.2 x.2.2
 refine h1.ctl rfl (fun w1=>AF) ?_;refine h1.wp2 AJ AK Av Za.hpo nn (Am fV_at) kX (Q1:=Za (vh W W.heap.size) 82 (.slice a' len' cap') a len cap zs) (Q2:=fun T u=>T.getD 4 undef=.bool true) (fun T u x=>aX x) (fun T2 O2 y2 h2=>?_) (fun k T2 O2 y2 h2=>h2.done (fun _ _=>rfl) fV_at (by kernel_rfl) (by rfl) fun T u x=>x);refine h2.ctl rfl (fun w1=>AF) ?_;refine h2.wp AJ AK Av Za.hpo nn (Am fV_at) k3 (Q1:=fun T u=>∃ L D N cc xs kz b,Vh (vh W W.heap.size) 82 2 (.slice a' len' cap') L D N cc xs kz b T u) (fun T u x=>a3 x) fun T3 O3 y3 h3=>?_;obtain⟨L,h3⟩:=h3.split;obtain⟨D,h3⟩:=h3.split;obtain⟨N,h3⟩:=h3.split
 obtain⟨cc,h3⟩:=h3.split;obtain⟨xs,h3⟩:=h3.split;obtain⟨kz,h3⟩:=h3.split;obtain⟨b,h3⟩:=h3.split;refine h3.ctl rfl (fun w1=>AF) ?_;refine h3.ctl rfl (fun w1=>by rw[show c4=.region 4 (cO c4) false from rfl]; exact Ba) ?_;refine h3.ops (l1:=[0,1,2]) (l2:=[3,4,5,6,7,8,9]) AJ AK Av Vh.hpo nn (Am fV_at) o4 (Q1:=fun T u=>Vh (vh W W.heap.size) 82 2 (.slice a' len' cap') L D N cc xs kz b T u/\T.getD 28 undef=L.val/\T.getD 29 undef=.slice D N cc/\T.getD 30 undef=.int .i64 kz) (fun T u x=>a4 x) fun T4 O4 y4 h4=>?_;have hz:=h4.slot (i:=30) (.int .i64 kz) fun T u x=>x.2.2.2
 refine h4.runTo hG (i:=3) (l:=[4,5,6,7,8,9]) (d:=31) (z:=.tmp 30) (k0:=kz) (L:=L) (A:=D) (n:=N) (cap:=cc) (xs:=xs) rfl rfl rfl rfl (by exact hz) (fun T u x=>⟨⟨x.2.1,x.2.2.1⟩,x.1.rd⟩) fun B2 y5 hB h5=>?_
 refine Sit.ops (l1:=[4,5,6,7,8,9]) (l2:=[]) (h5.mono (Q1:=fun T u=>Vh (vh W W.heap.size) 82 2 (.slice a' len' cap') L D N cc xs kz b T u/\T.getD 31 undef=.tuple #[sva (L.fin xs N kz),.bool (B8 L xs N kz)]) fun T u ⟨T0,x,e⟩=>?_) AJ AK Av (fun T u u' x e=>⟨Vh.hpo T u u' x.1 e,x.2⟩) nn (Am fV_at) o4b (Q1:=fun T u=>∃ c,Vo (vh W W.heap.size) 82 2 (.slice a' len' cap') L D N cc xs kz b c (L.fin xs N kz) (B8 L xs N kz) T u) (fun T u x=>a5 x.1 x.2) fun T6 O6 y6 h6=>?_
 . subst e;exact⟨⟨size_put.trans x.1.size,(Aj (by omega)).trans x.1.t3,(Aj (by omega)).trans x.1.t4,(Aj (by omega)).trans x.1.t5,x.1.P,x.1.rd,x.1.lo,x.1.hp,x.1.lb,x.1.bp,x.1.bd,x.1.sm,(Aj (by omega)).trans x.1.x1⟩,A8 (by rw[x.1.size]; omega)⟩
 obtain⟨c,h6⟩:=h6.split;refine h6.ctl rfl (fun w1=>BG) ?_;rw[kR_eq];refine h6.ctl rfl (fun w1=>AF) ?_;refine h6.wp AJ AK Av Vo.hpo nn (Am fV_at) k5 (Q1:=fun T u=>∃ c2,Vp (vh W W.heap.size) 82 2 (.slice a' len' cap') L D N cc xs kz b c c2 (L.fin xs N kz) (B8 L xs N kz) T u) (fun T u x=>a5w x) fun T7 O7 y7 h7=>?_;obtain⟨c2,h7⟩:=h7.split;refine h7.ctl rfl (fun w1=>AF) ?_
 refine h7.wp2 AJ AK Av Vp.hpo nn (Am fV_at) k6 (Q1:=fun T u=>Vo (vh W W.heap.size) 82 2 (.slice a' len' cap') L D N cc xs kz b c (L.fin xs N kz) (B8 L xs N kz) T u/\B8 L xs N kz=true) (Q2:=fun T u=>T.getD 4 undef=.bool true) (fun T u x=>a6 x) (fun T8 O8 y8 h8=>?_) (fun k T8 O8 y8 h8=>h8.done (fun j hj=>hB j hj) fV_at (by kernel_rfl) (by rfl) fun T u x=>x);refine h8.ctl rfl (fun w1=>AF) ?_;have hx:=h8.fact fun T u x=>(⟨x.1.rd.ins.1,x.2,x.1.sm⟩:xs.length=N/\B8 L xs N kz=true/\N<=63);obtain⟨⟨hk0,hk1⟩,_,_⟩:=BZ.1 hx.2.1;obtain⟨k,rfl⟩:=Int.eq_ofNat_of_zero_le hk0;have hkN:k<=N:=by omega
 have hf:=LC hx.2.1;refine h8.ctl rfl (fun w1=>by rw[show c8=.region 8 (cO c8) false from rfl]; exact Ba) ?_;refine h8.ops (l1:=[0,1]) (l2:=[2,3]) AJ AK Av (fun T u u' x e=>⟨Vo.hpo T u u' x.1 e,x.2⟩) nn (Am fV_at) o8 (Q1:=fun T u=>Vo (vh W W.heap.size) 82 2 (.slice a' len' cap') L D N cc xs (k:Int) b c (L.fin xs N (k:Int)) (B8 L xs N (k:Int)) T u/\T.getD 61 undef=L.val/\T.getD 62 undef=.slice D N cc) (fun T u x=>a8 x.1) fun T9 O9 y9 h9=>?_;refine h9.runPath hG (i:=2) (l:=[3]) (d:=63) (L:=L) (A:=D) (n:=N) (cap:=cc) (xs:=xs) rfl rfl rfl rfl (fun T u x=>⟨x.2,x.1.rd⟩) (by omega) fun c2 B4 y10 j O10 hcap hB4 h10=>?_
 have h11:=h10.mono (Q1:=fun T u=>∃ g,(Vo (vh W W.heap.size) 82 2 (.slice a' len' cap') L D N cc xs (k:Int) b c (L.fin xs N (k:Int)) (B8 L xs N (k:Int)) T u/\T.getD 63 undef=.slice (some ⟨g,0,none⟩) (path.sts L xs N).length c2)/\Points u (some ⟨g,0,none⟩) (path.sts L xs N).length ((path.sts L xs N).map DI)) fun T u ⟨T0,u0,x,e1,e2⟩=>by
  subst e1 e2;exact x.1.path (by omega) (by omega) (path.sts L xs N) c2 24
 obtain⟨g,h11⟩:=h11.split;refine Sit.ops (l1:=[3]) (l2:=[]) h11 AJ AK Av (fun T u u' x e=>⟨⟨Vo.hpo T u u' x.1.1 e,x.1.2⟩,x.2.same e⟩) nn (Am fV_at) o8b (Q1:=Vq (vh W W.heap.size) (.slice a' len' cap') L D N cc xs (k:Int) b c (L.fin xs N (k:Int)) (B8 L xs N (k:Int)) g (path.sts L xs N).length c2 ((path.sts L xs N).map DI)) (fun T u x=>a8b x.1.1 x.1.2 x.2) fun T12 O12 y12 h12=>?_;refine h12.ctl rfl (fun w1=>BG) ?_
 exact h12.wp2 AJ AK Av Vq.hpo nn (Am fV_at) kE (Q1:=fun _ _=>False) (Q2:=fun T u=>T.getD 4 undef=.bool true) (fun T u x=>aE x (by rw[path.sts_len hx.1 hf]; omega) (by rw[path.sts_len hx.1 hf]; omega) (by rw[path.sts_at hx.1 hf hkN,fin_at hx.2.1])) (fun T7 O7 y7 h7=>h7.fact fun _ _ x=>x.elim) (fun k T7 O7 y7 h7=>h7.done (fun j hj=>(hB4 j hj).trans (hB j hj)) fV_at (by kernel_rfl) (by rfl) fun T u x=>x)
end Go.Proofs.YtaemcekcancpdaaGreatDoor.fnRunPathW
