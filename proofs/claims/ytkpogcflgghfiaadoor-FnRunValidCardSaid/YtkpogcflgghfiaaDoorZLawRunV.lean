import Derived.Test.YtkpogcflgghfiaaDoorZDrawTo
set_option linter.all false
set_option maxRecDepth 100000
set_option maxHeartbeats 8000000
open Go.Lib
namespace Go.Proofs.YtkpogcflgghfiaaDoor.fnRunValidW
open Go.RowKit
open M
open Ren
open Go.Conc
noncomputable abbrev kB:Code:=Fs Tryd.f4
noncomputable def c0:Code:=cA kB
noncomputable def cX:Code:=cA (cB kB)
noncomputable def c3:Code:=cA (cB (cB kB))
noncomputable def c4:Code:=cA (cB (cB (cB kB)))
noncomputable def cR:Code:=cB (cB (cB (cB kB)))
theorem kB_eq:kB=.seq c0 (.seq cX (.seq c3 (.seq c4 cR))):=rfl
abbrev fV:FuncId:=4
theorem fV_at:PP.funcs[fV]?=some Tryd.f4:=Tryd.func4
theorem k0:XR.C c0:=by show AN PP C9 Do c0=true; kernel_rfl
theorem kX:XR.C cX:=by show AN PP C9 Do cX=true; kernel_rfl
theorem k3:XR.C c3:=by show AN PP C9 Do c3=true; kernel_rfl
theorem o4:∀ i∈[0,1,2],∀ o,(cO c4)[i]?=some o→OpOk XR gR o.op:=Cf (by kernel_rfl)
theorem o4b:∀ i∈[4,5,6,7,8,9],∀ o,(cO c4)[i]?=some o→OpOk XR gR o.op:=Cf (by kernel_rfl)
abbrev TV (J:Nat→Value):Array Value:=#[J 0,J 1,J 2,J 3,J 4,J 5,J 6,J 7,J 8,J 9,J 10,J 11,J 12,J 13,J 14,J 15,J 16,J 17,J 18,J 19,J 20,J 21,J 22,J 23,J 24,J 25,J 26,J 27,J 28,J 29,J 30,J 31,J 32,J 33,J 34,J 35,J 36,J 37,J 38,J 39,J 40,J 41,J 42,J 43,J 44,J 45,J 46,J 47,J 48,J 49,J 50,J 51,J 52,J 53,J 54,J 55,J 56,J 57,J 58,J 59,J 60,J 61,J 62,J 63,J 64,J 65,J 66,J 67,J 68,J 69,J 70,J 71,J 72,J 73,J 74,J 75]
theorem tv_of {T:Array Value} (h:T.size=76):T=TV fun n=>T.getD n undef:=by
 refine Array.ext h fun i h1 h2=>?_;have e:∀ n (hn:n<T.size),T.getD n undef=T[n]:=fun n hn=>by simp [Array.getD,hn]
 simp only [TV];have:i<76:=h▸h1
 iterate 76 (rcases i with _ | i; · exact (e _ _).symm)
 omega
theorem tv_args (a:Value):#[a]++Array.replicate 75 undef=#[a,undef,undef,undef,undef,undef,undef,undef,undef,undef,undef,undef,undef,undef,undef,undef,undef,undef,undef,undef,undef,undef,undef,undef,undef,undef,undef,undef,undef,undef,undef,undef,undef,undef,undef,undef,undef,undef,undef,undef,undef,undef,undef,undef,undef,undef,undef,undef,undef,undef,undef,undef,undef,undef,undef,undef,undef,undef,undef,undef,undef,undef,undef,undef,undef,undef,undef,undef,undef,undef,undef,undef,undef,undef,undef,undef]:=by kernel_rfl
section
variable {h0:Array Obj} {a:Option Addr} {len cap:Nat} {zs:List Int} {T:Array Value} {w:World} {L:Lv} {D:Option Addr} {N cc:Nat} {xs:List In} {kz:Int} {b c:Nat} {s:St} {ok:Bool}
theorem a0 {J:Nat→Value} (j0:J 0=.slice a len cap) (hr:IsRow .u8 w a len cap zs) (hq:Quarter w) (hp:Hp h0 w):c0.wp Tryd.prog (fun e t u=>e=.normal∧t.defers=[]∧Za h0 76 a len cap zs t.tmps u) ⟨TV J,[]⟩ w:=by
 rw [show c0=.region 0 _ false from rfl];go_wp;exact ⟨rfl,rfl,rfl,rfl,hr,hq,hp⟩
theorem aX (H:Za h0 76 a len cap zs T w):cX.wp Tryd.prog (fun e t u=>t.defers=[]∧(e=.normal∧Za h0 76 a len cap zs t.tmps u∨e=.ret∧t.tmps.getD 2 undef=.bool true)) ⟨T,[]⟩ w:=by
 obtain ⟨J,rfl⟩:∃ J,T=TV J:=⟨_,tv_of H.size⟩;have j0:J 0=.slice a len cap:=H.t0;rw [show cX=.seq (.region 1 _ false) (.cond (.tmp 12) (.seq (.region 2 _ false) .ret) .skip) from rfl];by_cases g9:1048576<len
 · have g1:(1048576:Int)<(len:Int):=by omega
   go_wp;exact ⟨rfl,.inr ⟨rfl,rfl⟩⟩
 have g1:¬ (1048576:Int)<(len:Int):=by omega
 have g1d:decide ((1048576:Int)<(len:Int))=false:=decide_eq_false g1;have g2d:decide (1048576<len)=false:=decide_eq_false (by omega);go_wp;exact ⟨rfl,.inl ⟨rfl,rfl,rfl,H.row,H.q,H.hp⟩⟩
theorem a3 (H:Za h0 76 a len cap zs T w):c3.wp Tryd.prog (fun e t u=>e=.normal∧t.defers=[]∧∃ L D N cc xs kz b,Vh h0 76 0 L D N cc xs kz b t.tmps u) ⟨T,[]⟩ w:=by
 obtain ⟨J,rfl⟩:∃ J,T=TV J:=⟨_,tv_of H.size⟩;have j0:J 0=.slice a len cap:=H.t0;rw [show c3=.region 3 _ false from rfl];go_wp;refine (GQ a len cap zs w H.row).mono ?_;rintro e w1 ⟨i,t,x,y,A,n,c,G,m,kk,fp,fq,fs,fz,b,ws,gs,D,N,cc,xs,kz,rfl,⟨zA,zG,zD⟩,bd,hn,hm,hN,I,G1,Y,B⟩;dsimp only
 iterate 16 go_step
 refine Ah rfl 29 (.tmp 3) (.tmp 16) rfl w1.heap.size rfl (AV i t x y A n c G m kk fp fq fs fz b) rfl _ (CellsAt.new w1 _ [_,_,_,_,_,_,_,_,_,_,_] 29 rfl) (Nat.le_refl _) Ag rfl ?_;intro w2 K P;go_wp;have rd:Ready ⟨i,t,x,y,A,n,c,G,m,kk,fp,fq,fs,fz,b,ws,gs⟩ D N cc xs w1:=⟨⟨I,G1,by show n≤_; omega,by show m≤_; omega,I.cel zA,G1.cel zG⟩,Y,zD,by omega,hN.2,H.q.step B⟩;have B2:=Aa (Ac w1) (.cells #[.int .i64 0,.int .i64 0,.int .i64 0,.int .i64 0,.slice none 0 0,.slice none 0 0,.int .i64 0,.int .i64 0,.int .i64 0,.int .i64 0,.int .i64 0] 29);have h1:=H.hp.size;have h2:=B.size;have h3:=H.q.lt
 exact ⟨rfl,rfl,⟨i,t,x,y,A,n,c,G,m,kk,fp,fq,fs,fz,b,ws,gs⟩,D,N,cc,xs,kz,w1.heap.size,rfl,rfl,rfl,rfl,P,(rd.step B2).keep rd.low K (Nat.le_refl _) (by omega),rd.low,((H.hp.step B).step B2).kept K (by omega),by omega,by omega,bd,hN.1⟩
theorem a4 (H:Vh h0 76 0 L D N cc xs kz b T w):wpOps Tryd.prog (cO c4) (fun e t u=>e=.normal∧t.defers=[]∧(Vh h0 76 0 L D N cc xs kz b t.tmps u∧t.tmps.getD 20 undef=L.val∧t.tmps.getD 21 undef=.slice D N cc∧t.tmps.getD 22 undef=.int .i64 kz)) [0,1,2] ⟨T,[]⟩ w:=by
 obtain ⟨J,rfl⟩:∃ J,T=TV J:=⟨_,tv_of H.size⟩;have j3:J 3=AE b:=H.t3;have j4:J 4=.slice D N cc:=H.t4;have j5:J 5=.int .i64 kz:=H.t5;have e:cO c4=#[_,_,_,_,_,_,_,_,_,_]:=rfl;rw [AC (os:=[_,_,_]) rfl];simp only [e,List.getElem_toArray,List.getElem_cons_zero,List.getElem_cons_succ];refine Af rfl 29 (.tmp 3) rfl b j3 L.cs H.P Tryd.underlying29 rfl Ag ?_;go_wp;exact ⟨rfl,rfl,⟨rfl,rfl,rfl,rfl,H.P,H.rd,H.lo,H.hp,H.lb,H.bp,H.bd,H.sm⟩,rfl,rfl,rfl⟩
theorem a5 (H:Vh h0 76 0 L D N cc xs kz b T w) (h23:T.getD 23 undef=.tuple #[sva s,.bool ok]):wpOps Tryd.prog (cO c4) (fun e t u=>e=.normal∧t.defers=[]∧∃ c,Vo h0 76 0 L D N cc xs kz b c s ok t.tmps u) [4,5,6,7,8,9] ⟨T,[]⟩ w:=by
 obtain ⟨J,rfl⟩:∃ J,T=TV J:=⟨_,tv_of H.size⟩;have j3:J 3=AE b:=H.t3;have j4:J 4=.slice D N cc:=H.t4;have j5:J 5=.int .i64 kz:=H.t5;have j23:J 23=.tuple #[sva s,.bool ok]:=h23;have e:cO c4=#[_,_,_,_,_,_,_,_,_,_]:=rfl;rw [AC (os:=[_,_,_,_,_,_]) rfl];simp only [e,List.getElem_toArray,List.getElem_cons_zero,List.getElem_cons_succ]
 iterate 12 go_step
 refine Ah rfl 34 (.tmp 6) (.tmp 24) rfl w.heap.size rfl (svs s) rfl _ (CellsAt.new w _ [_,_,_,_,_,_,_,_,_] 34 rfl) (Nat.le_refl _) Ad rfl ?_;intro w2 K S;go_wp;have B2:=Aa (Ac w) (.cells #[.int .i64 0,.int .i64 0,.int .i64 0,.int .i64 0,.int .i64 0,.int .i64 0,.int .i64 0,.bool false,.bool false] 34);have h1:=H.P.lt;have h2:=H.hp.size;exact ⟨rfl,rfl,w.heap.size,⟨rfl,rfl,rfl,rfl,(H.P.step B2).kept K (by omega),(H.rd.step B2).keep H.rd.low K (Nat.le_refl _) (by omega),H.lo,(H.hp.step B2).kept K (by omega),H.lb,H.bp,H.bd,H.sm⟩,rfl,rfl,S,h1⟩
theorem kR:XR.C cR:=by show AN PP C9 Do cR=true; kernel_rfl
theorem aR (H:Vo h0 76 0 L D N cc xs kz b c (L.fin xs N kz) (BV L xs N kz) T w):cR.wp Tryd.prog (fun e t u=>t.defers=[]∧(e=.normal∧False∨e=.ret∧t.tmps.getD 2 undef=.bool true)) ⟨T,[]⟩ w:=by
 obtain ⟨J,rfl⟩:∃ J,T=TV J:=⟨_,tv_of H.size⟩;have j3:J 3=AE b:=H.t3;have j4:J 4=.slice D N cc:=H.t4;have j5:J 5=.int .i64 kz:=H.t5;have j6:J 6=AE c:=H.t6;have j7:J 7=.bool (BV L xs N kz):=H.t7;rw [show cR=.seq (.region 5 _ false) (.seq (.seq (.region 6 _ false) (.cond (.tmp 44) (.seq (.region 7 _ false) .ret) .skip)) (.seq (.region 8 _ false) .ret)) from rfl];have C:=hid (Ha L D N cc xs kz w H.rd.lv.I H.rd.lv.J H.rd.lv.n H.rd.lv.m H.rd.ins (by have:=H.sm; omega));rw [Lv.ans_eq] at C;have hl:=H.rd.ins.1
 have hrun:BV L xs N kz=true→L.ev (L.fin xs N kz)=true∧((L.fin xs N kz).k=kz∨((L.fin xs N kz).k<kz∧((L.fin xs N kz).d||(L.fin xs N kz).o)=true)):=fun h=>by
  have:=LO hl h;rw [show L.fin xs N kz=L.run (xs.take kz.toNat) from by simp [Lv.fin,h]];exact this.2
 have S:=H.S;have P:=H.P;have lc:=H.lc;have sl:=S.lt;have rd:=H.rd;clear H;generalize L.fin xs N kz=s at *;generalize BV L xs N kz=ok at *;have hneq:=fun W=>EQ s.k s.ax s.ay s.fx s.fy s.u s.g s.d s.o W;have heq:=fun W=>DT s.k s.ax s.ay s.fx s.fy s.u s.g s.d s.o W;have hgd:=Ct;go_upto_region 5 with fail;refine wp_region_lit ?_;refine Af rfl 29 (.tmp 3) rfl b j3 L.cs P Tryd.underlying29 rfl Ag ?_;go_wp;refine C.out.mono ?_;rintro e w1 ⟨rfl,B⟩;dsimp only
 iterate 13 go_step
 have B2:=Aa B (.cells #[.int .i64 0,.int .i64 0,.int .i64 0,.int .i64 0,.int .i64 0,.int .i64 0,.int .i64 0,.bool false,.bool false] 34);have b1:=B.size;refine Ah rfl 34 (.tmp 8) (.tmp 31) rfl w1.heap.size rfl (svs s) rfl _ (CellsAt.new w1 _ [_,_,_,_,_,_,_,_,_] 34 rfl) (Nat.le_refl _) Ad rfl ?_;intro w2 K S2;replace S:=(S.step B2).kept K (by omega);replace P:=(P.step B2).kept K (by omega);replace rd:=(rd.step B2).keep rd.low K (by omega) (by omega);clear K B B2 C;go_upto_region 6 with fail;refine wp_region_lit ?_;cases ok
 · iterate 12 go_step
   refine Ar (by simp [Region.wanted,yielded,Act.put]) 34 (.tmp 6) rfl c rfl (svs s) S Tryd.underlying34 rfl Ad ?_;refine Ar (by simp [Region.wanted,yielded,Act.put]) 34 (.tmp 8) rfl w1.heap.size rfl (svs s) S2 Tryd.underlying34 rfl Ad ?_;go_upto_region 7 with fail;refine wp_region_lit ?_
   iterate 12 go_step
   refine Ar (by simp [Region.wanted,yielded,Act.put]) 34 (.tmp 6) rfl c rfl (svs s) S Tryd.underlying34 rfl Ad ?_;refine Ar (by simp [Region.wanted,yielded,Act.put]) 34 (.tmp 8) rfl w1.heap.size rfl (svs s) S2 Tryd.underlying34 rfl Ad ?_;go_wp;exact ⟨rfl,.inr ⟨rfl,rfl⟩⟩
 · obtain ⟨hev,hk⟩:=hrun rfl;have V:=hid (Hl L.i L.t L.x L.y L.A L.n L.c L.G L.m L.kk L.fp L.fq L.fs L.fz L.b L.ws L.gs s.k s.ax s.ay s.fx s.fy s.u s.g s.d s.o w2 rd.lv.I rd.lv.J rd.lv.n rd.lv.m);have hev':evB L.i L.t L.x L.y L.ws L.gs L.fp L.fq L.fs L.fz L.b s.k s.ax s.ay s.fx s.fy s.u s.g s.d s.o=true:=hev;rw [hev'] at V
   iterate 12 go_step
   refine Ar (by simp [Region.wanted,yielded,Act.put]) 34 (.tmp 6) rfl c rfl (svs s) S Tryd.underlying34 rfl Ad ?_;refine Ar (by simp [Region.wanted,yielded,Act.put]) 34 (.tmp 8) rfl w1.heap.size rfl (svs s) S2 Tryd.underlying34 rfl Ad ?_;go_upto_region 8 with fail;refine wp_region_lit ?_;refine Af rfl 29 (.tmp 3) rfl b rfl L.cs P Tryd.underlying29 rfl Ag ?_;refine Af rfl 34 (.tmp 6) rfl c rfl (svs s) S Tryd.underlying34 rfl Ad ?_;go_wp;refine V.out.mono ?_;rintro e w3 ⟨rfl,B⟩;have S3:=S.step B;have s0:=S3.cell 0 _ rfl;have s7:=S3.cell 7 _ rfl;have s8:=S3.cell 8 _ rfl;have sl3:=S3.lt
   rcases hk with hk | ⟨hk,hd⟩
   · rw [hk] at s0;go_wp2
   · have n1:(s.k==kz)=false:=beq_eq_false_iff_ne.2 (by omega);have n2:decide (s.k<kz)=true:=decide_eq_true hk;cases e1:s.d
     · rw [e1] at s7 hd;have e2:s.o=true:=by simpa using hd
       rw [e2] at s8;go_wp2
     · rw [e1] at s7;go_wp2
end
theorem way (a:Option Addr) (len cap:Nat) (zs:List Int) (W:World) (hr:IsRow .u8 W a len cap zs) (ca:Cel W a) (hq:Quarter W) (hG:XR.G≤W.heap.size):Ren.Way PP (PQ W) (Bp (Frame.enter PP fV #[.slice a len cap] .normal) []) W:=by
 refine Ren.Way.of_co (W:=W) (RO:=Lt W.heap.size) (O:=fun _=>False) ?_ (Ren.Alike.refl W) (fun j hj=>hj);have ha:ArrR XR.L (vr W W.heap.size) (#[.slice a len cap]++Array.replicate 75 undef) (#[.slice a len cap]++Array.replicate 75 undef) :=
  (ArrR.one (BQ ca)).append (.replicate _ (.tuple rfl fun i x y h=>by simp at h))
 have h:Sit XR gR W.heap.size (vr W W.heap.size) (fun _=>False) (fun j=>W.heap[j]?) (fun T u=>T=#[.slice a len cap]++Array.replicate 75 undef∧(IsRow .u8 u a len cap zs∧Quarter u)∧Hp (vh W W.heap.size) u) (#[.slice a len cap]++Array.replicate 75 undef) (fun _=>False) W :=
  Sit.start (Nat.le_refl _) hG (ER hq fun _ _=>rfl) (fun j h=>h.elim) ha ha (fun _ _=>rfl) (fun u hu=>⟨rfl,⟨hr.veil ca (Hp.refl hu),hq.veil (Hp.refl hu)⟩,Hp.refl hu⟩)
 rw [Ft fV_at (c:=kB) rfl,kB_eq];refine h.ctl rfl (fun w1=>AQ) ?_;refine h.wp Bc Bd AH (fun T u u' x e=>⟨x.1,⟨x.2.1.1.same e,x.2.1.2.same e⟩,x.2.2.same e⟩) nn (AB fV_at) k0 (Q1:=Za (vh W W.heap.size) 76 a len cap zs) (fun T u x=>?_) fun T1 O1 y1 h1=>?_
 · rw [x.1,tv_args];exact a0 (J:=fun z=>match z with | 0=>.slice a len cap | _=>undef) rfl x.2.1.1 x.2.1.2 x.2.2
 refine h1.ctl rfl (fun w1=>AQ) ?_;refine h1.wp2 Bc Bd AH Za.hpo nn (AB fV_at) kX (Q1:=Za (vh W W.heap.size) 76 a len cap zs) (Q2:=fun T u=>T.getD 2 undef=.bool true) (fun T u x=>aX x) (fun T2 O2 y2 h2=>?_) (fun k T2 O2 y2 h2=>h2.done (fun _ _=>rfl) fV_at (by kernel_rfl) (by rfl) fun T u x=>x);refine h2.ctl rfl (fun w1=>AQ) ?_;refine h2.wp Bc Bd AH Za.hpo nn (AB fV_at) k3 (Q1:=fun T u=>∃ L D N cc xs kz b,Vh (vh W W.heap.size) 76 0 L D N cc xs kz b T u) (fun T u x=>a3 x) fun T3 O3 y3 h3=>?_;obtain ⟨L,h3⟩:=h3.split;obtain ⟨D,h3⟩:=h3.split;obtain ⟨N,h3⟩:=h3.split;obtain ⟨cc,h3⟩:=h3.split;obtain ⟨xs,h3⟩:=h3.split
 obtain ⟨kz,h3⟩:=h3.split;obtain ⟨b,h3⟩:=h3.split;refine h3.ctl rfl (fun w1=>AQ) ?_;refine h3.ctl rfl (fun w1=>by rw [show c4=.region 4 (cO c4) false from rfl]; exact BC) ?_;refine h3.ops (l1:=[0,1,2]) (l2:=[3,4,5,6,7,8,9]) Bc Bd AH Vh.hpo nn (AB fV_at) o4 (Q1:=fun T u=>Vh (vh W W.heap.size) 76 0 L D N cc xs kz b T u∧T.getD 20 undef=L.val∧T.getD 21 undef=.slice D N cc∧T.getD 22 undef=.int .i64 kz) (fun T u x=>a4 x) fun T4 O4 y4 h4=>?_;have hz:=h4.slot (i:=22) (.int .i64 kz) fun T u x=>x.2.2.2
 refine h4.runTo hG (i:=3) (l:=[4,5,6,7,8,9]) (d:=23) (z:=.tmp 22) (k0:=kz) (L:=L) (A:=D) (n:=N) (cap:=cc) (xs:=xs) rfl rfl rfl rfl (by exact hz) (fun T u x=>⟨⟨x.2.1,x.2.2.1⟩,x.1.rd⟩) fun B2 y5 hB h5=>?_
 refine Sit.ops (l1:=[4,5,6,7,8,9]) (l2:=[]) (h5.mono (Q1:=fun T u=>Vh (vh W W.heap.size) 76 0 L D N cc xs kz b T u∧T.getD 23 undef=.tuple #[sva (L.fin xs N kz),.bool (BV L xs N kz)]) fun T u ⟨T0,x,e⟩=>?_) Bc Bd AH (fun T u u' x e=>⟨Vh.hpo T u u' x.1 e,x.2⟩) nn (AB fV_at) o4b (Q1:=fun T u=>∃ c,Vo (vh W W.heap.size) 76 0 L D N cc xs kz b c (L.fin xs N kz) (BV L xs N kz) T u) (fun T u x=>a5 x.1 x.2) fun T6 O6 y6 h6=>?_
 · subst e;exact ⟨⟨size_put.trans x.1.size,(Aw (by omega)).trans x.1.t3,(Aw (by omega)).trans x.1.t4,(Aw (by omega)).trans x.1.t5,x.1.P,x.1.rd,x.1.lo,x.1.hp,x.1.lb,x.1.bp,x.1.bd,x.1.sm⟩,Ce (by rw [x.1.size]; omega)⟩
 obtain ⟨c,h6⟩:=h6.split;refine h6.ctl rfl (fun w1=>Cj) ?_;exact h6.wp2 Bc Bd AH Vo.hpo nn (AB fV_at) kR (Q1:=fun _ _=>False) (Q2:=fun T u=>T.getD 2 undef=.bool true) (fun T u x=>aR x) (fun T7 O7 y7 h7=>h7.fact fun _ _ x=>x.elim) (fun k T7 O7 y7 h7=>h7.done (fun j hj=>hB j hj) fV_at (by kernel_rfl) (by rfl) fun T u x=>x)
end Go.Proofs.YtkpogcflgghfiaaDoor.fnRunValidW
