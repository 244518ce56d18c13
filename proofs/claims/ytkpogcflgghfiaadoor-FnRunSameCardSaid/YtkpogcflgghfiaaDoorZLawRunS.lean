import Derived.Test.YtkpogcflgghfiaaDoorZDrawTo
set_option linter.all false
set_option maxRecDepth 100000
set_option maxHeartbeats 8000000
open Go.Lib
namespace Go.Proofs.YtkpogcflgghfiaaDoor.fnRunSameW
open Go.RowKit
open M
open Ren
open Go.Conc
noncomputable abbrev kB:Code:=Fs Tryd.f5
noncomputable def c0:Code:=cA kB
noncomputable def cX:Code:=cA (cB kB)
noncomputable def c3:Code:=cA (cB (cB kB))
noncomputable def c4:Code:=cA (cB (cB (cB kB)))
noncomputable def cR:Code:=cB (cB (cB (cB kB)))
theorem kB_eq:kB=.seq c0 (.seq cX (.seq c3 (.seq c4 cR))):=rfl
abbrev fV:FuncId:=5
theorem fV_at:PP.funcs[fV]?=some Tryd.f5:=Tryd.func5
theorem k0:XR.C c0:=by show AN PP C9 Do c0=true; kernel_rfl
theorem kX:XR.C cX:=by show AN PP C9 Do cX=true; kernel_rfl
theorem k3:XR.C c3:=by show AN PP C9 Do c3=true; kernel_rfl
theorem o4:∀ i∈[0,1,2],∀ o,(cO c4)[i]?=some o→OpOk XR gR o.op:=Cf (by kernel_rfl)
theorem o4b:∀ i∈[4,5,6,7,8,9],∀ o,(cO c4)[i]?=some o→OpOk XR gR o.op:=Cf (by kernel_rfl)
abbrev TV (J:Nat→Value):Array Value:=#[J 0,J 1,J 2,J 3,J 4,J 5,J 6,J 7,J 8,J 9,J 10,J 11,J 12,J 13,J 14,J 15,J 16,J 17,J 18,J 19,J 20,J 21,J 22,J 23,J 24,J 25,J 26,J 27,J 28,J 29,J 30,J 31,J 32,J 33,J 34,J 35,J 36,J 37,J 38,J 39,J 40,J 41,J 42,J 43,J 44,J 45,J 46,J 47,J 48,J 49,J 50,J 51,J 52,J 53,J 54,J 55,J 56,J 57,J 58,J 59,J 60,J 61,J 62,J 63,J 64,J 65,J 66,J 67,J 68,J 69,J 70,J 71,J 72,J 73,J 74,J 75,J 76,J 77,J 78,J 79,J 80,J 81,J 82,J 83,J 84]
theorem tv_of {T:Array Value} (h:T.size=85):T=TV fun n=>T.getD n undef:=by
 refine Array.ext h fun i h1 h2=>?_;have e:∀ n (hn:n<T.size),T.getD n undef=T[n]:=fun n hn=>by simp [Array.getD,hn]
 simp only [TV];have:i<85:=h▸h1
 iterate 85 (rcases i with _ | i; · exact (e _ _).symm)
 omega
theorem tv_args (a a':Value):#[a,a']++Array.replicate 83 undef=#[a,a',undef,undef,undef,undef,undef,undef,undef,undef,undef,undef,undef,undef,undef,undef,undef,undef,undef,undef,undef,undef,undef,undef,undef,undef,undef,undef,undef,undef,undef,undef,undef,undef,undef,undef,undef,undef,undef,undef,undef,undef,undef,undef,undef,undef,undef,undef,undef,undef,undef,undef,undef,undef,undef,undef,undef,undef,undef,undef,undef,undef,undef,undef,undef,undef,undef,undef,undef,undef,undef,undef,undef,undef,undef,undef,undef,undef,undef,undef,undef,undef,undef,undef,undef]:=by kernel_rfl
structure Zb (h0:Array Obj) (sz:Nat) (a:Option Addr) (len cap:Nat) (zs:List Int) (a':Option Addr) (len' cap':Nat) (T:Array Value) (u:World):Prop extends Za h0 sz a len cap zs T u where
 t1:T.getD 1 undef=.slice a' len' cap'
theorem Zb.hpo {h0:Array Obj} {sz:Nat} {a a':Option Addr} {len cap len' cap':Nat} {zs:List Int}:Hpo (Zb h0 sz a len cap zs a' len' cap'):=fun _ _ _ h e=>{ h with row:=h.row.same e,q:=h.q.same e,hp:=h.hp.same e }
theorem QD {L:Lv} {xs:List In} {n:Nat} {k:Nat} {y:In} (hl:xs.length=n) (h:BV L xs n (k:Int)=true) (h2:BV L (xs.take k++[y]) (k+1) (k:Int)=true):L.fin (xs.take k++[y]) (k+1) (k:Int)=L.fin xs n (k:Int):=by
 obtain ⟨⟨_,hk⟩,_,_⟩:=ET.1 h;have e:(xs.take k++[y]).take k=xs.take k:=by
  rw [List.take_append_of_le_length (by rw [List.length_take]; omega),List.take_take,Nat.min_self]
 unfold Lv.fin;rw [if_pos h,if_pos h2]
 show L.run ((xs.take k++[y]).take k)=L.run (xs.take k)
 rw [e]
structure Vx (h0:Array Obj) (L:Lv) (D:Option Addr) (N cc:Nat) (xs:List In) (k0:Int) (b c:Nat) (s:St) (ok:Bool) (D2:Option Addr) (n2 c2:Nat) (ys:List In) (T:Array Value) (u:World):Prop extends Vo h0 85 2 L D N cc xs k0 b c s ok T u where
 t12:T.getD 12 undef=.slice D2 n2 c2
 rd2:Ready L D2 n2 c2 ys u
theorem Vx.hpo {h0:Array Obj} {L:Lv} {D D2:Option Addr} {N cc n2 c2:Nat} {xs ys:List In} {k0:Int} {b c:Nat} {s:St} {ok:Bool}:Hpo (Vx h0 L D N cc xs k0 b c s ok D2 n2 c2 ys):=fun _ _ _ h e=>{ h with P:=h.P.same e,rd:=h.rd.same e,hp:=h.hp.same e,S:=h.S.same e,rd2:=h.rd2.same e }
structure Vy (c c3:Nat) (s s3:St) (ok3:Bool) (T:Array Value) (u:World):Prop where
 size:T.size=85
 t8:T.getD 8 undef=AE c
 t13:T.getD 13 undef=AE c3
 t14:T.getD 14 undef=.bool ok3
 S:CellsAt u c (svs s)
 S3:CellsAt u c3 (svs s3)
theorem Vy.hpo {c c3:Nat} {s s3:St} {ok3:Bool}:Hpo (Vy c c3 s s3 ok3):=fun _ _ _ h e=>{ h with S:=h.S.same e,S3:=h.S3.same e }
section
variable {a':Option Addr} {len' cap':Nat} {h0:Array Obj} {a:Option Addr} {len cap:Nat} {zs:List Int} {T:Array Value} {w:World} {L:Lv} {D:Option Addr} {N cc:Nat} {xs:List In} {kz:Int} {b c:Nat} {s:St} {ok:Bool}
theorem a0 {J:Nat→Value} (j0:J 0=.slice a len cap) (j1:J 1=.slice a' len' cap') (hr:IsRow .u8 w a len cap zs) (hq:Quarter w) (hp:Hp h0 w):c0.wp Tryd.prog (fun e t u=>e=.normal∧t.defers=[]∧Zb h0 85 a len cap zs a' len' cap' t.tmps u) ⟨TV J,[]⟩ w:=by
 rw [show c0=.region 0 _ false from rfl];go_wp;exact ⟨rfl,rfl,⟨rfl,rfl,hr,hq,hp⟩,rfl⟩
theorem aX (H:Zb h0 85 a len cap zs a' len' cap' T w):cX.wp Tryd.prog (fun e t u=>t.defers=[]∧(e=.normal∧Za h0 85 a len cap zs t.tmps u∨e=.ret∧t.tmps.getD 4 undef=.bool true)) ⟨T,[]⟩ w:=by
 obtain ⟨J,rfl⟩:∃ J,T=TV J:=⟨_,tv_of H.size⟩;have j0:J 0=.slice a len cap:=H.t0;have j1:J 1=.slice a' len' cap':=H.t1;rw [show cX=.seq (.region 1 _ false) (.cond (.tmp 22) (.seq (.region 2 _ false) .ret) .skip) from rfl];by_cases g9:1048576<len
 · have g1:(1048576:Int)<(len:Int):=by omega
   have g1d:decide ((1048576:Int)<(len:Int))=true:=decide_eq_true g1;have g2d:decide (1048576<len)=true:=decide_eq_true (by omega);go_wp;exact ⟨rfl,.inr ⟨rfl,rfl⟩⟩
 have g1:¬ (1048576:Int)<(len:Int):=by omega
 have g1d:decide ((1048576:Int)<(len:Int))=false:=decide_eq_false g1;have g2d:decide (1048576<len)=false:=decide_eq_false (by omega);by_cases g9:1048576<len'
 · have g1':(1048576:Int)<(len':Int):=by omega
   have g3d:decide ((1048576:Int)<(len':Int))=true:=decide_eq_true g1';have g4d:decide (1048576<len')=true:=decide_eq_true (by omega);go_wp;exact ⟨rfl,.inr ⟨rfl,rfl⟩⟩
 have g1':¬ (1048576:Int)<(len':Int):=by omega
 have g3d:decide ((1048576:Int)<(len':Int))=false:=decide_eq_false g1';have g4d:decide (1048576<len')=false:=decide_eq_false (by omega);go_wp;exact ⟨rfl,.inl ⟨rfl,rfl,rfl,H.row,H.q,H.hp⟩⟩
theorem a3 (H:Za h0 85 a len cap zs T w):c3.wp Tryd.prog (fun e t u=>e=.normal∧t.defers=[]∧∃ L D N cc xs kz b,Vh h0 85 2 L D N cc xs kz b t.tmps u) ⟨T,[]⟩ w:=by
 obtain ⟨J,rfl⟩:∃ J,T=TV J:=⟨_,tv_of H.size⟩;have j0:J 0=.slice a len cap:=H.t0;rw [show c3=.region 3 _ false from rfl];go_wp;refine (GQ a len cap zs w H.row).mono ?_;rintro e w1 ⟨i,t,x,y,A,n,c,G,m,kk,fp,fq,fs,fz,b,ws,gs,D,N,cc,xs,kz,rfl,⟨zA,zG,zD⟩,bd,hn,hm,hN,I,G1,Y,B⟩;dsimp only
 iterate 16 go_step
 refine Ah rfl 29 (.tmp 5) (.tmp 26) rfl w1.heap.size rfl (AV i t x y A n c G m kk fp fq fs fz b) rfl _ (CellsAt.new w1 _ [_,_,_,_,_,_,_,_,_,_,_] 29 rfl) (Nat.le_refl _) Ag rfl ?_;intro w2 K P;go_wp;have rd:Ready ⟨i,t,x,y,A,n,c,G,m,kk,fp,fq,fs,fz,b,ws,gs⟩ D N cc xs w1:=⟨⟨I,G1,by show n≤_; omega,by show m≤_; omega,I.cel zA,G1.cel zG⟩,Y,zD,by omega,hN.2,H.q.step B⟩;have B2:=Aa (Ac w1) (.cells #[.int .i64 0,.int .i64 0,.int .i64 0,.int .i64 0,.slice none 0 0,.slice none 0 0,.int .i64 0,.int .i64 0,.int .i64 0,.int .i64 0,.int .i64 0] 29);have h1:=H.hp.size;have h2:=B.size;have h3:=H.q.lt
 exact ⟨rfl,rfl,⟨i,t,x,y,A,n,c,G,m,kk,fp,fq,fs,fz,b,ws,gs⟩,D,N,cc,xs,kz,w1.heap.size,rfl,rfl,rfl,rfl,P,(rd.step B2).keep rd.low K (Nat.le_refl _) (by omega),rd.low,((H.hp.step B).step B2).kept K (by omega),by omega,by omega,bd,hN.1⟩
theorem a4 (H:Vh h0 85 2 L D N cc xs kz b T w):wpOps Tryd.prog (cO c4) (fun e t u=>e=.normal∧t.defers=[]∧(Vh h0 85 2 L D N cc xs kz b t.tmps u∧t.tmps.getD 30 undef=L.val∧t.tmps.getD 31 undef=.slice D N cc∧t.tmps.getD 32 undef=.int .i64 kz)) [0,1,2] ⟨T,[]⟩ w:=by
 obtain ⟨J,rfl⟩:∃ J,T=TV J:=⟨_,tv_of H.size⟩;have j3:J 5=AE b:=H.t3;have j4:J 6=.slice D N cc:=H.t4;have j5:J 7=.int .i64 kz:=H.t5;have e:cO c4=#[_,_,_,_,_,_,_,_,_,_]:=rfl;rw [AC (os:=[_,_,_]) rfl];simp only [e,List.getElem_toArray,List.getElem_cons_zero,List.getElem_cons_succ];refine Af rfl 29 (.tmp 5) rfl b j3 L.cs H.P Tryd.underlying29 rfl Ag ?_;go_wp;exact ⟨rfl,rfl,⟨rfl,rfl,rfl,rfl,H.P,H.rd,H.lo,H.hp,H.lb,H.bp,H.bd,H.sm⟩,rfl,rfl,rfl⟩
theorem a5 (H:Vh h0 85 2 L D N cc xs kz b T w) (h23:T.getD 33 undef=.tuple #[sva s,.bool ok]):wpOps Tryd.prog (cO c4) (fun e t u=>e=.normal∧t.defers=[]∧∃ c,Vo h0 85 2 L D N cc xs kz b c s ok t.tmps u) [4,5,6,7,8,9] ⟨T,[]⟩ w:=by
 obtain ⟨J,rfl⟩:∃ J,T=TV J:=⟨_,tv_of H.size⟩;have j3:J 5=AE b:=H.t3;have j4:J 6=.slice D N cc:=H.t4;have j5:J 7=.int .i64 kz:=H.t5;have j23:J 33=.tuple #[sva s,.bool ok]:=h23;have e:cO c4=#[_,_,_,_,_,_,_,_,_,_]:=rfl;rw [AC (os:=[_,_,_,_,_,_]) rfl];simp only [e,List.getElem_toArray,List.getElem_cons_zero,List.getElem_cons_succ]
 iterate 12 go_step
 refine Ah rfl 34 (.tmp 8) (.tmp 34) rfl w.heap.size rfl (svs s) rfl _ (CellsAt.new w _ [_,_,_,_,_,_,_,_,_] 34 rfl) (Nat.le_refl _) Ad rfl ?_;intro w2 K S;go_wp;have B2:=Aa (Ac w) (.cells #[.int .i64 0,.int .i64 0,.int .i64 0,.int .i64 0,.int .i64 0,.int .i64 0,.int .i64 0,.bool false,.bool false] 34);have h1:=H.P.lt;have h2:=H.hp.size;exact ⟨rfl,rfl,w.heap.size,⟨rfl,rfl,rfl,rfl,(H.P.step B2).kept K (by omega),(H.rd.step B2).keep H.rd.low K (Nat.le_refl _) (by omega),H.lo,(H.hp.step B2).kept K (by omega),H.lb,H.bp,H.bd,H.sm⟩,rfl,rfl,S,h1⟩
noncomputable def c5:Code:=cA cR
noncomputable def c6:Code:=cA (cB cR)
noncomputable def c8:Code:=cA (cB (cB cR))
noncomputable def c9:Code:=cA (cB (cB (cB cR)))
noncomputable def cE:Code:=cB (cB (cB (cB cR)))
theorem kR_eq:cR=.seq c5 (.seq c6 (.seq c8 (.seq c9 cE))):=rfl
theorem k5:XR.C c5:=by show AN PP C9 Do c5=true; kernel_rfl
theorem k6:XR.C c6:=by show AN PP C9 Do c6=true; kernel_rfl
theorem kE:XR.C cE:=by show AN PP C9 Do cE=true; kernel_rfl
theorem a5w (H:Vo h0 85 2 L D N cc xs kz b c (L.fin xs N kz) (BV L xs N kz) T w):c5.wp Tryd.prog (fun e t u=>e=.normal∧t.defers=[]∧∃ c2,Vp h0 85 2 L D N cc xs kz b c c2 (L.fin xs N kz) (BV L xs N kz) t.tmps u) ⟨T,[]⟩ w:=by
 obtain ⟨J,rfl⟩:∃ J,T=TV J:=⟨_,tv_of H.size⟩;have j3:J 5=AE b:=H.t3;have j4:J 6=.slice D N cc:=H.t4;have j5:J 7=.int .i64 kz:=H.t5;have j6:J 8=AE c:=H.t6;have j7:J 9=.bool (BV L xs N kz):=H.t7;rw [show c5=.region 5 _ false from rfl];have C:=hid (Ha L D N cc xs kz w H.rd.lv.I H.rd.lv.J H.rd.lv.n H.rd.lv.m H.rd.ins (by have:=H.sm; omega));rw [Lv.ans_eq] at C;generalize L.fin xs N kz=s at *;generalize BV L xs N kz=ok at *;refine wp_region_lit ?_;refine Af rfl 29 (.tmp 5) rfl b j3 L.cs H.P Tryd.underlying29 rfl Ag ?_;go_wp;refine C.out.mono ?_;rintro e w1 ⟨rfl,B⟩;dsimp only
 iterate 13 go_step
 have B2:=Aa B (.cells #[.int .i64 0,.int .i64 0,.int .i64 0,.int .i64 0,.int .i64 0,.int .i64 0,.int .i64 0,.bool false,.bool false] 34);have b1:=B.size;have lc:=H.lc;have sl:=H.S.lt;have h2:=H.hp.size;refine Ah rfl 34 (.tmp 10) (.tmp 41) rfl w1.heap.size rfl (svs s) rfl _ (CellsAt.new w1 _ [_,_,_,_,_,_,_,_,_] 34 rfl) (Nat.le_refl _) Ad rfl ?_;intro w2 K S2;go_wp;exact ⟨rfl,rfl,w1.heap.size,⟨⟨rfl,rfl,rfl,rfl,(H.P.step B2).kept K (by omega),(H.rd.step B2).keep H.rd.low K (by omega) (by omega),H.lo,(H.hp.step B2).kept K (by omega),H.lb,H.bp,H.bd,H.sm⟩,rfl,rfl,(H.S.step B2).kept K (by omega),H.lc⟩,rfl,rfl,S2⟩
theorem a6 {c2:Nat} (H:Vp h0 85 2 L D N cc xs kz b c c2 s ok T w):c6.wp Tryd.prog (fun e t u=>t.defers=[]∧(e=.normal∧(Vo h0 85 2 L D N cc xs kz b c s ok t.tmps u∧ok=true)∨e=.ret∧t.tmps.getD 4 undef=.bool true)) ⟨T,[]⟩ w:=by
 obtain ⟨J,rfl⟩:∃ J,T=TV J:=⟨_,tv_of H.size⟩;have j3:J 5=AE b:=H.t3;have j4:J 6=.slice D N cc:=H.t4;have j5:J 7=.int .i64 kz:=H.t5;have j6:J 8=AE c:=H.t6;have j7:J 9=.bool ok:=H.t7;have j8:J 10=AE c2:=H.t8;have j9:J 11=.bool ok:=H.t9;rw [show c6=.seq (.region 6 _ false) (.cond (.tmp 54) (.seq (.region 7 _ false) .ret) .skip) from rfl];have hneq:=fun W=>EQ s.k s.ax s.ay s.fx s.fy s.u s.g s.d s.o W;have heq:=fun W=>DT s.k s.ax s.ay s.fx s.fy s.u s.g s.d s.o W;have hgd:=Ct;go_upto_region 6 with fail;refine wp_region_lit ?_;cases ok
 · iterate 12 go_step
   refine Ar (by simp [Region.wanted,yielded,Act.put]) 34 (.tmp 8) rfl c rfl (svs s) H.S Tryd.underlying34 rfl Ad ?_;refine Ar (by simp [Region.wanted,yielded,Act.put]) 34 (.tmp 10) rfl c2 rfl (svs s) H.S2 Tryd.underlying34 rfl Ad ?_;go_upto_region 7 with fail;refine wp_region_lit ?_
   iterate 12 go_step
   refine Ar (by simp [Region.wanted,yielded,Act.put]) 34 (.tmp 8) rfl c rfl (svs s) H.S Tryd.underlying34 rfl Ad ?_;refine Ar (by simp [Region.wanted,yielded,Act.put]) 34 (.tmp 10) rfl c2 rfl (svs s) H.S2 Tryd.underlying34 rfl Ad ?_;go_wp;exact ⟨rfl,.inr ⟨rfl,rfl⟩⟩
 · iterate 12 go_step
   refine Ar (by simp [Region.wanted,yielded,Act.put]) 34 (.tmp 8) rfl c rfl (svs s) H.S Tryd.underlying34 rfl Ad ?_;refine Ar (by simp [Region.wanted,yielded,Act.put]) 34 (.tmp 10) rfl c2 rfl (svs s) H.S2 Tryd.underlying34 rfl Ad ?_;go_wp;exact ⟨rfl,.inl ⟨rfl,⟨⟨rfl,rfl,rfl,rfl,H.P,H.rd,H.lo,H.hp,H.lb,H.bp,H.bd,H.sm⟩,rfl,rfl,H.S,H.lc⟩,rfl⟩⟩
theorem k8:XR.C c8:=by show AN PP C9 Do c8=true; kernel_rfl
theorem a8 {k:Nat} (H:Vo h0 85 2 L D N cc xs (k:Int) b c s ok T w) (hk:k≤N):c8.wp Tryd.prog (fun e t u=>e=.normal∧t.defers=[]∧∃ D2 c2,Vx h0 L D N cc xs (k:Int) b c s ok D2 (k+1) c2 (xs.take k++[iz]) t.tmps u) ⟨T,[]⟩ w:=by
 obtain ⟨J,rfl⟩:∃ J,T=TV J:=⟨_,tv_of H.size⟩;have j3:J 5=AE b:=H.t3;have j4:J 6=.slice D N cc:=H.t4;have j5:J 7=.int .i64 (k:Int):=H.t5;have j6:J 8=AE c:=H.t6;have j7:J 9=.bool ok:=H.t7;have hN:=H.sm;have hcap:=H.rd.room;have hcc:k≤cc:=by omega
 have O:=DX w w.heap.size w.heap.size rfl (Nat.le_refl _);have IK:=H.rd.ins.take hk;have B0:=Aa (Ac w) (.cells #[] 39);have lL:=H.rd.lv;have lb:=H.S.lt;have lc:=H.lc;have lh:=H.hp.size;rw [show c8=.region 8 _ false from rfl];go_upto_region 8 with fail;refine wp_region_lit ?_;go_wp2_with (at_builtin; refine CL _ rfl (.tmp 63) (.tmp 66) rfl w.heap.size (.slice (some ⟨w.heap.size,0,none⟩) 0 0) 0 [] rfl O D k cc (xs.take k) rfl (IK.alloc _) (by omega) (by simp) ?_);intro v1 w1 O1 G1 _;have B1:=B0.grown G1 B0.size (fun g e=>by simp [Value.ownBlock] at e; omega);clear G1 O
 iterate 6 go_step
 refine CL _ rfl (.tmp 67) (.tmp 69) rfl w.heap.size v1 k (xs.take k) rfl (O1.alloc _) (some ⟨w1.heap.size,0,none⟩) 1 1 [⟨0,0,false⟩] rfl (Inputs.one w1 w1.heap.size 0 0 false _ rfl) (by omega) (by have:=B1.size; simp; omega) ?_;intro v2 w2 O2 G2 _;have B2:=(Aa B1 (.cells #[.int .i64 0,.int .i64 0,.bool false] 39)).grown G2 (Aa B1 _).size (fun g e=>(O1.lt g e).1);obtain ⟨D2,c2,rfl,I2,M2⟩:=Inputs.of_own O2;go_wp
 exact ⟨rfl,rfl,D2,c2,⟨⟨rfl,rfl,rfl,rfl,H.P.step B2,H.rd.step B2,H.lo,H.hp.step B2,H.lb,H.bp,H.bd,H.sm⟩,rfl,rfl,H.S.step B2,H.lc⟩,rfl,⟨lL.I.step B2,lL.J.step B2,lL.n,lL.m,lL.ca.step B2,lL.cg.step B2⟩,I2,Cel.of_own O2,by omega,EH O2,H.rd.quarter.step B2⟩
theorem o9:∀ i∈[0,1,2],∀ o,(cO c9)[i]?=some o→OpOk XR gR o.op:=Cf (by kernel_rfl)
theorem o9b:∀ i∈[4,5,6,7,8,9],∀ o,(cO c9)[i]?=some o→OpOk XR gR o.op:=Cf (by kernel_rfl)
theorem a9 {D2:Option Addr} {n2 c2:Nat} {ys:List In} (H:Vx h0 L D N cc xs kz b c s ok D2 n2 c2 ys T w):wpOps Tryd.prog (cO c9) (fun e t u=>e=.normal∧t.defers=[]∧(Vx h0 L D N cc xs kz b c s ok D2 n2 c2 ys t.tmps u∧t.tmps.getD 72 undef=L.val∧t.tmps.getD 73 undef=.slice D2 n2 c2∧t.tmps.getD 74 undef=.int .i64 kz)) [0,1,2] ⟨T,[]⟩ w:=by
 obtain ⟨J,rfl⟩:∃ J,T=TV J:=⟨_,tv_of H.size⟩;have j3:J 5=AE b:=H.t3;have j4:J 6=.slice D N cc:=H.t4;have j5:J 7=.int .i64 kz:=H.t5;have j6:J 8=AE c:=H.t6;have j7:J 9=.bool ok:=H.t7;have j12:J 12=.slice D2 n2 c2:=H.t12;have e:cO c9=#[_,_,_,_,_,_,_,_,_,_]:=rfl;rw [AC (os:=[_,_,_]) rfl];simp only [e,List.getElem_toArray,List.getElem_cons_zero,List.getElem_cons_succ];refine Af rfl 29 (.tmp 5) rfl b j3 L.cs H.P Tryd.underlying29 rfl Ag ?_;go_wp;exact ⟨rfl,rfl,⟨⟨⟨rfl,rfl,rfl,rfl,H.P,H.rd,H.lo,H.hp,H.lb,H.bp,H.bd,H.sm⟩,rfl,rfl,H.S,H.lc⟩,rfl,H.rd2⟩,rfl,rfl,rfl⟩
theorem a9b {D2:Option Addr} {n2 c2:Nat} {ys:List In} {s2:St} {ok2:Bool} (H:Vx h0 L D N cc xs kz b c s ok D2 n2 c2 ys T w) (hs:T.getD 75 undef=.tuple #[sva s2,.bool ok2]):wpOps Tryd.prog (cO c9) (fun e t u=>e=.normal∧t.defers=[]∧∃ c3,Vy c c3 s s2 ok2 t.tmps u) [4,5,6,7,8,9] ⟨T,[]⟩ w:=by
 obtain ⟨J,rfl⟩:∃ J,T=TV J:=⟨_,tv_of H.size⟩;have j3:J 5=AE b:=H.t3;have j4:J 6=.slice D N cc:=H.t4;have j5:J 7=.int .i64 kz:=H.t5;have j6:J 8=AE c:=H.t6;have js:J 75=.tuple #[sva s2,.bool ok2]:=hs;have e:cO c9=#[_,_,_,_,_,_,_,_,_,_]:=rfl;rw [AC (os:=[_,_,_,_,_,_]) rfl];simp only [e,List.getElem_toArray,List.getElem_cons_zero,List.getElem_cons_succ]
 iterate 12 go_step
 have B2:=Aa (Ac w) (.cells #[.int .i64 0,.int .i64 0,.int .i64 0,.int .i64 0,.int .i64 0,.int .i64 0,.int .i64 0,.bool false,.bool false] 34);have h1:=H.S.lt;refine Ah rfl 34 (.tmp 13) (.tmp 76) rfl w.heap.size rfl (svs s2) rfl _ (CellsAt.new w _ [_,_,_,_,_,_,_,_,_] 34 rfl) (Nat.le_refl _) Ad rfl ?_;intro w2 K S2;go_wp;exact ⟨rfl,rfl,w.heap.size,rfl,rfl,rfl,rfl,(H.S.step B2).kept K (by omega),S2⟩
theorem aE {c3:Nat} {s3:St} {ok3:Bool} (H:Vy c c3 s s3 ok3 T w) (he:ok3=true→s3=s):cE.wp Tryd.prog (fun e t u=>t.defers=[]∧(e=.normal∧False∨e=.ret∧t.tmps.getD 4 undef=.bool true)) ⟨T,[]⟩ w:=by
 obtain ⟨J,rfl⟩:∃ J,T=TV J:=⟨_,tv_of H.size⟩;have j8:J 8=AE c:=H.t8;have j13:J 13=AE c3:=H.t13;have j14:J 14=.bool ok3:=H.t14;have heq:=fun W=>DT s.k s.ax s.ay s.fx s.fy s.u s.g s.d s.o W;have hgd:=Ct;rw [show cE=.seq (.region 10 _ false) .ret from rfl];go_upto_region 10 with fail;refine wp_region_lit ?_;cases ok3
 · go_wp;exact ⟨rfl,.inr ⟨rfl,rfl⟩⟩
 · obtain rfl:=he rfl
   iterate 9 go_step
   refine Ar (by simp [Region.wanted,yielded,Act.put]) 34 (.tmp 13) rfl c3 rfl (svs s3) H.S3 Tryd.underlying34 rfl Ad ?_;refine Ar (by simp [Region.wanted,yielded,Act.put]) 34 (.tmp 8) rfl c rfl (svs s3) H.S Tryd.underlying34 rfl Ad ?_;go_wp;exact ⟨rfl,.inr ⟨rfl,rfl⟩⟩
end
theorem way (a:Option Addr) (len cap:Nat) (zs:List Int) (a':Option Addr) (len' cap':Nat) (W:World) (hr:IsRow .u8 W a len cap zs) (ca:Cel W a) (ca':Cel W a') (hq:Quarter W) (hG:XR.G≤W.heap.size):Ren.Way PP (PQ W) (Bp (Frame.enter PP fV #[.slice a len cap,.slice a' len' cap'] .normal) []) W:=by
 refine Ren.Way.of_co (W:=W) (RO:=Lt W.heap.size) (O:=fun _=>False) ?_ (Ren.Alike.refl W) (fun j hj=>hj);have ha:ArrR XR.L (vr W W.heap.size) (#[.slice a len cap,.slice a' len' cap']++Array.replicate 83 undef) (#[.slice a len cap,.slice a' len' cap']++Array.replicate 83 undef) :=
  ((ArrR.one (BQ ca)).append (ArrR.one (BQ ca'))).append (.replicate _ (.tuple rfl fun i x y h=>by simp at h))
 have h:Sit XR gR W.heap.size (vr W W.heap.size) (fun _=>False) (fun j=>W.heap[j]?) (fun T u=>T=#[.slice a len cap,.slice a' len' cap']++Array.replicate 83 undef∧(IsRow .u8 u a len cap zs∧Quarter u)∧Hp (vh W W.heap.size) u) (#[.slice a len cap,.slice a' len' cap']++Array.replicate 83 undef) (fun _=>False) W :=
  Sit.start (Nat.le_refl _) hG (ER hq fun _ _=>rfl) (fun j h=>h.elim) ha ha (fun _ _=>rfl) (fun u hu=>⟨rfl,⟨hr.veil ca (Hp.refl hu),hq.veil (Hp.refl hu)⟩,Hp.refl hu⟩)
 rw [Ft fV_at (c:=kB) rfl,kB_eq];refine h.ctl rfl (fun w1=>AQ) ?_;refine h.wp Bc Bd AH (fun T u u' x e=>⟨x.1,⟨x.2.1.1.same e,x.2.1.2.same e⟩,x.2.2.same e⟩) nn (AB fV_at) k0 (Q1:=Zb (vh W W.heap.size) 85 a len cap zs a' len' cap') (fun T u x=>?_) fun T1 O1 y1 h1=>?_
 · rw [x.1,tv_args];exact a0 (J:=fun z=>match z with | 0=>.slice a len cap | 1=>.slice a' len' cap' | _=>undef) rfl rfl x.2.1.1 x.2.1.2 x.2.2
 refine h1.ctl rfl (fun w1=>AQ) ?_;refine h1.wp2 Bc Bd AH Zb.hpo nn (AB fV_at) kX (Q1:=Za (vh W W.heap.size) 85 a len cap zs) (Q2:=fun T u=>T.getD 4 undef=.bool true) (fun T u x=>aX x) (fun T2 O2 y2 h2=>?_) (fun k T2 O2 y2 h2=>h2.done (fun _ _=>rfl) fV_at (by kernel_rfl) (by rfl) fun T u x=>x);refine h2.ctl rfl (fun w1=>AQ) ?_;refine h2.wp Bc Bd AH Za.hpo nn (AB fV_at) k3 (Q1:=fun T u=>∃ L D N cc xs kz b,Vh (vh W W.heap.size) 85 2 L D N cc xs kz b T u) (fun T u x=>a3 x) fun T3 O3 y3 h3=>?_;obtain ⟨L,h3⟩:=h3.split;obtain ⟨D,h3⟩:=h3.split;obtain ⟨N,h3⟩:=h3.split;obtain ⟨cc,h3⟩:=h3.split;obtain ⟨xs,h3⟩:=h3.split
 obtain ⟨kz,h3⟩:=h3.split;obtain ⟨b,h3⟩:=h3.split;refine h3.ctl rfl (fun w1=>AQ) ?_;refine h3.ctl rfl (fun w1=>by rw [show c4=.region 4 (cO c4) false from rfl]; exact BC) ?_;refine h3.ops (l1:=[0,1,2]) (l2:=[3,4,5,6,7,8,9]) Bc Bd AH Vh.hpo nn (AB fV_at) o4 (Q1:=fun T u=>Vh (vh W W.heap.size) 85 2 L D N cc xs kz b T u∧T.getD 30 undef=L.val∧T.getD 31 undef=.slice D N cc∧T.getD 32 undef=.int .i64 kz) (fun T u x=>a4 x) fun T4 O4 y4 h4=>?_;have hz:=h4.slot (i:=32) (.int .i64 kz) fun T u x=>x.2.2.2
 refine h4.runTo hG (i:=3) (l:=[4,5,6,7,8,9]) (d:=33) (z:=.tmp 32) (k0:=kz) (L:=L) (A:=D) (n:=N) (cap:=cc) (xs:=xs) rfl rfl rfl rfl (by exact hz) (fun T u x=>⟨⟨x.2.1,x.2.2.1⟩,x.1.rd⟩) fun B2 y5 hB h5=>?_
 refine Sit.ops (l1:=[4,5,6,7,8,9]) (l2:=[]) (h5.mono (Q1:=fun T u=>Vh (vh W W.heap.size) 85 2 L D N cc xs kz b T u∧T.getD 33 undef=.tuple #[sva (L.fin xs N kz),.bool (BV L xs N kz)]) fun T u ⟨T0,x,e⟩=>?_) Bc Bd AH (fun T u u' x e=>⟨Vh.hpo T u u' x.1 e,x.2⟩) nn (AB fV_at) o4b (Q1:=fun T u=>∃ c,Vo (vh W W.heap.size) 85 2 L D N cc xs kz b c (L.fin xs N kz) (BV L xs N kz) T u) (fun T u x=>a5 x.1 x.2) fun T6 O6 y6 h6=>?_
 · subst e;exact ⟨⟨size_put.trans x.1.size,(Aw (by omega)).trans x.1.t3,(Aw (by omega)).trans x.1.t4,(Aw (by omega)).trans x.1.t5,x.1.P,x.1.rd,x.1.lo,x.1.hp,x.1.lb,x.1.bp,x.1.bd,x.1.sm⟩,Ce (by rw [x.1.size]; omega)⟩
 obtain ⟨c,h6⟩:=h6.split;refine h6.ctl rfl (fun w1=>Cj) ?_;rw [kR_eq];refine h6.ctl rfl (fun w1=>AQ) ?_;refine h6.wp Bc Bd AH Vo.hpo nn (AB fV_at) k5 (Q1:=fun T u=>∃ c2,Vp (vh W W.heap.size) 85 2 L D N cc xs kz b c c2 (L.fin xs N kz) (BV L xs N kz) T u) (fun T u x=>a5w x) fun T7 O7 y7 h7=>?_;obtain ⟨c2,h7⟩:=h7.split;refine h7.ctl rfl (fun w1=>AQ) ?_
 refine h7.wp2 Bc Bd AH Vp.hpo nn (AB fV_at) k6 (Q1:=fun T u=>Vo (vh W W.heap.size) 85 2 L D N cc xs kz b c (L.fin xs N kz) (BV L xs N kz) T u∧BV L xs N kz=true) (Q2:=fun T u=>T.getD 4 undef=.bool true) (fun T u x=>a6 x) (fun T8 O8 y8 h8=>?_) (fun k T8 O8 y8 h8=>h8.done (fun j hj=>hB j hj) fV_at (by kernel_rfl) (by rfl) fun T u x=>x);refine h8.ctl rfl (fun w1=>AQ) ?_;have hx:=h8.fact fun T u x=>(⟨x.1.rd.ins.1,x.2⟩:xs.length=N∧BV L xs N kz=true);obtain ⟨⟨hk0,hk1⟩,_,_⟩:=ET.1 hx.2;obtain ⟨k,rfl⟩:=Int.eq_ofNat_of_zero_le hk0;have hkN:k≤N:=by omega
 refine h8.wp Bc Bd AH (fun T u u' x e=>⟨Vo.hpo T u u' x.1 e,x.2⟩) nn (AB fV_at) k8 (Q1:=fun T u=>∃ D2 c2,Vx (vh W W.heap.size) L D N cc xs (k:Int) b c (L.fin xs N (k:Int)) (BV L xs N (k:Int)) D2 (k+1) c2 (xs.take k++[iz]) T u) (fun T u x=>a8 x.1 hkN) fun T9 O9 y9 h9=>?_;obtain ⟨D2,h9⟩:=h9.split;obtain ⟨c2,h9⟩:=h9.split;refine h9.ctl rfl (fun w1=>AQ) ?_;refine h9.ctl rfl (fun w1=>by rw [show c9=.region 9 (cO c9) false from rfl]; exact BC) ?_
 refine h9.ops (l1:=[0,1,2]) (l2:=[3,4,5,6,7,8,9]) Bc Bd AH Vx.hpo nn (AB fV_at) o9 (Q1:=fun T u=>Vx (vh W W.heap.size) L D N cc xs (k:Int) b c (L.fin xs N (k:Int)) (BV L xs N (k:Int)) D2 (k+1) c2 (xs.take k++[iz]) T u∧T.getD 72 undef=L.val∧T.getD 73 undef=.slice D2 (k+1) c2∧T.getD 74 undef=.int .i64 (k:Int)) (fun T u x=>a9 x) fun T12 O12 y12 h12=>?_;have hz:=h12.slot (i:=74) (.int .i64 (k:Int)) fun T u x=>x.2.2.2
 refine h12.runTo hG (i:=3) (l:=[4,5,6,7,8,9]) (d:=75) (z:=.tmp 74) (k0:=(k:Int)) (L:=L) (A:=D2) (n:=k+1) (cap:=c2) (xs:=(xs.take k++[iz])) rfl rfl rfl rfl (by exact hz) (fun T u x=>⟨⟨x.2.1,x.2.2.1⟩,x.1.rd2⟩) fun B4 y13 hB4 h13=>?_
 refine Sit.ops (l1:=[4,5,6,7,8,9]) (l2:=[]) (h13.mono (Q1:=fun T u=>Vx (vh W W.heap.size) L D N cc xs (k:Int) b c (L.fin xs N (k:Int)) (BV L xs N (k:Int)) D2 (k+1) c2 (xs.take k++[iz]) T u∧T.getD 75 undef=.tuple #[sva (L.fin (xs.take k++[iz]) (k+1) (k:Int)),.bool (BV L (xs.take k++[iz]) (k+1) (k:Int))]) fun T u ⟨T0,x,e⟩=>?_) Bc Bd AH (fun T u u' x e=>⟨Vx.hpo T u u' x.1 e,x.2⟩) nn (AB fV_at) o9b (Q1:=fun T u=>∃ c3,Vy c c3 (L.fin xs N (k:Int)) (L.fin (xs.take k++[iz]) (k+1) (k:Int)) (BV L (xs.take k++[iz]) (k+1) (k:Int)) T u) (fun T u x=>a9b x.1 x.2) fun T14 O14 y14 h14=>?_
 · subst e;exact ⟨⟨x.1.toVo.put (by omega) _,(Aw (by omega)).trans x.1.t12,x.1.rd2⟩,Ce (by rw [x.1.size]; omega)⟩
 obtain ⟨c3,h14⟩:=h14.split;refine h14.ctl rfl (fun w1=>Cj) ?_;exact h14.wp2 Bc Bd AH Vy.hpo nn (AB fV_at) kE (Q1:=fun _ _=>False) (Q2:=fun T u=>T.getD 4 undef=.bool true) (fun T u x=>aE x fun h=>QD hx.1 hx.2 h) (fun T7 O7 y7 h7=>h7.fact fun _ _ x=>x.elim) (fun k T7 O7 y7 h7=>h7.done (fun j hj=>(hB4 j hj).trans (hB j hj)) fV_at (by kernel_rfl) (by rfl) fun T u x=>x)
end Go.Proofs.YtkpogcflgghfiaaDoor.fnRunSameW
