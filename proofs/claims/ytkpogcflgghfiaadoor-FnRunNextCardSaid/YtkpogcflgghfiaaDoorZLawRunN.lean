import Derived.Test.YtkpogcflgghfiaaDoorZDrawTo
import Derived.Test.YtkpogcflgghfiaaDoorZRenCtx
import Derived.Test.YtkpogcflgghfiaaDoorZRegN
import Derived.Test.YtkpogcflgghfiaaDoorZ0
set_option linter.all false
set_option maxRecDepth 100000
set_option maxHeartbeats 8000000
open Go.Lib
namespace Go.Proofs.YtkpogcflgghfiaaDoor.fnRunNextW
open Go.RowKit
open M
open Ren
open Go.Conc
noncomputable abbrev kB:Code:=Fs Tryd.f3
noncomputable def c0:Code:=cA kB
noncomputable def cX:Code:=cA (cB kB)
noncomputable def c3:Code:=cA (cB (cB kB))
noncomputable def c4:Code:=cA (cB (cB (cB kB)))
noncomputable def cR:Code:=cB (cB (cB (cB kB)))
theorem kB_eq:kB=.seq c0 (.seq cX (.seq c3 (.seq c4 cR))):=rfl
abbrev fV:FuncId:=3
theorem fV_at:PP.funcs[fV]?=some Tryd.f3:=Tryd.func3
theorem k0:XR.C c0:=by show AN PP C9 Do c0=true; kernel_rfl
theorem kX:XR.C cX:=by show AN PP C9 Do cX=true; kernel_rfl
theorem k3:XR.C c3:=by show AN PP C9 Do c3=true; kernel_rfl
theorem o4:∀ i∈[0,1,2],∀ o,(cO c4)[i]?=some o→OpOk XR gR o.op:=Cf (by kernel_rfl)
theorem o4b:∀ i∈[4,5,6,7,8,9],∀ o,(cO c4)[i]?=some o→OpOk XR gR o.op:=Cf (by kernel_rfl)
abbrev TV (J:Nat→Value):Array Value:=#[J 0,J 1,J 2,J 3,J 4,J 5,J 6,J 7,J 8,J 9,J 10,J 11,J 12,J 13,J 14,J 15,J 16,J 17,J 18,J 19,J 20,J 21,J 22,J 23,J 24,J 25,J 26,J 27,J 28,J 29,J 30,J 31,J 32,J 33,J 34,J 35,J 36,J 37,J 38,J 39,J 40,J 41,J 42,J 43,J 44,J 45,J 46,J 47,J 48,J 49,J 50,J 51,J 52,J 53,J 54,J 55,J 56,J 57,J 58,J 59,J 60,J 61,J 62,J 63,J 64,J 65,J 66,J 67,J 68,J 69,J 70,J 71,J 72,J 73,J 74,J 75,J 76,J 77,J 78,J 79,J 80,J 81,J 82,J 83,J 84,J 85,J 86,J 87,J 88,J 89]
theorem tv_of {T:Array Value} (h:T.size=90):T=TV fun n=>T.getD n undef:=by
 refine Array.ext h fun i h1 h2=>?_;have e:∀ n (hn:n<T.size),T.getD n undef=T[n]:=fun n hn=>by simp [Array.getD,hn]
 simp only [TV];have:i<90:=h▸h1
 iterate 90 (rcases i with _ | i; · exact (e _ _).symm)
 omega
theorem tv_args (a:Value):#[a]++Array.replicate 89 undef=#[a,undef,undef,undef,undef,undef,undef,undef,undef,undef,undef,undef,undef,undef,undef,undef,undef,undef,undef,undef,undef,undef,undef,undef,undef,undef,undef,undef,undef,undef,undef,undef,undef,undef,undef,undef,undef,undef,undef,undef,undef,undef,undef,undef,undef,undef,undef,undef,undef,undef,undef,undef,undef,undef,undef,undef,undef,undef,undef,undef,undef,undef,undef,undef,undef,undef,undef,undef,undef,undef,undef,undef,undef,undef,undef,undef,undef,undef,undef,undef,undef,undef,undef,undef,undef,undef,undef,undef,undef,undef]:=by kernel_rfl
theorem QC {L:Lv} {xs:List In} {n:Nat} {k0:Int} (hl:xs.length=n) (h:BV L xs n k0=true) (hk:k0≠n):(0≤k0∧k0<n)∧BV L xs n (k0+1)=true∧L.fin xs n (k0+1)=L.nx (L.fin xs n k0) (xs.getD k0.toNat iz) ∧
 eoB L.i L.t L.x L.y L.ws L.gs L.fp L.fq L.fs L.fz L.b (L.fin xs n k0).k (L.fin xs n k0).ax (L.fin xs n k0).ay (L.fin xs n k0).fx (L.fin xs n k0).fy (L.fin xs n k0).u (L.fin xs n k0).g (L.fin xs n k0).d (L.fin xs n k0).o (xs.getD k0.toNat iz).s (xs.getD k0.toNat iz).p (xs.getD k0.toNat iz).z=true:=by
 obtain ⟨⟨h1,h2⟩,hok,hlg⟩:=ET.1 h;have h3:BV L xs n (k0+1)=true:=ET.2 ⟨⟨by omega,by omega⟩,hok,hlg⟩;obtain ⟨_,hev,hkk⟩:=LO hl h;obtain ⟨k,rfl⟩:=Int.eq_ofNat_of_zero_le h1;have hkl:k<xs.length:=by omega
 obtain ⟨hin,hlt⟩:=MV L.t L.b xs 0 0 0 (by omega) hlg;have e0:xs.getD k iz=xs[k]:=by simp [List.getD,hkl]
 have hv:=hin _ (List.getElem_mem hkl);have ht:=hlt k hkl;have f1:L.fin xs n ((k:Nat):Int)=L.run (xs.take k):=by unfold Lv.fin; rw [if_pos h]; rfl
 have f2:L.fin xs n (((k:Nat):Int)+1)=L.run (xs.take (k+1)):=by unfold Lv.fin; rw [if_pos h3]; rfl
 have hk2:((k:Nat):Int).toNat=k:=rfl;rw [hk2] at hev hkk ⊢;rw [f1,f2,e0];refine ⟨⟨h1,by omega⟩,h3,?_,(Hk ..).2 ⟨hev,hv,hkk.elim (fun h=>.inl (by omega)) fun h=>.inr h.2⟩⟩
 show (xs.take (k+1)).foldl L.nx L.s0=L.nx ((xs.take k).foldl L.nx L.s0) xs[k]
 have e:xs.take (k+1)=xs.take k++[xs[k]]:=by rw [List.take_add_one,List.getElem?_eq_getElem hkl]; rfl
 rw [e,List.foldl_append];rfl
structure Vt (h0:Array Obj) (L:Lv) (D:Option Addr) (N cc:Nat) (xs:List In) (k0:Int) (b c c3:Nat) (s:St) (ok:Bool) (s3:St) (ok3:Bool) (T:Array Value) (u:World):Prop extends Vo h0 90 0 L D N cc xs k0 b c s ok T u where
 t10:T.getD 10 undef=AE c3
 t11:T.getD 11 undef=.bool ok3
 S3:CellsAt u c3 (svs s3)
theorem Vt.hpo {h0:Array Obj} {L:Lv} {D:Option Addr} {N cc:Nat} {xs:List In} {k0:Int} {b c c3:Nat} {s s3:St} {ok ok3:Bool}:Hpo (Vt h0 L D N cc xs k0 b c c3 s ok s3 ok3):=fun _ _ _ h e=>{ h with P:=h.P.same e,rd:=h.rd.same e,hp:=h.hp.same e,S:=h.S.same e,S3:=h.S3.same e }
structure Ve (c3 e:Nat) (s3 s4:St) (T:Array Value) (u:World):Prop where
 size:T.size=90
 t10:T.getD 10 undef=AE c3
 t11:T.getD 11 undef=.bool true
 t12:T.getD 12 undef=AE e
 t13:T.getD 13 undef=.bool true
 S3:CellsAt u c3 (svs s3)
 S4:CellsAt u e (svs s4)
theorem Ve.hpo {c3 e:Nat} {s3 s4:St}:Hpo (Ve c3 e s3 s4):=fun _ _ _ h e=>{ h with S3:=h.S3.same e,S4:=h.S4.same e }
theorem IE {w:World} {o:Oper} {a:Act} {K:Act→World→Prop} {Q:Exit→Act→World→Prop} (ho:o.op=.alloc 34)
 (h:∀ (g:Nat) (w':World),Below w.heap.size w w'→w.heap.size≤g→CellsAt w' g (svs z0)→K (a.put o.dst (.pointer (some ⟨g,0,none⟩))) w'):o.wp Tryd.prog a w K Q:=by
 have e:(execOp a.eval o).run Tryd.prog w=.ok (.value (.pointer (some ⟨w.heap.size,0,none⟩))) (w.alloc (.cells #[.int .i64 0,.int .i64 0,.int .i64 0,.int .i64 0,.int .i64 0,.int .i64 0,.int .i64 0,.bool false,.bool false] 34)):=by
  unfold execOp;simp only [ho];go_simp
 unfold Oper.wp;rw [e,Oper.upon_value];exact h _ _ (Aa (Ac w) _) (Nat.le_refl _) (CellsAt.new _ _ _ _ rfl)
section
variable {h0:Array Obj} {a:Option Addr} {len cap:Nat} {zs:List Int} {T:Array Value} {w:World} {L:Lv} {D:Option Addr} {N cc:Nat} {xs:List In} {kz:Int} {b c:Nat} {s:St} {ok:Bool}
theorem a0 {J:Nat→Value} (j0:J 0=.slice a len cap) (hr:IsRow .u8 w a len cap zs) (hq:Quarter w) (hp:Hp h0 w):c0.wp Tryd.prog (fun e t u=>e=.normal∧t.defers=[]∧Za h0 90 a len cap zs t.tmps u) ⟨TV J,[]⟩ w:=by
 rw [show c0=.region 0 _ false from rfl];go_wp;exact ⟨rfl,rfl,rfl,rfl,hr,hq,hp⟩
theorem aX (H:Za h0 90 a len cap zs T w):cX.wp Tryd.prog (fun e t u=>t.defers=[]∧(e=.normal∧Za h0 90 a len cap zs t.tmps u∨e=.ret∧t.tmps.getD 2 undef=.bool true)) ⟨T,[]⟩ w:=by
 obtain ⟨J,rfl⟩:∃ J,T=TV J:=⟨_,tv_of H.size⟩;have j0:J 0=.slice a len cap:=H.t0;rw [show cX=.seq (.region 1 _ false) (.cond (.tmp 16) (.seq (.region 2 _ false) .ret) .skip) from rfl];by_cases g9:1048576<len
 · have g1:(1048576:Int)<(len:Int):=by omega
   go_wp;exact ⟨rfl,.inr ⟨rfl,rfl⟩⟩
 have g1:¬ (1048576:Int)<(len:Int):=by omega
 have g1d:decide ((1048576:Int)<(len:Int))=false:=decide_eq_false g1;have g2d:decide (1048576<len)=false:=decide_eq_false (by omega);go_wp;exact ⟨rfl,.inl ⟨rfl,rfl,rfl,H.row,H.q,H.hp⟩⟩
theorem a3 (H:Za h0 90 a len cap zs T w):c3.wp Tryd.prog (fun e t u=>e=.normal∧t.defers=[]∧∃ L D N cc xs kz b,Vh h0 90 0 L D N cc xs kz b t.tmps u) ⟨T,[]⟩ w:=by
 obtain ⟨J,rfl⟩:∃ J,T=TV J:=⟨_,tv_of H.size⟩;have j0:J 0=.slice a len cap:=H.t0;rw [show c3=.region 3 _ false from rfl];go_wp;refine (GQ a len cap zs w H.row).mono ?_;rintro e w1 ⟨i,t,x,y,A,n,c,G,m,kk,fp,fq,fs,fz,b,ws,gs,D,N,cc,xs,kz,rfl,⟨zA,zG,zD⟩,bd,hn,hm,hN,I,G1,Y,B⟩;dsimp only
 iterate 16 go_step
 refine Ah rfl 29 (.tmp 3) (.tmp 20) rfl w1.heap.size rfl (AV i t x y A n c G m kk fp fq fs fz b) rfl _ (CellsAt.new w1 _ [_,_,_,_,_,_,_,_,_,_,_] 29 rfl) (Nat.le_refl _) Ag rfl ?_;intro w2 K P;go_wp;have rd:Ready ⟨i,t,x,y,A,n,c,G,m,kk,fp,fq,fs,fz,b,ws,gs⟩ D N cc xs w1:=⟨⟨I,G1,by show n≤_; omega,by show m≤_; omega,I.cel zA,G1.cel zG⟩,Y,zD,by omega,hN.2,H.q.step B⟩;have B2:=Aa (Ac w1) (.cells #[.int .i64 0,.int .i64 0,.int .i64 0,.int .i64 0,.slice none 0 0,.slice none 0 0,.int .i64 0,.int .i64 0,.int .i64 0,.int .i64 0,.int .i64 0] 29);have h1:=H.hp.size;have h2:=B.size;have h3:=H.q.lt
 exact ⟨rfl,rfl,⟨i,t,x,y,A,n,c,G,m,kk,fp,fq,fs,fz,b,ws,gs⟩,D,N,cc,xs,kz,w1.heap.size,rfl,rfl,rfl,rfl,P,(rd.step B2).keep rd.low K (Nat.le_refl _) (by omega),rd.low,((H.hp.step B).step B2).kept K (by omega),by omega,by omega,bd,hN.1⟩
theorem a4 (H:Vh h0 90 0 L D N cc xs kz b T w):wpOps Tryd.prog (cO c4) (fun e t u=>e=.normal∧t.defers=[]∧(Vh h0 90 0 L D N cc xs kz b t.tmps u∧t.tmps.getD 24 undef=L.val∧t.tmps.getD 25 undef=.slice D N cc∧t.tmps.getD 26 undef=.int .i64 kz)) [0,1,2] ⟨T,[]⟩ w:=by
 obtain ⟨J,rfl⟩:∃ J,T=TV J:=⟨_,tv_of H.size⟩;have j3:J 3=AE b:=H.t3;have j4:J 4=.slice D N cc:=H.t4;have j5:J 5=.int .i64 kz:=H.t5;have e:cO c4=#[_,_,_,_,_,_,_,_,_,_]:=rfl;rw [AC (os:=[_,_,_]) rfl];simp only [e,List.getElem_toArray,List.getElem_cons_zero,List.getElem_cons_succ];refine Af rfl 29 (.tmp 3) rfl b j3 L.cs H.P Tryd.underlying29 rfl Ag ?_;go_wp;exact ⟨rfl,rfl,⟨rfl,rfl,rfl,rfl,H.P,H.rd,H.lo,H.hp,H.lb,H.bp,H.bd,H.sm⟩,rfl,rfl,rfl⟩
theorem a5 (H:Vh h0 90 0 L D N cc xs kz b T w) (h23:T.getD 27 undef=.tuple #[sva s,.bool ok]):wpOps Tryd.prog (cO c4) (fun e t u=>e=.normal∧t.defers=[]∧∃ c,Vo h0 90 0 L D N cc xs kz b c s ok t.tmps u) [4,5,6,7,8,9] ⟨T,[]⟩ w:=by
 obtain ⟨J,rfl⟩:∃ J,T=TV J:=⟨_,tv_of H.size⟩;have j3:J 3=AE b:=H.t3;have j4:J 4=.slice D N cc:=H.t4;have j5:J 5=.int .i64 kz:=H.t5;have j23:J 27=.tuple #[sva s,.bool ok]:=h23;have e:cO c4=#[_,_,_,_,_,_,_,_,_,_]:=rfl;rw [AC (os:=[_,_,_,_,_,_]) rfl];simp only [e,List.getElem_toArray,List.getElem_cons_zero,List.getElem_cons_succ]
 iterate 12 go_step
 refine Ah rfl 34 (.tmp 6) (.tmp 28) rfl w.heap.size rfl (svs s) rfl _ (CellsAt.new w _ [_,_,_,_,_,_,_,_,_] 34 rfl) (Nat.le_refl _) Ad rfl ?_;intro w2 K S;go_wp;have B2:=Aa (Ac w) (.cells #[.int .i64 0,.int .i64 0,.int .i64 0,.int .i64 0,.int .i64 0,.int .i64 0,.int .i64 0,.bool false,.bool false] 34);have h1:=H.P.lt;have h2:=H.hp.size;exact ⟨rfl,rfl,w.heap.size,⟨rfl,rfl,rfl,rfl,(H.P.step B2).kept K (by omega),(H.rd.step B2).keep H.rd.low K (Nat.le_refl _) (by omega),H.lo,(H.hp.step B2).kept K (by omega),H.lb,H.bp,H.bd,H.sm⟩,rfl,rfl,S,h1⟩
noncomputable def c5:Code:=cA cR
noncomputable def c6:Code:=cA (cB cR)
noncomputable def c8:Code:=cA (cB (cB cR))
noncomputable def c9:Code:=cA (cB (cB (cB cR)))
noncomputable def cE:Code:=cB (cB (cB (cB cR)))
theorem kR_eq:cR=.seq c5 (.seq c6 (.seq c8 (.seq c9 cE))):=rfl
theorem k5:XR.C c5:=by show AN PP C9 Do c5=true; kernel_rfl
theorem k6:XR.C c6:=by show AN PP C9 Do c6=true; kernel_rfl
theorem kE:XR.C cE:=by show AN PP C9 Do cE=true; kernel_rfl
theorem a5w (H:Vo h0 90 0 L D N cc xs kz b c (L.fin xs N kz) (BV L xs N kz) T w):c5.wp Tryd.prog (fun e t u=>e=.normal∧t.defers=[]∧∃ c2,Vp h0 90 0 L D N cc xs kz b c c2 (L.fin xs N kz) (BV L xs N kz) t.tmps u) ⟨T,[]⟩ w:=by
 obtain ⟨J,rfl⟩:∃ J,T=TV J:=⟨_,tv_of H.size⟩;have j3:J 3=AE b:=H.t3;have j4:J 4=.slice D N cc:=H.t4;have j5:J 5=.int .i64 kz:=H.t5;have j6:J 6=AE c:=H.t6;have j7:J 7=.bool (BV L xs N kz):=H.t7;rw [show c5=.region 5 _ false from rfl];have C:=hid (Ha L D N cc xs kz w H.rd.lv.I H.rd.lv.J H.rd.lv.n H.rd.lv.m H.rd.ins (by have:=H.sm; omega));rw [Lv.ans_eq] at C;generalize L.fin xs N kz=s at *;generalize BV L xs N kz=ok at *;refine wp_region_lit ?_;refine Af rfl 29 (.tmp 3) rfl b j3 L.cs H.P Tryd.underlying29 rfl Ag ?_;go_wp;refine C.out.mono ?_;rintro e w1 ⟨rfl,B⟩;dsimp only
 iterate 13 go_step
 have B2:=Aa B (.cells #[.int .i64 0,.int .i64 0,.int .i64 0,.int .i64 0,.int .i64 0,.int .i64 0,.int .i64 0,.bool false,.bool false] 34);have b1:=B.size;have lc:=H.lc;have sl:=H.S.lt;have h2:=H.hp.size;refine Ah rfl 34 (.tmp 8) (.tmp 35) rfl w1.heap.size rfl (svs s) rfl _ (CellsAt.new w1 _ [_,_,_,_,_,_,_,_,_] 34 rfl) (Nat.le_refl _) Ad rfl ?_;intro w2 K S2;go_wp;exact ⟨rfl,rfl,w1.heap.size,⟨⟨rfl,rfl,rfl,rfl,(H.P.step B2).kept K (by omega),(H.rd.step B2).keep H.rd.low K (by omega) (by omega),H.lo,(H.hp.step B2).kept K (by omega),H.lb,H.bp,H.bd,H.sm⟩,rfl,rfl,(H.S.step B2).kept K (by omega),H.lc⟩,rfl,rfl,S2⟩
theorem a6 {c2:Nat} (H:Vp h0 90 0 L D N cc xs kz b c c2 s ok T w):c6.wp Tryd.prog (fun e t u=>t.defers=[]∧(e=.normal∧(Vo h0 90 0 L D N cc xs kz b c s ok t.tmps u∧ok=true∧kz≠N)∨e=.ret∧t.tmps.getD 2 undef=.bool true)) ⟨T,[]⟩ w:=by
 obtain ⟨J,rfl⟩:∃ J,T=TV J:=⟨_,tv_of H.size⟩;have j3:J 3=AE b:=H.t3;have j4:J 4=.slice D N cc:=H.t4;have j5:J 5=.int .i64 kz:=H.t5;have j6:J 6=AE c:=H.t6;have j7:J 7=.bool ok:=H.t7;have j8:J 8=AE c2:=H.t8;have j9:J 9=.bool ok:=H.t9;rw [show c6=.seq (.region 6 _ false) (.cond (.tmp 54) (.seq (.region 7 _ false) .ret) .skip) from rfl];have hneq:=fun W=>EQ s.k s.ax s.ay s.fx s.fy s.u s.g s.d s.o W;have heq:=fun W=>DT s.k s.ax s.ay s.fx s.fy s.u s.g s.d s.o W;have hgd:=Ct;go_upto_region 6 with fail;refine wp_region_lit ?_;cases ok
 · iterate 12 go_step
   refine Ar (by simp [Region.wanted,yielded,Act.put]) 34 (.tmp 6) rfl c rfl (svs s) H.S Tryd.underlying34 rfl Ad ?_;refine Ar (by simp [Region.wanted,yielded,Act.put]) 34 (.tmp 8) rfl c2 rfl (svs s) H.S2 Tryd.underlying34 rfl Ad ?_;go_upto_region 7 with fail;refine wp_region_lit ?_
   iterate 12 go_step
   refine Ar (by simp [Region.wanted,yielded,Act.put]) 34 (.tmp 6) rfl c rfl (svs s) H.S Tryd.underlying34 rfl Ad ?_;refine Ar (by simp [Region.wanted,yielded,Act.put]) 34 (.tmp 8) rfl c2 rfl (svs s) H.S2 Tryd.underlying34 rfl Ad ?_;go_wp;exact ⟨rfl,.inr ⟨rfl,rfl⟩⟩
 · iterate 12 go_step
   refine Ar (by simp [Region.wanted,yielded,Act.put]) 34 (.tmp 6) rfl c rfl (svs s) H.S Tryd.underlying34 rfl Ad ?_;refine Ar (by simp [Region.wanted,yielded,Act.put]) 34 (.tmp 8) rfl c2 rfl (svs s) H.S2 Tryd.underlying34 rfl Ad ?_;by_cases hk:kz=(N:Int)
   · have n1:(kz==(N:Int))=true:=beq_iff_eq.2 hk;go_upto_region 7 with fail;refine wp_region_lit ?_
     iterate 12 go_step
     refine Ar (by simp [Region.wanted,yielded,Act.put]) 34 (.tmp 6) rfl c rfl (svs s) H.S Tryd.underlying34 rfl Ad ?_;refine Ar (by simp [Region.wanted,yielded,Act.put]) 34 (.tmp 8) rfl c2 rfl (svs s) H.S2 Tryd.underlying34 rfl Ad ?_;go_wp;exact ⟨rfl,.inr ⟨rfl,rfl⟩⟩
   · have n1:(kz==(N:Int))=false:=beq_eq_false_iff_ne.2 hk;go_wp;exact ⟨rfl,.inl ⟨rfl,⟨⟨rfl,rfl,rfl,rfl,H.P,H.rd,H.lo,H.hp,H.lb,H.bp,H.bd,H.sm⟩,rfl,rfl,H.S,H.lc⟩,rfl,hk⟩⟩
theorem o8:∀ i∈[0,1,2,3],∀ o,(cO c8)[i]?=some o→OpOk XR gR o.op:=Cf (by kernel_rfl)
theorem o8b:∀ i∈[5,6,7,8,9,10],∀ o,(cO c8)[i]?=some o→OpOk XR gR o.op:=Cf (by kernel_rfl)
theorem a8 (H:Vo h0 90 0 L D N cc xs kz b c s ok T w):wpOps Tryd.prog (cO c8) (fun e t u=>e=.normal∧t.defers=[]∧(Vo h0 90 0 L D N cc xs kz b c s ok t.tmps u∧t.tmps.getD 64 undef=L.val∧t.tmps.getD 65 undef=.slice D N cc∧t.tmps.getD 67 undef=.int .i64 (kz+1))) [0,1,2,3] ⟨T,[]⟩ w:=by
 obtain ⟨J,rfl⟩:∃ J,T=TV J:=⟨_,tv_of H.size⟩;have j3:J 3=AE b:=H.t3;have j4:J 4=.slice D N cc:=H.t4;have j5:J 5=.int .i64 kz:=H.t5;have j6:J 6=AE c:=H.t6;have j7:J 7=.bool ok:=H.t7;have e:cO c8=#[_,_,_,_,_,_,_,_,_,_,_]:=rfl;rw [AC (os:=[_,_,_,_]) rfl];simp only [e,List.getElem_toArray,List.getElem_cons_zero,List.getElem_cons_succ];have hw1:IntKind.i64.wrap (kz+1)=kz+1:=IntWalk.i64_in _ (by have:=H.sm; have:=H.bd; omega);refine Af rfl 29 (.tmp 3) rfl b j3 L.cs H.P Tryd.underlying29 rfl Ag ?_;go_wp
 exact ⟨rfl,rfl,⟨⟨rfl,rfl,rfl,rfl,H.P,H.rd,H.lo,H.hp,H.lb,H.bp,H.bd,H.sm⟩,rfl,rfl,H.S,H.lc⟩,rfl,rfl,rfl⟩
theorem a8b (H:Vo h0 90 0 L D N cc xs kz b c s ok T w) {s2:St} {ok2:Bool} (hs:T.getD 68 undef=.tuple #[sva s2,.bool ok2]):wpOps Tryd.prog (cO c8) (fun e t u=>e=.normal∧t.defers=[]∧(∃ c3,Vt h0 L D N cc xs kz b c c3 s ok s2 ok2 t.tmps u)) [5,6,7,8,9,10] ⟨T,[]⟩ w:=by
 obtain ⟨J,rfl⟩:∃ J,T=TV J:=⟨_,tv_of H.size⟩;have j3:J 3=AE b:=H.t3;have j4:J 4=.slice D N cc:=H.t4;have j5:J 5=.int .i64 kz:=H.t5;have j6:J 6=AE c:=H.t6;have j7:J 7=.bool ok:=H.t7;have js:J 68=.tuple #[sva s2,.bool ok2]:=hs;have e:cO c8=#[_,_,_,_,_,_,_,_,_,_,_]:=rfl;rw [AC (os:=[_,_,_,_,_,_]) rfl];simp only [e,List.getElem_toArray,List.getElem_cons_zero,List.getElem_cons_succ]
 iterate 12 go_step
 have B2:=Aa (Ac w) (.cells #[.int .i64 0,.int .i64 0,.int .i64 0,.int .i64 0,.int .i64 0,.int .i64 0,.int .i64 0,.bool false,.bool false] 34);have h1:=H.S.lt;have h2:=H.hp.size;have h3:=H.lc;refine Ah rfl 34 (.tmp 10) (.tmp 69) rfl w.heap.size rfl (svs s2) rfl _ (CellsAt.new w _ [_,_,_,_,_,_,_,_,_] 34 rfl) (Nat.le_refl _) Ad rfl ?_;intro w2 K S2;go_wp;exact ⟨rfl,rfl,w.heap.size,⟨⟨rfl,rfl,rfl,rfl,(H.P.step B2).kept K (by omega),(H.rd.step B2).keep H.rd.low K (Nat.le_refl _) (by omega),H.lo,(H.hp.step B2).kept K (by omega),H.lb,H.bp,H.bd,H.sm⟩,rfl,rfl,(H.S.step B2).kept K (by omega),H.lc⟩,rfl,rfl,S2⟩
theorem k9:XR.C c9:=by show AN PP C9 Do c9=true; kernel_rfl
theorem a9 {c3:Nat} {s3:St} (H:Vt h0 L D N cc xs kz b c c3 s ok s3 true T w) (hk:0≤kz∧kz<N) (hr:eoB L.i L.t L.x L.y L.ws L.gs L.fp L.fq L.fs L.fz L.b s.k s.ax s.ay s.fx s.fy s.u s.g s.d s.o (xs.getD kz.toNat iz).s (xs.getD kz.toNat iz).p (xs.getD kz.toNat iz).z=true) :
 c9.wp Tryd.prog (fun e t u=>e=.normal∧t.defers=[]∧∃ e',Ve c3 e' s3 (L.nx s (xs.getD kz.toNat iz)) t.tmps u) ⟨T,[]⟩ w:=by
 obtain ⟨J,rfl⟩:∃ J,T=TV J:=⟨_,tv_of H.size⟩;have j3:J 3=AE b:=H.t3;have j4:J 4=.slice D N cc:=H.t4;have j5:J 5=.int .i64 kz:=H.t5;have j6:J 6=AE c:=H.t6;have j10:J 10=AE c3:=H.t10;have j11:J 11=.bool true:=H.t11;obtain ⟨hk0,hk1⟩:=hk;obtain ⟨k,rfl⟩:=Int.eq_ofNat_of_zero_le hk0;have hkn:k<N:=by omega
 obtain ⟨bb,off,rfl,hb,hcell⟩:=H.rd.ins.2 (by omega);have Z:=(hcell k hkn).lie hb;rw [show ((k:Nat):Int).toNat=k from rfl] at hr ⊢;generalize xs.getD k iz=q at *;obtain ⟨qs,qp,qz⟩:=q;obtain ⟨K',X',Y',P',Q',U',V',D',O',hE⟩:∃ K' X' Y' P' Q' U' V' D' O',esS L.i L.t L.x L.y L.ws L.gs L.fp L.fq L.fs L.fz L.b s.k s.ax s.ay s.fx s.fy s.u s.g s.d s.o qs qp qz=⟨K',X',Y',P',Q',U',V',D',O'⟩:=⟨_,_,_,_,_,_,_,_,_,rfl⟩;have hN:L.nx s ⟨qs,qp,qz⟩=⟨K',X',Y',P',Q',U',V',D',O'⟩:=hE;rw [hN]
 have C:=hid (fun (W:World) (I:Boxes W L.A L.n L.ws) (J:Boxes W L.G L.m L.gs) (R:Quarter W)=>Ig L.i L.t L.x L.y L.A L.n L.c L.G L.m L.kk L.fp L.fq L.fs L.fz L.b L.ws L.gs s.k s.ax s.ay s.fx s.fy s.u s.g s.d s.o qs qp qz hE hr H.rd.lv.n H.rd.lv.m W I J R);have I:=hid H.rd.lv.I;have J5:=hid H.rd.lv.J;have Q4:=hid H.rd.quarter;have P:=H.P;have S:=H.S;have S3:=H.S3;clear hE hr hN hcell H;simp only [TV,j3,j4,j5,j6,j10,j11];rw [show c9=.region 9 _ true from rfl]
 refine wp_region_held_drew (S:=fun w'=>CellsAt w' b L.cs∧CellsAt w' c (svs s)∧(w'.cell? ⟨bb,off+k*3,none⟩=some (.int .i64 qs)∧w'.cell? ⟨bb,off+k*3+1,none⟩=some (.int .i64 qp)∧w'.cell? ⟨bb,off+k*3+2,none⟩=some (.bool qz))) (by kernel_rfl) ⟨P.drew,S.drew,A7 Z.drew⟩ (fun hHeld=>?_);replace P:=P.drew;replace S:=S.drew;replace S3:=S3.drew;replace Z:=Z.drew;replace I:=hid I.out.drew;replace J5:=hid J5.out.drew;replace Q4:=hid (Q4.out.step (Ac _).drew)
 refine wpAnyH_take (i:=0) (oi:=_) (v:=.agg (L.cs).toArray) rfl (by kernel_rfl) (by kernel_rfl) (by kernel_rfl) (fun _ _ _ h=>by cases h.1) (yieldsIf_load_mid (by rfl) 29 (.tmp 3) rfl b 0 rfl (L.cs) _ (fun W hS=>hS.1.range) Tryd.underlying29 rfl Ag) hHeld ?_
 try simp only [Act.put,sx]
 refine wpAnyH_take (i:=1) (oi:=_) (v:=.agg (svs s).toArray) rfl (by kernel_rfl) (by kernel_rfl) (by kernel_rfl) (fun _ _ _ h=>by cases h.1) (yieldsIf_load_mid (by rfl) 34 (.tmp 6) rfl c 0 rfl (svs s) _ (fun W hS=>hS.2.1.range) Tryd.underlying34 rfl Ad) hHeld ?_
 try simp only [Act.put,sx]
 refine wpAnyH_take (i:=2) (oi:=_) (v:=?_) rfl (by kernel_rfl) (by kernel_rfl) (by kernel_rfl) (fun _ _ _ h=>by cases h.1) (Or.inl ⟨by rfl,?_⟩) hHeld ?_;rotate_left
 · intro w hSw
   try dsimp only at hSw
   go_simp
   all_goals with_reducible rfl
 try simp only [Act.put,sx]
 refine wpAnyH_take (i:=3) (oi:=_) (v:=?_) rfl (by kernel_rfl) (by kernel_rfl) (by kernel_rfl) (fun _ _ _ h=>by cases h.1) (Or.inl ⟨by rfl,?_⟩) hHeld ?_;rotate_left
 · intro w hSw
   try dsimp only at hSw
   go_simp
   all_goals with_reducible rfl
 try simp only [Act.put,sx]
 refine wpAnyH_take (i:=4) (oi:=_) (v:=?_) rfl (by kernel_rfl) (by kernel_rfl) (by kernel_rfl) (fun _ _ _ h=>by cases h.1) (Or.inl ⟨by rfl,?_⟩) hHeld ?_;rotate_left
 · intro w hSw
   try dsimp only at hSw
   go_simp
   all_goals with_reducible rfl
 try simp only [Act.put,sx]
 refine wpAnyH_take (i:=5) (oi:=_) (v:=?_) rfl (by kernel_rfl) (by kernel_rfl) (by kernel_rfl) (fun _ _ _ h=>by cases h.1) (Or.inl ⟨by rfl,?_⟩) hHeld ?_;rotate_left
 · intro w hSw;obtain ⟨_,_,d0,d1,d2⟩:=hSw;go_simp
   all_goals with_reducible rfl
 try simp only [Act.put,sx]
 refine wpAnyH_ready (rs:=[6,10]) (by kernel_rfl) (by simp) ?_;refine (AllReadyH.cons (o:=_) rfl (fun K hK=>?_) (AllReadyH.cons (o:=_) rfl (fun K hK=>?_) AllReadyH.nil))
 · rw [if_pos (by rfl)];refine As ⟨_,Tryd.func10,by kernel_rfl,by rfl⟩ _ _ rfl #[L.val,sva s,Dx qs qp qz] (by simp only [List.map_toArray,List.map_cons,List.map_nil]; rfl) (C.out _ I.out J5.out Q4.out) (AM fun wa B=>?_);replace P:=P.step B;replace S:=S.step B;replace S3:=S3.step B;replace Z:=Z.step B;replace I:=hid (I.out.step B);replace J5:=hid (J5.out.step B);replace Q4:=hid (Q4.out.step B);clear B hHeld;refine hK.out _ _ ⟨P,S,A7 Z⟩ (fun hHeld=>?_);clear hK K
   try simp only [Act.put,sx]
   refine wpAnyH_take (i:=7) (oi:=_) (v:=?_) rfl (by kernel_rfl) (by kernel_rfl) (by kernel_rfl) (fun _ _ _ h=>by cases h.1) (Or.inl ⟨by rfl,?_⟩) hHeld ?_;rotate_left
   · intro w hSw
     try dsimp only at hSw
     go_simp
     all_goals with_reducible rfl
   try simp only [Act.put,sx]
   refine wpAnyH_take (i:=8) (oi:=_) (v:=?_) rfl (by kernel_rfl) (by kernel_rfl) (by kernel_rfl) (fun _ _ _ h=>by cases h.1) (Or.inl ⟨by rfl,?_⟩) hHeld ?_;rotate_left
   · intro w hSw
     try dsimp only at hSw
     go_simp
     all_goals with_reducible rfl
   try simp only [Act.put,sx]
   refine wpAnyH_take (i:=9) (oi:=_) (v:=?_) rfl (by kernel_rfl) (by kernel_rfl) (by kernel_rfl) (fun _ _ _ h=>by cases h.1) (Or.inl ⟨by rfl,?_⟩) hHeld ?_;rotate_left
   · intro w hSw
     try dsimp only at hSw
     go_simp
     all_goals with_reducible rfl
   try simp only [Act.put,sx]
   refine rd 10 fun K hK=>?_;refine IE rfl ?_;intro g9 wb B hg0 T9;have g1:=Nat.lt_of_lt_of_le P.lt hg0;have g2:=Nat.lt_of_lt_of_le S.lt hg0;have g3:=Nat.lt_of_lt_of_le S3.lt hg0;have g4:=Nat.lt_of_lt_of_le Z.lt hg0;replace P:=P.step B;replace S:=S.step B;replace S3:=S3.step B;replace Z:=Z.step B;replace I:=hid (I.out.step B);replace J5:=hid (J5.out.step B);replace Q4:=hid (Q4.out.step B);clear B hHeld hg0;refine hK.out _ _ ⟨P,S,A7 Z⟩ (fun hHeld=>?_);clear hK K
   try simp only [Act.put,sx]
   refine rd 11 fun K hK=>?_;refine An 34 (.tmp 12) (.tmp 79) rfl g9 rfl (svs ⟨K',X',Y',P',Q',U',V',D',O'⟩) rfl _ T9 (by simp) Ad rfl ?_;intro w9 K9 N9;replace P:=P.kept K9 (by omega);replace S:=S.kept K9 (by omega);replace S3:=S3.kept K9 (by omega);replace Z:=Z.of (K9.block bb Z.lt (by omega)) K9.size;clear K9 hHeld;refine hK.out _ _ ⟨P,S,A7 Z⟩ (fun hHeld=>?_);clear hK K
   try simp only [Act.put,sx]
   refine wpAnyH_take (i:=12) (oi:=_) (v:=?_) rfl (by kernel_rfl) (by kernel_rfl) (by kernel_rfl) (fun _ _ _ h=>by cases h.1) (Or.inl ⟨by rfl,?_⟩) hHeld ?_;rotate_left
   · intro w hSw
     try dsimp only at hSw
     go_simp
     all_goals with_reducible rfl
   try simp only [Act.put,sx]
   refine wpAnyH_done (by kernel_rfl) ?_ _;exact ⟨rfl,rfl,g9,rfl,rfl,rfl,rfl,rfl,S3,N9⟩
 · rw [if_pos (by rfl)];refine IE rfl ?_;intro g9 wb B hg0 T9;have g1:=Nat.lt_of_lt_of_le P.lt hg0;have g2:=Nat.lt_of_lt_of_le S.lt hg0;have g3:=Nat.lt_of_lt_of_le S3.lt hg0;have g4:=Nat.lt_of_lt_of_le Z.lt hg0;replace P:=P.step B;replace S:=S.step B;replace S3:=S3.step B;replace Z:=Z.step B;replace I:=hid (I.out.step B);replace J5:=hid (J5.out.step B);replace Q4:=hid (Q4.out.step B);clear B hHeld hg0;refine hK.out _ _ ⟨P,S,A7 Z⟩ (fun hHeld=>?_);clear hK K
   try simp only [Act.put,sx]
   refine rd 6 fun K hK=>?_;refine As ⟨_,Tryd.func10,by kernel_rfl,by rfl⟩ _ _ rfl #[L.val,sva s,Dx qs qp qz] (by simp only [List.map_toArray,List.map_cons,List.map_nil]; rfl) (C.out _ I.out J5.out Q4.out) (AM fun wa B=>?_);replace P:=P.step B;replace S:=S.step B;replace S3:=S3.step B;replace Z:=Z.step B;replace T9:=T9.step B;replace I:=hid (I.out.step B);replace J5:=hid (J5.out.step B);replace Q4:=hid (Q4.out.step B);clear B hHeld;refine hK.out _ _ ⟨P,S,A7 Z⟩ (fun hHeld=>?_);clear hK K
   try simp only [Act.put,sx]
   refine wpAnyH_take (i:=7) (oi:=_) (v:=?_) rfl (by kernel_rfl) (by kernel_rfl) (by kernel_rfl) (fun _ _ _ h=>by cases h.1) (Or.inl ⟨by rfl,?_⟩) hHeld ?_;rotate_left
   · intro w hSw
     try dsimp only at hSw
     go_simp
     all_goals with_reducible rfl
   try simp only [Act.put,sx]
   refine wpAnyH_take (i:=8) (oi:=_) (v:=?_) rfl (by kernel_rfl) (by kernel_rfl) (by kernel_rfl) (fun _ _ _ h=>by cases h.1) (Or.inl ⟨by rfl,?_⟩) hHeld ?_;rotate_left
   · intro w hSw
     try dsimp only at hSw
     go_simp
     all_goals with_reducible rfl
   try simp only [Act.put,sx]
   refine wpAnyH_take (i:=9) (oi:=_) (v:=?_) rfl (by kernel_rfl) (by kernel_rfl) (by kernel_rfl) (fun _ _ _ h=>by cases h.1) (Or.inl ⟨by rfl,?_⟩) hHeld ?_;rotate_left
   · intro w hSw
     try dsimp only at hSw
     go_simp
     all_goals with_reducible rfl
   try simp only [Act.put,sx]
   refine rd 11 fun K hK=>?_;refine An 34 (.tmp 12) (.tmp 79) rfl g9 rfl (svs ⟨K',X',Y',P',Q',U',V',D',O'⟩) rfl _ T9 (by simp) Ad rfl ?_;intro w9 K9 N9;replace P:=P.kept K9 (by omega);replace S:=S.kept K9 (by omega);replace S3:=S3.kept K9 (by omega);replace Z:=Z.of (K9.block bb Z.lt (by omega)) K9.size;clear K9 hHeld;refine hK.out _ _ ⟨P,S,A7 Z⟩ (fun hHeld=>?_);clear hK K
   try simp only [Act.put,sx]
   refine wpAnyH_take (i:=12) (oi:=_) (v:=?_) rfl (by kernel_rfl) (by kernel_rfl) (by kernel_rfl) (fun _ _ _ h=>by cases h.1) (Or.inl ⟨by rfl,?_⟩) hHeld ?_;rotate_left
   · intro w hSw
     try dsimp only at hSw
     go_simp
     all_goals with_reducible rfl
   try simp only [Act.put,sx]
   refine wpAnyH_done (by kernel_rfl) ?_ _;exact ⟨rfl,rfl,g9,rfl,rfl,rfl,rfl,rfl,S3,N9⟩
theorem aE {c3 e:Nat} (H:Ve c3 e s s T w):cE.wp Tryd.prog (fun e t u=>t.defers=[]∧(e=.normal∧False∨e=.ret∧t.tmps.getD 2 undef=.bool true)) ⟨T,[]⟩ w:=by
 obtain ⟨J,rfl⟩:∃ J,T=TV J:=⟨_,tv_of H.size⟩;have j10:J 10=AE c3:=H.t10;have j11:J 11=.bool true:=H.t11;have j12:J 12=AE e:=H.t12;have j13:J 13=.bool true:=H.t13;have heq:=fun W=>DT s.k s.ax s.ay s.fx s.fy s.u s.g s.d s.o W;have hgd:=Ct;rw [show cE=.seq (.region 10 _ false) .ret from rfl];go_upto_region 10 with fail;refine wp_region_lit ?_
 iterate 24 (first | (refine Ar (by simp [Region.wanted,yielded,Act.put]) 34 (.tmp 10) rfl c3 rfl (svs s) H.S3 Tryd.underlying34 rfl Ad ?_) | (refine Ar (by simp [Region.wanted,yielded,Act.put]) 34 (.tmp 12) rfl e rfl (svs s) H.S4 Tryd.underlying34 rfl Ad ?_) | go_step | skip)
 go_wp;exact ⟨rfl,.inr ⟨rfl,rfl⟩⟩
end
theorem way (a:Option Addr) (len cap:Nat) (zs:List Int) (W:World) (hr:IsRow .u8 W a len cap zs) (ca:Cel W a) (hq:Quarter W) (hG:XR.G≤W.heap.size):Ren.Way PP (PQ W) (Bp (Frame.enter PP fV #[.slice a len cap] .normal) []) W:=by
 refine Ren.Way.of_co (W:=W) (RO:=Lt W.heap.size) (O:=fun _=>False) ?_ (Ren.Alike.refl W) (fun j hj=>hj);have ha:ArrR XR.L (vr W W.heap.size) (#[.slice a len cap]++Array.replicate 89 undef) (#[.slice a len cap]++Array.replicate 89 undef) :=
  (ArrR.one (BQ ca)).append (.replicate _ (.tuple rfl fun i x y h=>by simp at h))
 have h:Sit XR gR W.heap.size (vr W W.heap.size) (fun _=>False) (fun j=>W.heap[j]?) (fun T u=>T=#[.slice a len cap]++Array.replicate 89 undef∧(IsRow .u8 u a len cap zs∧Quarter u)∧Hp (vh W W.heap.size) u) (#[.slice a len cap]++Array.replicate 89 undef) (fun _=>False) W :=
  Sit.start (Nat.le_refl _) hG (ER hq fun _ _=>rfl) (fun j h=>h.elim) ha ha (fun _ _=>rfl) (fun u hu=>⟨rfl,⟨hr.veil ca (Hp.refl hu),hq.veil (Hp.refl hu)⟩,Hp.refl hu⟩)
 rw [Ft fV_at (c:=kB) rfl,kB_eq];refine h.ctl rfl (fun w1=>AQ) ?_;refine h.wp Bc Bd AH (fun T u u' x e=>⟨x.1,⟨x.2.1.1.same e,x.2.1.2.same e⟩,x.2.2.same e⟩) nn (AB fV_at) k0 (Q1:=Za (vh W W.heap.size) 90 a len cap zs) (fun T u x=>?_) fun T1 O1 y1 h1=>?_
 · rw [x.1,tv_args];exact a0 (J:=fun z=>match z with | 0=>.slice a len cap | _=>undef) rfl x.2.1.1 x.2.1.2 x.2.2
 refine h1.ctl rfl (fun w1=>AQ) ?_;refine h1.wp2 Bc Bd AH Za.hpo nn (AB fV_at) kX (Q1:=Za (vh W W.heap.size) 90 a len cap zs) (Q2:=fun T u=>T.getD 2 undef=.bool true) (fun T u x=>aX x) (fun T2 O2 y2 h2=>?_) (fun k T2 O2 y2 h2=>h2.done (fun _ _=>rfl) fV_at (by kernel_rfl) (by rfl) fun T u x=>x);refine h2.ctl rfl (fun w1=>AQ) ?_;refine h2.wp Bc Bd AH Za.hpo nn (AB fV_at) k3 (Q1:=fun T u=>∃ L D N cc xs kz b,Vh (vh W W.heap.size) 90 0 L D N cc xs kz b T u) (fun T u x=>a3 x) fun T3 O3 y3 h3=>?_;obtain ⟨L,h3⟩:=h3.split;obtain ⟨D,h3⟩:=h3.split;obtain ⟨N,h3⟩:=h3.split;obtain ⟨cc,h3⟩:=h3.split;obtain ⟨xs,h3⟩:=h3.split
 obtain ⟨kz,h3⟩:=h3.split;obtain ⟨b,h3⟩:=h3.split;refine h3.ctl rfl (fun w1=>AQ) ?_;refine h3.ctl rfl (fun w1=>by rw [show c4=.region 4 (cO c4) false from rfl]; exact BC) ?_;refine h3.ops (l1:=[0,1,2]) (l2:=[3,4,5,6,7,8,9]) Bc Bd AH Vh.hpo nn (AB fV_at) o4 (Q1:=fun T u=>Vh (vh W W.heap.size) 90 0 L D N cc xs kz b T u∧T.getD 24 undef=L.val∧T.getD 25 undef=.slice D N cc∧T.getD 26 undef=.int .i64 kz) (fun T u x=>a4 x) fun T4 O4 y4 h4=>?_;have hz:=h4.slot (i:=26) (.int .i64 kz) fun T u x=>x.2.2.2
 refine h4.runTo hG (i:=3) (l:=[4,5,6,7,8,9]) (d:=27) (z:=.tmp 26) (k0:=kz) (L:=L) (A:=D) (n:=N) (cap:=cc) (xs:=xs) rfl rfl rfl rfl (by exact hz) (fun T u x=>⟨⟨x.2.1,x.2.2.1⟩,x.1.rd⟩) fun B2 y5 hB h5=>?_
 refine Sit.ops (l1:=[4,5,6,7,8,9]) (l2:=[]) (h5.mono (Q1:=fun T u=>Vh (vh W W.heap.size) 90 0 L D N cc xs kz b T u∧T.getD 27 undef=.tuple #[sva (L.fin xs N kz),.bool (BV L xs N kz)]) fun T u ⟨T0,x,e⟩=>?_) Bc Bd AH (fun T u u' x e=>⟨Vh.hpo T u u' x.1 e,x.2⟩) nn (AB fV_at) o4b (Q1:=fun T u=>∃ c,Vo (vh W W.heap.size) 90 0 L D N cc xs kz b c (L.fin xs N kz) (BV L xs N kz) T u) (fun T u x=>a5 x.1 x.2) fun T6 O6 y6 h6=>?_
 · subst e;exact ⟨⟨size_put.trans x.1.size,(Aw (by omega)).trans x.1.t3,(Aw (by omega)).trans x.1.t4,(Aw (by omega)).trans x.1.t5,x.1.P,x.1.rd,x.1.lo,x.1.hp,x.1.lb,x.1.bp,x.1.bd,x.1.sm⟩,Ce (by rw [x.1.size]; omega)⟩
 obtain ⟨c,h6⟩:=h6.split;refine h6.ctl rfl (fun w1=>Cj) ?_;rw [kR_eq];refine h6.ctl rfl (fun w1=>AQ) ?_;refine h6.wp Bc Bd AH Vo.hpo nn (AB fV_at) k5 (Q1:=fun T u=>∃ c2,Vp (vh W W.heap.size) 90 0 L D N cc xs kz b c c2 (L.fin xs N kz) (BV L xs N kz) T u) (fun T u x=>a5w x) fun T7 O7 y7 h7=>?_;obtain ⟨c2,h7⟩:=h7.split;refine h7.ctl rfl (fun w1=>AQ) ?_
 refine h7.wp2 Bc Bd AH Vp.hpo nn (AB fV_at) k6 (Q1:=fun T u=>Vo (vh W W.heap.size) 90 0 L D N cc xs kz b c (L.fin xs N kz) (BV L xs N kz) T u∧BV L xs N kz=true∧kz≠N) (Q2:=fun T u=>T.getD 2 undef=.bool true) (fun T u x=>a6 x) (fun T8 O8 y8 h8=>?_) (fun k T8 O8 y8 h8=>h8.done (fun j hj=>hB j hj) fV_at (by kernel_rfl) (by rfl) fun T u x=>x);refine h8.ctl rfl (fun w1=>AQ) ?_;have hx:=h8.fact fun T u x=>(⟨x.1.rd.ins.1,x.2.1,x.2.2⟩:xs.length=N∧BV L xs N kz=true∧kz≠N);obtain ⟨hkz,h3,h4',h5'⟩:=QC hx.1 hx.2.1 hx.2.2;refine h8.ctl rfl (fun w1=>by rw [show c8=.region 8 (cO c8) false from rfl]; exact BC) ?_
 refine h8.ops (l1:=[0,1,2,3]) (l2:=[4,5,6,7,8,9,10]) Bc Bd AH (fun T u u' x e=>⟨Vo.hpo T u u' x.1 e,x.2⟩) nn (AB fV_at) o8 (Q1:=fun T u=>Vo (vh W W.heap.size) 90 0 L D N cc xs kz b c (L.fin xs N kz) (BV L xs N kz) T u∧T.getD 64 undef=L.val∧T.getD 65 undef=.slice D N cc∧T.getD 67 undef=.int .i64 (kz+1)) (fun T u x=>a8 x.1) fun T9 O9 y9 h9=>?_;have hz:=h9.slot (i:=67) (.int .i64 (kz+1)) fun T u x=>x.2.2.2
 refine h9.runTo hG (i:=4) (l:=[5,6,7,8,9,10]) (d:=68) (z:=.tmp 67) (k0:=kz+1) (L:=L) (A:=D) (n:=N) (cap:=cc) (xs:=xs) rfl rfl rfl rfl (by exact hz) (fun T u x=>⟨⟨x.2.1,x.2.2.1⟩,x.1.rd⟩) fun B3 y10 hB3 h10=>?_
 refine Sit.ops (l1:=[5,6,7,8,9,10]) (l2:=[]) (h10.mono (Q1:=fun T u=>Vo (vh W W.heap.size) 90 0 L D N cc xs kz b c (L.fin xs N kz) (BV L xs N kz) T u∧T.getD 68 undef=.tuple #[sva (L.fin xs N (kz+1)),.bool (BV L xs N (kz+1))]) fun T u ⟨T0,x,e⟩=>?_) Bc Bd AH (fun T u u' x e=>⟨Vo.hpo T u u' x.1 e,x.2⟩) nn (AB fV_at) o8b (Q1:=fun T u=>∃ c3,Vt (vh W W.heap.size) L D N cc xs kz b c c3 (L.fin xs N kz) (BV L xs N kz) (L.fin xs N (kz+1)) (BV L xs N (kz+1)) T u) (fun T u x=>a8b x.1 x.2) fun T11 O11 y11 h11=>?_
 · subst e;exact ⟨x.1.put (by omega) _,Ce (by rw [x.1.size]; omega)⟩
 obtain ⟨c3,h11⟩:=h11.split;rw [h3,h4'] at h11;refine h11.ctl rfl (fun w1=>Cj) ?_;refine h11.ctl rfl (fun w1=>AQ) ?_;refine h11.wp Bc Bd AH Vt.hpo nn (AB fV_at) k9 (Q1:=fun T u=>∃ e,Ve c3 e (L.nx (L.fin xs N kz) (xs.getD kz.toNat iz)) (L.nx (L.fin xs N kz) (xs.getD kz.toNat iz)) T u) (fun T u x=>a9 x hkz h5') fun T12 O12 y12 h12=>?_;obtain ⟨e,h12⟩:=h12.split
 exact h12.wp2 Bc Bd AH Ve.hpo nn (AB fV_at) kE (Q1:=fun _ _=>False) (Q2:=fun T u=>T.getD 2 undef=.bool true) (fun T u x=>aE x) (fun T7 O7 y7 h7=>h7.fact fun _ _ x=>x.elim) (fun k T7 O7 y7 h7=>h7.done (fun j hj=>(hB3 j hj).trans (hB j hj)) fV_at (by kernel_rfl) (by rfl) fun T u x=>x)
end Go.Proofs.YtkpogcflgghfiaaDoor.fnRunNextW
