import Derived.Test.YtaemcekcancpdaaGreatDoorZRunVal
import Derived.Test.YtaemcekcancpdaaGreatDoorZLegImpl
set_option linter.all false
set_option maxRecDepth 100000
set_option maxHeartbeats 8000000
open Go.Lib
namespace Go.Proofs.YtaemcekcancpdaaGreatDoor
open Go.RowKit
open M
open Ren
noncomputable abbrev tB:Code:=Dr Tryz.f10
noncomputable def t0:Code:=cA tB
noncomputable def t1:Code:=cA (cA (cB tB))
noncomputable def t2:Code:=match cB (cA (cB tB)) with | .cond _ x _=>cA x | _=>.skip
noncomputable def tC:Code:=cB (cB tB)
noncomputable def t3:Code:=cA tC
noncomputable def t4:Code:=cA (cA (cB tC))
noncomputable def tL:Code:=cI (cI (cB (cA (cB tC))))
noncomputable def t5:Code:=cA tL
noncomputable def t6:Code:=cA (cI (cB (cB tL)))
noncomputable def t7:Code:=cB (cI (cB (cB tL)))
noncomputable def t8:Code:=cA (cB (cB tC))
theorem UD:tB=.seq t0 (.seq (.seq t1 (.cond (.tmp 23) (.seq t2 .ret) .skip)) (.seq t3 (.seq (.seq t4 (.block 0 (.loop tL))) (.seq t8 .ret)))):=rfl
noncomputable abbrev pB:Code:=Dr Tryz.f25
noncomputable def p0:Code:=cA pB
noncomputable def p1:Code:=cA (cB pB)
noncomputable def p2:Code:=cA (cB (cB pB))
noncomputable def p3:Code:=cA (cB (cB (cB pB)))
theorem UE:pB=.seq p0 (.seq p1 (.seq p2 (.seq p3 .ret))):=rfl
abbrev TR(J:Nat->Value):Array Value:=#[J 0,J 1,J 2,J 3,J 4,J 5,J 6,J 7,J 8,J 9,J 10,J 11,J 12,J 13,J 14,J 15,J 16,J 17,J 18,J 19,J 20,J 21,J 22,J 23,J 24,J 25,J 26,J 27,J 28,J 29,J 30,J 31,J 32,J 33,J 34]
theorem Ha{T:Array Value}(h:T.size=35):T=TR fun n=>T.getD n undef:=by
 refine Array.ext h fun i h1 h2=>?_;have e:∀ n (hn:n<T.size),T.getD n undef=T[n]:=fun n hn=>by simp[Array.getD,hn]
 simp only[TR];have:i<35:=h▸h1
 iterate 35 (rcases i with _ | i; · exact(e _ _).symm)
 omega
abbrev TP(J:Nat->Value):Array Value:=#[J 0,J 1,J 2,J 3,J 4,J 5,J 6,J 7,J 8,J 9,J 10]
theorem Qn{T:Array Value}(h:T.size=11):T=TP fun n=>T.getD n undef:=by
 refine Array.ext h fun i h1 h2=>?_;have e:∀ n (hn:n<T.size),T.getD n undef=T[n]:=fun n hn=>by simp[Array.getD,hn]
 simp only[TP];have:i<11:=h▸h1
 iterate 11 (rcases i with _ | i; · exact(e _ _).symm)
 omega
theorem Az{P:Program}{ops:Array Oper}{rest:List Oper}{o:Oper}{a:Act}{w:World}{Q:Exit->Act->World->Prop}(hw:Region.wanted o (yielded ops a.tmps)=true)(ty:TypeId)(x:Operand)(ho:o.op=.load ty x)
 (b:Nat) (hx:a.eval x=.pointer (some ⟨b,0,none⟩)) (vs:List Value) (L:CellsAt w b vs) {d:TypeDesc} (hu:P.underlying ty=some d) (hd:d.isRow=true) (hi:(P.info? ty).map (·.size)=some vs.length)
 (h:wpList P ops Q rest (a.put o.dst (.agg vs.toArray)) w):wpList P ops Q (o::rest) a w:=by
 simp only[wpList,hw,if_true];exact .inl (wp_load_mid ty x ho b 0 hx vs d L.range hu hd hi h)
theorem JB(L:Lv)(D:Option Addr)(k cc:Nat)(xs:List In)(w:World)(I:Boxes w L.A L.n L.ws)(J:Boxes w L.G L.m L.gs)(hn:L.n<=281474976710656)(hm:L.m<=281474976710656)(Y:Inputs w D k xs)(hk:k<=281474976710656) :
 Calls Tryz.prog 24 #[L.val,.slice D k cc] w fun e w'=>e=.returned (.bool (decide (JO L.i L.t L.x L.y L.ws L.gs L.fp L.fq L.fs L.fz L.b xs=-1)))/\Below w.heap.size w w':=by
 have V:=hid fun(W:World) (Z:Boxes W L.A L.n L.ws) (X:Boxes W L.G L.m L.gs) (Y:Inputs W D k xs)=>L2 L.i L.t L.x L.y L.A L.n L.c L.G L.m L.kk L.fp L.fq L.fs L.fz L.b L.ws L.gs D k cc xs W Z X hn hm Y hk;have P:CellsAt (w.alloc (.cells #[.int .i64 L.i,.int .i64 L.t,.int .i64 L.x,.int .i64 L.y,.slice L.A L.n L.c,.slice L.G L.m L.kk,.int .i64 L.fp,.int .i64 L.fq,.int .i64 L.fs,.int .i64 L.fz,.int .i64 L.b] 29)) w.heap.size L.cs:=CellsAt.new w _ _ _ rfl
 have I:=hid (I.alloc (.cells #[.int .i64 L.i,.int .i64 L.t,.int .i64 L.x,.int .i64 L.y,.slice L.A L.n L.c,.slice L.G L.m L.kk,.int .i64 L.fp,.int .i64 L.fq,.int .i64 L.fs,.int .i64 L.fz,.int .i64 L.b] 29));have J:=hid (J.alloc (.cells #[.int .i64 L.i,.int .i64 L.t,.int .i64 L.x,.int .i64 L.y,.slice L.A L.n L.c,.slice L.G L.m L.kk,.int .i64 L.fp,.int .i64 L.fq,.int .i64 L.fs,.int .i64 L.fz,.int .i64 L.b] 29));have Y:=hid (Y.alloc (.cells #[.int .i64 L.i,.int .i64 L.t,.int .i64 L.x,.int .i64 L.y,.slice L.A L.n L.c,.slice L.G L.m L.kk,.int .i64 L.fp,.int .i64 L.fq,.int .i64 L.fs,.int .i64 L.fz,.int .i64 L.b] 29))
 have H:=hid (Aa (Ac w) (.cells #[.int .i64 L.i,.int .i64 L.t,.int .i64 L.x,.int .i64 L.y,.slice L.A L.n L.c,.slice L.G L.m L.kk,.int .i64 L.fp,.int .i64 L.fq,.int .i64 L.fs,.int .i64 L.fz,.int .i64 L.b] 29));go_enter Tryz.func24,Tryz.ntmps24;go_upto_region 1 with fail;refine wp_region_lit ?_;refine Af rfl 29 (.tmp 2) rfl w.heap.size rfl L.cs P Tryz.underlying29 rfl Ad ?_;go_wp;refine(V.out _ I.out J.out Y.out).mono ?_;rintro e w1 ⟨rfl,B⟩;have H:=hid (Ab H.out B);clear B I J Y V P;go_wp2;go_ret;exact⟨by simp[Bool.beq_eq_decide_eq],H.out⟩
structure Ra(h0:Array Obj)(lv:List Value)(is:Value)(k0:Int)(b c:Nat)(T:Array Value)(u:World):Prop where
 size:T.size=35
 t1:T.getD 1 undef=is
 t2:T.getD 2 undef=.int .i64 k0
 t3:T.getD 3 undef=AA b
 t6:T.getD 6 undef=AA c
 L:CellsAt u b lv
 R:CellsAt u c (svs z0)
 hp:Hp h0 u
 lb:h0.size<=b
 lc:h0.size<=c
 ne:b≠c
structure Rb(h0:Array Obj)(lv:List Value)(is:Value)(k0:Int)(b c d:Nat)(s:St)(T:Array Value)(u:World):Prop extends Ra h0 lv is k0 b c T u where
 t8:T.getD 8 undef=AA d
 S:CellsAt u d (svs s)
 ld:h0.size<=d
 nb:b≠d
 nc:c≠d
theorem Ra.hpo{h0:Array Obj}{lv:List Value}{is:Value}{k0:Int}{b c:Nat}:Hpo (Ra h0 lv is k0 b c):=fun _ _ _ h e=>{ h with L:=h.L.same e,R:=h.R.same e,hp:=h.hp.same e }
theorem Rb.hpo{h0:Array Obj}{lv:List Value}{is:Value}{k0:Int}{b c d:Nat}{s:St}:Hpo (Rb h0 lv is k0 b c d s):=fun _ _ _ h e=>{ h with L:=h.L.same e,R:=h.R.same e,hp:=h.hp.same e,S:=h.S.same e }
section
variable {h0:Array Obj} {L:Lv} {A:Option Addr} {n cap:Nat} {xs:List In} {k0:Int}
theorem v0{J:Nat->Value}{w:World}(H:Hp h0 w)(j0:J 0=L.val)(j1:J 1=.slice A n cap)(j2:J 2=.int .i64 k0):t0.wp Tryz.prog (fun e a u=>e=.normal/\a.defers=[]/\∃ b c,Ra h0 L.cs (.slice A n cap) k0 b c a.tmps u) ⟨TR J,[]⟩ w:=by
 rw[show t0=.region 0 _ false from rfl];go_wp;have B:=Aa (Aa (Ac w) (.cells #[.int .i64 L.i,.int .i64 L.t,.int .i64 L.x,.int .i64 L.y,.slice L.A L.n L.c,.slice L.G L.m L.kk,.int .i64 L.fp,.int .i64 L.fq,.int .i64 L.fs,.int .i64 L.fz,.int .i64 L.b] 29)) (.cells #[.int .i64 0,.int .i64 0,.int .i64 0,.int .i64 0,.int .i64 0,.int .i64 0,.int .i64 0,.bool false,.bool false] 34);have:=H.size;refine⟨rfl,rfl,w.heap.size,w.heap.size+1,rfl,rfl,rfl,rfl,rfl,(CellsAt.new w _ L.cs 29 rfl).alloc _,CellsAt.new _ _ (svs z0) 34 (by simp),H.step B,?_,?_,?_⟩
 all_goals omega
def B8(L:Lv)(xs:List In)(n:Nat)(k0:Int):Bool:=decide (0<=k0)&&(decide (k0<=n)&&decide (JO L.i L.t L.x L.y L.ws L.gs L.fp L.fq L.fs L.fz L.b xs=-1))
def Lv.ans(L:Lv)(xs:List In)(n:Nat)(k0:Int):Value:=.tuple #[sva (if B8 L xs n k0 then L.run (xs.take k0.toNat) else z0),.bool (B8 L xs n k0)]
theorem v1(hS:∀ u,Hp h0 u->Calls Tryz.prog 24 #[L.val,.slice A n cap] u fun e w'=>e=.returned (.bool (decide (JO L.i L.t L.x L.y L.ws L.gs L.fp L.fq L.fs L.fz L.b xs=-1)))/\Below u.heap.size u w'){b c:Nat}{T:Array Value}{w:World}(H:Ra h0 L.cs (.slice A n cap) k0 b c T w) :
 t1.wp Tryz.prog (fun e a u=>e=.normal/\a.defers=[]/\(Ra h0 L.cs (.slice A n cap) k0 b c a.tmps u/\a.tmps.getD 23 undef=.bool (!B8 L xs n k0))) ⟨T,[]⟩ w:=by
 obtain⟨J,rfl⟩:∃ J,T=TR J:=⟨_,Ha H.size⟩;have j1:J 1=.slice A n cap:=H.t1;have j2:J 2=.int .i64 k0:=H.t2;have j3:J 3=AA b:=H.t3;have j6:J 6=AA c:=H.t6;have e:t1=.region 1 _ false:=rfl;cases g1:decide (k0<0)
 . cases g2:decide ((n:Int)<k0)
   . rw[e];apply wp_region_lit
     iterate 23 go_step
     refine Az (by simp[Region.wanted,yielded]) 29 (.tmp 3) rfl b rfl L.cs H.L Tryz.underlying29 rfl Ad ?_;go_wp;rename_i K hK;refine(hS _ H.hp).mono ?_;rintro e w1 ⟨rfl,B⟩;dsimp only;apply hK;go_wp;refine⟨rfl,rfl,⟨rfl,rfl,rfl,rfl,rfl,H.L.step B,H.R.step B,H.hp.step B,H.lb,H.lc,H.ne⟩,?_⟩;simp only[decide_eq_false_iff_not] at g1 g2;simp[B8,show 0<=k0 by omega,show k0<=(n:Int) by omega]
   . rw[e];go_wp;refine⟨rfl,rfl,⟨rfl,rfl,rfl,rfl,rfl,H.L,H.R,H.hp,H.lb,H.lc,H.ne⟩,?_⟩;simp only[decide_eq_true_eq] at g2;simp[B8,show ¬ k0<=(n:Int) by omega]
 . rw[e];go_wp;refine⟨rfl,rfl,⟨rfl,rfl,rfl,rfl,rfl,H.L,H.R,H.hp,H.lb,H.lc,H.ne⟩,?_⟩;simp only[decide_eq_true_eq] at g1;simp[B8,show ¬ 0<=k0 by omega]
structure Rz(c:Nat)(T:Array Value)(u:World):Prop where
 size:T.size=35
 t6:T.getD 6 undef=AA c
 t7:T.getD 7 undef=.bool false
 R:CellsAt u c (svs z0)
theorem Rz.hpo{c:Nat}:Hpo (Rz c):=fun _ _ _ h e=>{ h with R:=h.R.same e }
theorem v2{lv:List Value}{is:Value}{b c:Nat}{T:Array Value}{w:World}(H:Ra h0 lv is k0 b c T w):t2.wp Tryz.prog (fun e a u=>e=.normal/\a.defers=[]/\Rz c a.tmps u) ⟨T,[]⟩ w:=by
 obtain⟨J,rfl⟩:∃ J,T=TR J:=⟨_,Ha H.size⟩;have j6:J 6=AA c:=H.t6;rw[show t2=.region 2 _ false from rfl];apply wp_region_lit
 iterate 3 go_step
 refine Bt rfl 34 (.tmp 6) (.tmp 24) rfl c rfl (svs z0) rfl _ H.R (Nat.le_refl _) Ae rfl ?_;go_wp;exact⟨rfl,rfl,rfl,rfl,rfl,H.R.all _ (Nat.le_refl _)⟩
theorem v3{lv:List Value}{is:Value}{b c:Nat}{T:Array Value}{w:World}(H:Ra h0 lv is k0 b c T w):t3.wp Tryz.prog (fun e a u=>e=.normal/\a.defers=[]/\∃ d,Rb h0 lv is k0 b c d z0 a.tmps u) ⟨T,[]⟩ w:=by
 obtain⟨J,rfl⟩:∃ J,T=TR J:=⟨_,Ha H.size⟩;have j1:J 1=is:=H.t1;have j2:J 2=.int .i64 k0:=H.t2;have j3:J 3=AA b:=H.t3;have j6:J 6=AA c:=H.t6;rw[show t3=.region 3 _ false from rfl];go_wp;have B:=Aa (Ac w) (.cells #[.int .i64 0,.int .i64 0,.int .i64 0,.int .i64 0,.int .i64 0,.int .i64 0,.int .i64 0,.bool false,.bool false] 34);have:=H.hp.size;have:=H.L.lt;have:=H.R.lt;refine⟨rfl,rfl,w.heap.size,⟨rfl,rfl,rfl,rfl,rfl,H.L.step B,H.R.step B,H.hp.step B,H.lb,H.lc,H.ne⟩,rfl,CellsAt.new _ _ (svs z0) 34 rfl,?_,?_,?_⟩
 all_goals omega
def Rc(h0:Array Obj)(L:Lv)(A:Option Addr)(n cap:Nat)(k0:Int)(b c d:Nat)(T:Array Value)(u:World):Prop:=Rb h0 L.cs (.slice A n cap) k0 b c d z0 T u/\T.getD 25 undef=L.val/\T.getD 28 undef=.slice A k0.toNat cap
theorem Sf:Cc .any (cO t4) (cO t4).size (Array.replicate (cO t4).size false)=[[0,1,2,3,4],[0,2,1,3,4],[1,0,2,3,4],[1,2,0,3,4],[1,2,3,0,4],[2,0,1,3,4],[2,1,0,3,4],[2,1,3,0,4]]:=by kernel_rfl
theorem v4(hc:n<=cap)(hn:n<=281474976710656)(h1:0<=k0)(h2:k0<=n){l:List Nat}(hl:l∈[[0,1,2,3],[0,2,1,3],[1,0,2,3],[1,2,0,3],[1,2,3,0],[2,0,1,3],[2,1,0,3],[2,1,3,0]]){b c d:Nat}{T:Array Value}{w:World}(H:Rb h0 L.cs (.slice A n cap) k0 b c d z0 T w) :
 wpOps Tryz.prog (cO t4) (fun e a u=>e=.normal/\a.defers=[]/\Rc h0 L A n cap k0 b c d a.tmps u) l ⟨T,[]⟩ w:=by
 obtain⟨J,rfl⟩:∃ J,T=TR J:=⟨_,Ha H.size⟩;have j1:J 1=.slice A n cap:=H.t1;have j2:J 2=.int .i64 k0:=H.t2;have j3:J 3=AA b:=H.t3;have j6:J 6=AA c:=H.t6;have j8:J 8=AA d:=H.t8;obtain⟨k,rfl⟩:=Int.eq_ofNat_of_zero_le h1;have h2':k<=n:=by omega
 have e:cO t4=#[_,_,_,_,_]:=rfl;simp only[List.mem_cons,List.not_mem_nil,or_false] at hl;rcases hl with rfl | rfl | rfl | rfl | rfl | rfl | rfl | rfl
 . rw[Ah (os:=[_,_,_,_]) rfl];simp only[e,List.getElem_toArray,List.getElem_cons_zero,List.getElem_cons_succ];refine Af rfl 29 (.tmp 3) rfl b j3 L.cs H.L Tryz.underlying29 rfl Ad ?_
   iterate 3 go_step
   iterate 3 go_step
   iterate 3 go_step
   try go_wp
   exact⟨rfl,rfl,⟨⟨rfl,rfl,rfl,rfl,rfl,H.L,H.R,H.hp,H.lb,H.lc,H.ne⟩,rfl,H.S,H.ld,H.nb,H.nc⟩,rfl,rfl⟩
 . rw[Ah (os:=[_,_,_,_]) rfl];simp only[e,List.getElem_toArray,List.getElem_cons_zero,List.getElem_cons_succ];refine Af rfl 29 (.tmp 3) rfl b j3 L.cs H.L Tryz.underlying29 rfl Ad ?_
   iterate 3 go_step
   iterate 3 go_step
   iterate 3 go_step
   try go_wp
   exact⟨rfl,rfl,⟨⟨rfl,rfl,rfl,rfl,rfl,H.L,H.R,H.hp,H.lb,H.lc,H.ne⟩,rfl,H.S,H.ld,H.nb,H.nc⟩,rfl,rfl⟩
 . rw[Ah (os:=[_,_,_,_]) rfl];simp only[e,List.getElem_toArray,List.getElem_cons_zero,List.getElem_cons_succ]
   iterate 3 go_step
   refine Af rfl 29 (.tmp 3) rfl b rfl L.cs H.L Tryz.underlying29 rfl Ad ?_
   iterate 3 go_step
   iterate 3 go_step
   try go_wp
   exact⟨rfl,rfl,⟨⟨rfl,rfl,rfl,rfl,rfl,H.L,H.R,H.hp,H.lb,H.lc,H.ne⟩,rfl,H.S,H.ld,H.nb,H.nc⟩,rfl,rfl⟩
 . rw[Ah (os:=[_,_,_,_]) rfl];simp only[e,List.getElem_toArray,List.getElem_cons_zero,List.getElem_cons_succ]
   iterate 3 go_step
   iterate 3 go_step
   refine Af rfl 29 (.tmp 3) rfl b rfl L.cs H.L Tryz.underlying29 rfl Ad ?_
   iterate 3 go_step
   try go_wp
   exact⟨rfl,rfl,⟨⟨rfl,rfl,rfl,rfl,rfl,H.L,H.R,H.hp,H.lb,H.lc,H.ne⟩,rfl,H.S,H.ld,H.nb,H.nc⟩,rfl,rfl⟩
 . rw[Ah (os:=[_,_,_,_]) rfl];simp only[e,List.getElem_toArray,List.getElem_cons_zero,List.getElem_cons_succ]
   iterate 3 go_step
   iterate 3 go_step
   iterate 3 go_step
   refine Af rfl 29 (.tmp 3) rfl b rfl L.cs H.L Tryz.underlying29 rfl Ad ?_;go_wp
   try go_wp
   exact⟨rfl,rfl,⟨⟨rfl,rfl,rfl,rfl,rfl,H.L,H.R,H.hp,H.lb,H.lc,H.ne⟩,rfl,H.S,H.ld,H.nb,H.nc⟩,rfl,rfl⟩
 . rw[Ah (os:=[_,_,_,_]) rfl];simp only[e,List.getElem_toArray,List.getElem_cons_zero,List.getElem_cons_succ]
   iterate 3 go_step
   refine Af rfl 29 (.tmp 3) rfl b rfl L.cs H.L Tryz.underlying29 rfl Ad ?_
   iterate 3 go_step
   iterate 3 go_step
   try go_wp
   exact⟨rfl,rfl,⟨⟨rfl,rfl,rfl,rfl,rfl,H.L,H.R,H.hp,H.lb,H.lc,H.ne⟩,rfl,H.S,H.ld,H.nb,H.nc⟩,rfl,rfl⟩
 . rw[Ah (os:=[_,_,_,_]) rfl];simp only[e,List.getElem_toArray,List.getElem_cons_zero,List.getElem_cons_succ]
   iterate 3 go_step
   iterate 3 go_step
   refine Af rfl 29 (.tmp 3) rfl b rfl L.cs H.L Tryz.underlying29 rfl Ad ?_
   iterate 3 go_step
   try go_wp
   exact⟨rfl,rfl,⟨⟨rfl,rfl,rfl,rfl,rfl,H.L,H.R,H.hp,H.lb,H.lc,H.ne⟩,rfl,H.S,H.ld,H.nb,H.nc⟩,rfl,rfl⟩
 . rw[Ah (os:=[_,_,_,_]) rfl];simp only[e,List.getElem_toArray,List.getElem_cons_zero,List.getElem_cons_succ]
   iterate 3 go_step
   iterate 3 go_step
   iterate 3 go_step
   refine Af rfl 29 (.tmp 3) rfl b rfl L.cs H.L Tryz.underlying29 rfl Ad ?_;go_wp
   try go_wp
   exact⟨rfl,rfl,⟨⟨rfl,rfl,rfl,rfl,rfl,H.L,H.R,H.hp,H.lb,H.lc,H.ne⟩,rfl,H.S,H.ld,H.nb,H.nc⟩,rfl,rfl⟩
structure Rl(h0:Array Obj)(lv:List Value)(is:Value)(k0:Int)(ch:Value)(b c d:Nat)(s:St)(T:Array Value)(u:World):Prop extends Rb h0 lv is k0 b c d s T u where
 t29:T.getD 29 undef=ch
theorem Rl.hpo{h0:Array Obj}{lv:List Value}{is ch:Value}{k0:Int}{b c d:Nat}{s:St}:Hpo (Rl h0 lv is k0 ch b c d s):=fun _ _ _ h e=>{ h with L:=h.L.same e,R:=h.R.same e,hp:=h.hp.same e,S:=h.S.same e }
variable {lv:List Value} {is ch:Value} {b c d:Nat} {s:St} {T:Array Value} {w:World}
theorem v5{v:Value}{ok:Bool}(H:Rl h0 lv is k0 ch b c d s T w)(h30:T.getD 30 undef=.tuple #[v,.bool ok]) :
 wpOps Tryz.prog (cO t5) (fun e a u=>e=.normal/\a.defers=[]/\(Rl h0 lv is k0 ch b c d s a.tmps u/\a.tmps.getD 30 undef=.tuple #[v,.bool ok])/\a.tmps.getD 31 undef=.bool ok) [1] ⟨T,[]⟩ w:=by
 obtain⟨J,rfl⟩:∃ J,T=TR J:=⟨_,Ha H.size⟩;have j1:J 1=is:=H.t1;have j2:J 2=.int .i64 k0:=H.t2;have j3:J 3=AA b:=H.t3;have j6:J 6=AA c:=H.t6;have j8:J 8=AA d:=H.t8;have j29:J 29=ch:=H.t29;have j30:J 30=.tuple #[v,.bool ok]:=h30;have e:cO t5=#[_,_]:=rfl;rw[Ah (os:=[_]) rfl];simp only[e,List.getElem_toArray,List.getElem_cons_zero,List.getElem_cons_succ];go_wp;exact⟨rfl,rfl,⟨⟨⟨⟨rfl,rfl,rfl,rfl,rfl,H.L,H.R,H.hp,H.lb,H.lc,H.ne⟩,rfl,H.S,H.ld,H.nb,H.nc⟩,rfl⟩,rfl⟩,rfl⟩
structure Re(h0:Array Obj)(lv:List Value)(is:Value)(k0:Int)(ch:Value)(b c d e:Nat)(s s':St)(T:Array Value)(u:World):Prop extends Rl h0 lv is k0 ch b c d s T u where
 t9:T.getD 9 undef=AA e
 Y:CellsAt u e (svs s')
theorem Re.hpo{h0:Array Obj}{lv:List Value}{is ch:Value}{k0:Int}{b c d e:Nat}{s s':St}:Hpo (Re h0 lv is k0 ch b c d e s s'):=fun _ _ _ h e=>{ h with L:=h.L.same e,R:=h.R.same e,hp:=h.hp.same e,S:=h.S.same e,Y:=h.Y.same e }
theorem v6{s':St}{ok:Bool}(H:Rl h0 lv is k0 ch b c d s T w)(h30:T.getD 30 undef=.tuple #[sva s',.bool ok]) :
 t6.wp Tryz.prog (fun e a u=>e=.normal/\a.defers=[]/\∃ e,Re h0 lv is k0 ch b c d e s s' a.tmps u) ⟨T,[]⟩ w:=by
 obtain⟨J,rfl⟩:∃ J,T=TR J:=⟨_,Ha H.size⟩;have j1:J 1=is:=H.t1;have j2:J 2=.int .i64 k0:=H.t2;have j3:J 3=AA b:=H.t3;have j6:J 6=AA c:=H.t6;have j8:J 8=AA d:=H.t8;have j29:J 29=ch:=H.t29;have j30:J 30=.tuple #[sva s',.bool ok]:=h30;rw[show t6=.region 6 _ false from rfl];apply wp_region_lit
 iterate 6 go_step
 refine Ai rfl 34 (.tmp 9) (.tmp 32) rfl w.heap.size rfl (svs s') rfl _ (CellsAt.new w _ [_,_,_,_,_,_,_,_,_] 34 rfl) (Nat.le_refl _) Ae rfl ?_;intro w2 K Y;go_wp;have B2:=Aa (Ac w) (.cells #[.int .i64 0,.int .i64 0,.int .i64 0,.int .i64 0,.int .i64 0,.int .i64 0,.int .i64 0,.bool false,.bool false] 34);have h1:=H.L.lt;have h2:=H.R.lt;have h3:=H.S.lt;have h4:=H.hp.size;exact⟨rfl,rfl,w.heap.size,⟨⟨⟨rfl,rfl,rfl,rfl,rfl,(H.L.step B2).kept K (by omega),(H.R.step B2).kept K (by omega),(H.hp.step B2).kept K (by omega),H.lb,H.lc,H.ne⟩,rfl,(H.S.step B2).kept K (by omega),H.ld,H.nb,H.nc⟩,rfl⟩,rfl,Y⟩
theorem v7{e:Nat}{s':St}(H:Re h0 lv is k0 ch b c d e s s' T w):t7.wp Tryz.prog (fun e a u=>e=.normal/\a.defers=[]/\Rl h0 lv is k0 ch b c d s' a.tmps u) ⟨T,[]⟩ w:=by
 obtain⟨J,rfl⟩:∃ J,T=TR J:=⟨_,Ha H.size⟩;have j1:J 1=is:=H.t1;have j2:J 2=.int .i64 k0:=H.t2;have j3:J 3=AA b:=H.t3;have j6:J 6=AA c:=H.t6;have j8:J 8=AA d:=H.t8;have j9:J 9=AA e:=H.t9;have j29:J 29=ch:=H.t29;rw[show t7=.region 7 _ false from rfl];apply wp_region_lit;refine Af rfl 34 (.tmp 9) rfl e j9 (svs s') H.Y Tryz.underlying34 rfl Ae ?_;refine Ai rfl 34 (.tmp 8) (.tmp 33) rfl d j8 (svs s') rfl _ H.S (Nat.le_refl _) Ae rfl ?_;intro w2 K S;go_wp;exact⟨rfl,rfl,⟨⟨rfl,j1,j2,j3,j6,H.L.kept K H.nb,H.R.kept K H.nc,H.hp.kept K H.ld,H.lb,H.lc,H.ne⟩,j8,S,H.ld,H.nb,H.nc⟩,j29⟩
structure Rf(c:Nat)(s:St)(T:Array Value)(u:World):Prop where
 size:T.size=35
 t6:T.getD 6 undef=AA c
 t7:T.getD 7 undef=.bool true
 R:CellsAt u c (svs s)
theorem Rf.hpo{c:Nat}{s:St}:Hpo (Rf c s):=fun _ _ _ h e=>{ h with R:=h.R.same e }
theorem v8(H:Rb h0 lv is k0 b c d s T w):t8.wp Tryz.prog (fun e a u=>e=.normal/\a.defers=[]/\Rf c s a.tmps u) ⟨T,[]⟩ w:=by
 obtain⟨J,rfl⟩:∃ J,T=TR J:=⟨_,Ha H.size⟩;have j6:J 6=AA c:=H.t6;have j8:J 8=AA d:=H.t8;rw[show t8=.region 8 _ false from rfl];apply wp_region_lit;refine Af rfl 34 (.tmp 8) rfl d j8 (svs s) H.S Tryz.underlying34 rfl Ae ?_;refine Ai rfl 34 (.tmp 6) (.tmp 34) rfl c j6 (svs s) rfl _ H.R (Nat.le_refl _) Ae rfl ?_;intro w2 K S;go_wp;exact⟨rfl,rfl,rfl,rfl,rfl,S⟩
theorem Qo{b:Bool}(h6:T.getD 6 undef=AA c)(h7:T.getD 7 undef=.bool b)(R:CellsAt w c (svs s)):(results Tryz.f10 T).run Tryz.prog w=.ok (.tuple #[sva s,.bool b]) w :=
 AY rfl c (by simpa[Array.getD_eq_getD_getElem?] using h6) (svs s) R (.bool b) (by simpa[Array.getD_eq_getD_getElem?] using h7) Tryz.underlying34 rfl Ae
structure Pa(h0:Array Obj)(lv:List Value)(is:Value)(b:Nat)(T:Array Value)(u:World):Prop where
 size:T.size=11
 t1:T.getD 1 undef=is
 t2:T.getD 2 undef=AA b
 L:CellsAt u b lv
 hp:Hp h0 u
 lb:h0.size<=b
theorem Pa.hpo{h0:Array Obj}{lv:List Value}{is:Value}{b:Nat}:Hpo (Pa h0 lv is b):=fun _ _ _ h e=>{ h with L:=h.L.same e,hp:=h.hp.same e }
theorem u0{J:Nat->Value}(H:Hp h0 w)(j0:J 0=L.val)(j1:J 1=is):p0.wp Tryz.prog (fun e a u=>e=.normal/\a.defers=[]/\∃ b,Pa h0 L.cs is b a.tmps u) ⟨TP J,[]⟩ w:=by
 rw[show p0=.region 0 _ false from rfl];go_wp;exact⟨rfl,rfl,w.heap.size,rfl,rfl,rfl,CellsAt.new w _ L.cs 29 rfl,H.step (Aa (Ac w) _),H.size⟩
theorem u1(H:Pa h0 lv is b T w)(h6:T.getD 6 undef=ch):wpOps Tryz.prog (cO p1) (fun e a u=>e=.normal/\a.defers=[]/\(Pa h0 lv is b a.tmps u/\a.tmps.getD 5 undef=ch)) [1] ⟨T,[]⟩ w:=by
 obtain⟨J,rfl⟩:∃ J,T=TP J:=⟨_,Qn H.size⟩;have j1:J 1=is:=H.t1;have j2:J 2=AA b:=H.t2;have j6:J 6=ch:=h6;have e:cO p1=#[_,_]:=rfl;rw[Ah (os:=[_]) rfl];simp only[e,List.getElem_toArray,List.getElem_cons_zero,List.getElem_cons_succ];go_wp;exact⟨rfl,rfl,⟨rfl,rfl,rfl,H.L,H.hp,H.lb⟩,rfl⟩
theorem u2(H:Pa h0 L.cs is b T w)(h5:T.getD 5 undef=ch):wpOps Tryz.prog (cO p2) (fun e a u=>e=.normal/\a.defers=[]/\((Pa h0 L.cs is b a.tmps u/\a.tmps.getD 5 undef=ch)/\a.tmps.getD 7 undef=L.val/\a.tmps.getD 8 undef=is/\a.tmps.getD 9 undef=ch)) [0,1,2] ⟨T,[]⟩ w:=by
 obtain⟨J,rfl⟩:∃ J,T=TP J:=⟨_,Qn H.size⟩;have j1:J 1=is:=H.t1;have j2:J 2=AA b:=H.t2;have j5:J 5=ch:=h5;have e:cO p2=#[_,_,_,_]:=rfl;rw[Ah (os:=[_,_,_]) rfl];simp only[e,List.getElem_toArray,List.getElem_cons_zero,List.getElem_cons_succ];refine Af rfl 29 (.tmp 2) rfl b j2 L.cs H.L Tryz.underlying29 rfl Ad ?_;go_wp;exact⟨rfl,rfl,⟨⟨rfl,rfl,rfl,H.L,H.hp,H.lb⟩,rfl⟩,rfl,rfl,rfl⟩
theorem u3(H:Pa h0 L.cs is b T w)(h5:T.getD 5 undef=ch):p3.wp Tryz.prog (fun e a u=>e=.normal/\a.defers=[]/\a.tmps.getD 4 undef=ch) ⟨T,[]⟩ w:=by
 obtain⟨J,rfl⟩:∃ J,T=TP J:=⟨_,Qn H.size⟩;have j5:J 5=ch:=h5;rw[show p3=.region 3 _ false from rfl];go_wp;exact⟨rfl,rfl,rfl⟩
theorem Ts(h4:T.getD 4 undef=ch):(results Tryz.f25 T).run Tryz.prog w=.ok ch w:=by
 rw[results_tmp (t:=4) rfl,h4]
end
end Go.Proofs.YtaemcekcancpdaaGreatDoor
