import Derived.Test.YtgbiagonfbnooaaGreatDoorZDrawRepC
import Derived.Test.YtgbiagonfbnooaaGreatDoorZRepK
set_option linter.all false
set_option maxRecDepth 100000
set_option maxHeartbeats 8000000
open Go.Lib
namespace Go.Proofs.YtgbiagonfbnooaaGreatDoor
open Go.RowKit
open M
abbrev Oa:List Value:=AW 0 0 0 0 none 0 0 none 0 0 0 0 0 0 0
structure GdW(B r:Nat)(w:World)(g:Nat)(L:Lv)(k:Int)(W:World):Prop where
 X:CellsAt W g L.cs
 I:Boxes W L.A L.n L.ws
 J:Boxes W L.G L.m L.gs
 MA:AK (w.heap.size+1+1) L.A
 MG:AK (w.heap.size+1+1) L.G
 nA:0<L.n->∀ q off,L.A=some ⟨q,off,none⟩->q≠g
 nG:0<L.m->∀ q off,L.G=some ⟨q,off,none⟩->q≠g
 hn:L.n<=10/\L.n<=L.c
 hm:L.m<=10/\L.m<=L.kk
 ok:Wok L.ws/\FF L.t L.x L.y L.b
 D:CellsAt W w.heap.size Oa
 E:CellsAt W (w.heap.size+1) Bp
 R:RdU B W r k
 K:Kept r w W
 bw:B<=w.heap.size
 rB:r<B
 lo:w.heap.size+1<g
theorem GdW.kept{B r:Nat}{w:World}{g:Nat}{L:Lv}{k:Int}{W:World}{k':Int}{W':World}(h:GdW B r w g L k W)(K:Kept r W W')(R:RdU B W' r k'):GdW B r w g L k' W':=by
 have h2:=h.bw; have h3:=h.rB; have h4:=h.lo;exact⟨h.X.kept K (by omega),h.I.kept K (fun _ q off e=>by have:=h.MA q off e; omega),h.J.kept K (fun _ q off e=>by have:=h.MG q off e; omega),h.MA,h.MG,h.nA,h.nG,h.hn,h.hm,h.ok,h.D.kept K (by omega),h.E.kept K (by omega),R,h.K.trans K,h2,h3,h4⟩
theorem GdW.step{B r:Nat}{w:World}{g:Nat}{L:Lv}{k:Int}{W:World}{W':World}(h:GdW B r w g L k W)(S:Below W.heap.size W W'):GdW B r w g L k W':=h.kept (Kept.of_below S) (h.R.below (S.mono (Nat.le_trans h.bw h.K.size)))
theorem GdW.mono{B r:Nat}{w:World}{g:Nat}{L:Lv}{k:Int}{W:World}{k':Int}(h:GdW B r w g L k W)(hk:k<=k'):GdW B r w g L k' W:={ h with R:=h.R.mono hk }
theorem GdW.put{B r:Nat}{w:World}{g:Nat}{L:Lv}{k:Int}{W:World}{L2:Lv}{lo:Nat}{W':World}(h:GdW B r w g L k W)(K2:Kept g W W')(X:CellsAt W' g L2.cs)(I:Boxes W L2.A L2.n L2.ws)(J:Boxes W L2.G L2.m L2.gs)(MA:AK lo L2.A)(MG:AK lo L2.G)(hlo:g<lo)(hn:L2.n<=10/\L2.n<=L2.c)(hm:L2.m<=10/\L2.m<=L2.kk)(ok:Wok L2.ws/\FF L2.t L2.x L2.y L2.b):GdW B r w g L2 k W':=by
 have h2:=h.bw; have h3:=h.rB; have h4:=h.lo;exact⟨X,I.kept K2 (fun _ q off e=>by have:=MA q off e; omega),J.kept K2 (fun _ q off e=>by have:=MG q off e; omega),fun q off e=>by have:=MA q off e; omega,fun q off e=>by have:=MG q off e; omega,fun _ q off e=>by have:=MA q off e; omega,fun _ q off e=>by have:=MG q off e; omega,hn,hm,ok,h.D.kept K2 (by omega),h.E.kept K2 (by omega),h.R.below (K2.below (Nat.le_trans h2 h.K.size) (by omega)),h.K.over K2 (by omega),h2,h3,h4⟩
theorem GdW.mA{B r:Nat}{w:World}{g:Nat}{L:Lv}{k:Int}{W:World}(h:GdW B r w g L k W):AK B L.A:=fun q off e=>by have:=h.MA q off e; have:=h.bw; omega
theorem GdW.mG{B r:Nat}{w:World}{g:Nat}{L:Lv}{k:Int}{W:World}(h:GdW B r w g L k W):AK B L.G:=fun q off e=>by have:=h.MG q off e; have:=h.bw; omega
def Oc(B r:Nat)(w:World)(g:Nat)(L:Lv)(k:Int)(v:Value)(W:World):Prop :=
 ∃(g8:Nat) (l p s:Int) (A:Option Addr) (n c:Nat) (H:Option Addr) (m d:Nat) (t:Int) (xs:List In) (hs:List Int),v=.pointer (some ⟨g8,0,none⟩)/\w.heap.size+1<g8/\CellsAt W g8 (AR l p s A n c H m d t)/\(n<=60/\m<=60)/\Inputs W A n xs/\Ints W H m hs/\AK (w.heap.size+1+1) A/\AK (w.heap.size+1+1) H/\GdW B r w g L k W
theorem GdW.away{B r:Nat}{w:World}{g:Nat}{L:Lv}{k:Int}{W:World}{g8:Nat}{W':World}(h:GdW B r w g L k W)(K2:Kept g8 W W')(h1:w.heap.size+1<g8)(hX:g≠g8)(hA:0<L.n->∀ q off,L.A=some ⟨q,off,none⟩->q≠g8)(hG:0<L.m->∀ q off,L.G=some ⟨q,off,none⟩->q≠g8):GdW B r w g L k W':=by
 have h2:=h.bw; have h3:=h.rB; have h4:=h.lo;exact⟨h.X.kept K2 hX,h.I.kept K2 hA,h.J.kept K2 hG,h.MA,h.MG,h.nA,h.nG,h.hn,h.hm,h.ok,h.D.kept K2 (by omega),h.E.kept K2 (by omega),h.R.below (K2.below (Nat.le_trans h2 h.K.size) (by omega)),h.K.over K2 (by omega),h2,h3,h4⟩
def Apart(g:Nat)(L:Lv)(g8:Nat):Prop:=g≠g8/\(0<L.n->∀ q off,L.A=some ⟨q,off,none⟩->q≠g8)/\(0<L.m->∀ q off,L.G=some ⟨q,off,none⟩->q≠g8)
theorem GdW.apart{B r:Nat}{w:World}{g:Nat}{L:Lv}{k:Int}{W:World}{g8:Nat}(h:GdW B r w g L k W)(h8:W.heap.size<=g8):Apart g L g8 :=
 ⟨by have:=h.X.lt; omega,fun h0 q off e=>by have:=h.I.lt h0 q off e; omega,fun h0 q off e=>by have:=h.J.lt h0 q off e; omega⟩
theorem Lt{P:Program}{fn:Func}{p q p2:Tmp}{ty ty2:TypeId}{tmps:Array Value}{w:World}(h:fn.results=#[.cell p ty,.tmp q,.cell p2 ty2])(b b2:Nat)(hp:tmps[p]?.getD undef=.pointer (some ⟨b,0,none⟩))(hp2:tmps[p2]?.getD undef=.pointer (some ⟨b2,0,none⟩))(vs ts:List Value)(L:CellsAt w b vs)(L2:CellsAt w b2 ts)(u:Value)(hq:tmps[q]?.getD undef=u){d d2:TypeDesc}
 (hu:P.underlying ty=some d) (hd:d.isRow=true) (hi:(P.info? ty).map (·.size)=some vs.length) (hu2:P.underlying ty2=some d2) (hd2:d2.isRow=true) (hi2:(P.info? ty2).map (·.size)=some ts.length):(results fn tmps).run P w=.ok (.tuple #[.agg vs.toArray,u,.agg ts.toArray]) w:=by
 simp[results,h,hp,hq,hp2,asAddr,run_loadVar_mid w b 0 ty vs d L.range hu hd hi,run_loadVar_mid w b2 0 ty2 ts d2 L2.range hu2 hd2 hi2]
theorem CF{L:Lv}{p k:Int}{xs:List In}{N:Nat}(h:xs.length=N):((rmake L p k xs N).getD rz).xs.length<=N/\((rmake L p k xs N).getD rz).hs.length<=N:=by
 unfold rmake;split
 . refine⟨by simp[make0,h],?_⟩;simp only[Option.getD_some,make0];unfold rhs;split<;>simp
   omega
 . simp[rz]
def Fj(B r:Nat)(k:Int)(w:World)(e:Ending)(w':World):Prop :=
 ∃(L:Lv) (key:Int) (l p s:Int) (A:Option Addr) (n c:Nat) (H:Option Addr) (m d:Nat) (t:Int) (xs:List In) (hs:List Int),e=.returned (.tuple #[L.val,.int .i64 key,CH l p s A n c H m d t])/\(L.n<=10/\L.n<=L.c)/\(L.m<=10/\L.m<=L.kk)/\(Wok L.ws/\FF L.t L.x L.y L.b)/\Boxes w' L.A L.n L.ws/\Boxes w' L.G L.m L.gs/\(n<=60/\m<=60)/\Inputs w' A n xs/\Ints w' H m hs/\(AK w.heap.size L.A/\AK w.heap.size L.G/\AK w.heap.size A/\AK w.heap.size H)/\RdU B w' r (k+700)/\Kept r w w'
theorem Jz{B r:Nat}{w:World}{g:Nat}{L:Lv}{k:Int}{W:World}{W1 W2:World}{k0:Int}{key l p s:Int}{A:Option Addr}{n c:Nat}{H:Option Addr}{m d:Nat}{t:Int}{xs:List In}{hs:List Int}(h:GdW B r w g L k W)(K1:Kept w.heap.size W W1)(K2:Kept (w.heap.size+1) W1 W2)(hk:k<=k0+700)(hnm:n<=60/\m<=60)(Y:Inputs W A n xs)(Z:Ints W H m hs)(MA:AK (w.heap.size+1+1) A)(MH:AK (w.heap.size+1+1) H):Fj B r k0 w (.returned (.tuple #[L.val,.int .i64 key,CH l p s A n c H m d t])) W2:=by
 have h2:=h.bw; have h3:=h.rB; have hw:=h.K.size; have hw1:=K1.size;exact⟨L,key,l,p,s,A,n,c,H,m,d,t,xs,hs,rfl,h.hn,h.hm,h.ok,
  (h.I.kept K1 (fun _ q off e=>by have:=h.MA q off e; omega)).kept K2 (fun _ q off e=>by have:=h.MA q off e; omega),(h.J.kept K1 (fun _ q off e=>by have:=h.MG q off e; omega)).kept K2 (fun _ q off e=>by have:=h.MG q off e; omega),hnm,
  (Y.kept K1 (fun _ q off e=>by have:=MA q off e; omega)).kept K2 (fun _ q off e=>by have:=MA q off e; omega),Ints.keptX (Ints.keptX Z K1 (fun _ q off e=>by have:=MH q off e; omega)) K2 (fun _ q off e=>by have:=MH q off e; omega),
  ⟨fun q off e=>by have:=h.MA q off e; omega,fun q off e=>by have:=h.MG q off e; omega,fun q off e=>by have:=MA q off e; omega,fun q off e=>by have:=MH q off e; omega⟩,
  ((h.R.mono hk).below (K1.below (by omega) (by omega))).below (K2.below (by omega) (by omega)),(h.K.over K1 (Nat.le_refl _)).over K2 (by omega)⟩
theorem G0{B:Nat}(r:Nat)(k:Int)(w:World)(R:RdU B w r k)(k0:0<=k)(hk:k<=50000) :
 Calls Tryz.prog 31 #[.pointer (some ⟨r,0,none⟩)] w (Fj B r k w):=by
 have hr:=R.here;have hB:=R.base;have D:CellsAt ((w.alloc (.cells #[.int .i64 0,.int .i64 0,.int .i64 0,.int .i64 0,.slice none 0 0,.slice none 0 0,.int .i64 0,.int .i64 0,.int .i64 0,.int .i64 0,.int .i64 0] 62)).alloc (.cells #[.int .i64 0,.int .i64 0,.int .i64 0,.slice none 0 0,.slice none 0 0,.int .i64 0] 26)) w.heap.size Oa:=(CellsAt.new w _ _ _ rfl).alloc _
 have E:CellsAt ((w.alloc (.cells #[.int .i64 0,.int .i64 0,.int .i64 0,.int .i64 0,.slice none 0 0,.slice none 0 0,.int .i64 0,.int .i64 0,.int .i64 0,.int .i64 0,.int .i64 0] 62)).alloc (.cells #[.int .i64 0,.int .i64 0,.int .i64 0,.slice none 0 0,.slice none 0 0,.int .i64 0] 26)) (w.heap.size+1) Bp:=CellsAt.new _ _ _ _ (by simp);have K:Kept r w ((w.alloc (.cells #[.int .i64 0,.int .i64 0,.int .i64 0,.int .i64 0,.slice none 0 0,.slice none 0 0,.int .i64 0,.int .i64 0,.int .i64 0,.int .i64 0,.int .i64 0] 62)).alloc (.cells #[.int .i64 0,.int .i64 0,.int .i64 0,.slice none 0 0,.slice none 0 0,.int .i64 0] 26)):=((Kept.refl r w).alloc _).alloc _
 replace R:RdU B ((w.alloc (.cells #[.int .i64 0,.int .i64 0,.int .i64 0,.int .i64 0,.slice none 0 0,.slice none 0 0,.int .i64 0,.int .i64 0,.int .i64 0,.int .i64 0,.int .i64 0] 62)).alloc (.cells #[.int .i64 0,.int .i64 0,.int .i64 0,.slice none 0 0,.slice none 0 0,.int .i64 0] 26)) r k:=(R.alloc _).alloc _;go_enter Tryz.func31,Tryz.ntmps31;go_upto_region 1 with fail;generalize (w.alloc (.cells #[.int .i64 0,.int .i64 0,.int .i64 0,.int .i64 0,.slice none 0 0,.slice none 0 0,.int .i64 0,.int .i64 0,.int .i64 0,.int .i64 0,.int .i64 0] 62)).alloc (.cells #[.int .i64 0,.int .i64 0,.int .i64 0,.slice none 0 0,.slice none 0 0,.int .i64 0] 26)=w0 at *
 replace D:=hid D;replace E:=hid E;replace K:=hid K;go_wp2_with fail;refine(Da r k w0 R (by omega)).mono ?_;rintro e w1 ⟨i,t,x,y,A,n,c,G,m,kk,fp,fq,fs,fz,b,ws,gs,rfl,hn,hm,ok,I,J,MA,MG,R1,K1⟩;have hE:=E.out.lt;have hK:=K1.size;have X0:GdW B r w w1.heap.size ⟨i,t,x,y,A,n,c,G,m,kk,fp,fq,fs,fz,b,ws,gs⟩ (k+60) (w1.alloc (.cells #[.int .i64 i,.int .i64 t,.int .i64 x,.int .i64 y,.slice A n c,.slice G m kk,.int .i64 fp,.int .i64 fq,.int .i64 fs,.int .i64 fz,.int .i64 b] 62)):=by
  refine⟨CellsAt.new _ _ _ _ rfl,I.alloc _,J.alloc _,fun q off e=>by have:=MA q off e; omega,fun q off e=>by have:=MG q off e; omega,fun h0 q off e=>by have:=I.lt h0 q off e; omega,fun h0 q off e=>by have:=J.lt h0 q off e; omega,hn,hm,ok,(D.out.kept K1 (by omega)).alloc _,(E.out.kept K1 (by omega)).alloc _,R1.alloc _,(K.out.trans K1).alloc _,hB,hr,by omega⟩
 replace X0:=hid X0;clear D E K R I J MA MG R1 K1;go_upto_region 2 with fail;refine BR (GdW B r w w1.heap.size ⟨i,t,x,y,A,n,c,G,m,kk,fp,fq,fs,fz,b,ws,gs⟩ (k+60)) X0.out ?_;clear X0 hE hK hn hm ok;intro w2 H
 go_upto_block 0 with fail
 go_cut [5] from 6 to 22 (fun v W=>v=.pointer (some ⟨w1.heap.size,0,none⟩)/\∃ L,GdW B r w w1.heap.size L (k+420) W)
 case first =>
  go_wp2
  go_loopw [6] (fun iv W=>∃(j:Nat) (L:Lv),j<=6/\iv=.int .i64 j/\GdW B r w w1.heap.size L (k+60+60*j) W) (fun iv _=>6-(RowKit.intOf iv).toNat)
  case atStart=>exact⟨0,_,by omega,rfl,H.mono (by omega)⟩
  case round =>
   clear H;obtain⟨j,L,hj,rfl,H⟩:=hrel;have H:=hid H;by_cases hj6:j<6
   . have hi:(j:Int)<6:=by omega
     have hn0:=H.out.hn.1;have hm0:=H.out.hm.1;have c0:=H.out.X.cell 0 _ rfl;have f0:=H.out.X.fr 0;have c1:=H.out.X.cell 1 _ rfl;have f1:=H.out.X.fr 1;have c2:=H.out.X.cell 2 _ rfl;have f2:=H.out.X.fr 2;have c3:=H.out.X.cell 3 _ rfl;have f3:=H.out.X.fr 3;have c4:=H.out.X.cell 4 _ rfl;have f4:=H.out.X.fr 4;have c5:=H.out.X.cell 5 _ rfl;have f5:=H.out.X.fr 5;have c6:=H.out.X.cell 6 _ rfl;have f6:=H.out.X.fr 6;have c7:=H.out.X.cell 7 _ rfl;have f7:=H.out.X.fr 7;have c8:=H.out.X.cell 8 _ rfl;have f8:=H.out.X.fr 8;have c9:=H.out.X.cell 9 _ rfl;have f9:=H.out.X.fr 9;have c10:=H.out.X.cell 10 _ rfl;have f10:=H.out.X.fr 10;have Xl:=H.out.X.lt
     go_wp2_with fail;refine(DR L.i L.t L.x L.y L.A L.n L.c L.G L.m L.kk L.fp L.fq L.fs L.fz L.b L.ws L.gs _ H.out.I H.out.J (by omega) (by omega)).mono ?_;rintro e w3 ⟨rfl,S⟩;replace H:=hid (H.out.step S);clear S c0 f0 c1 f1 c2 f2 c3 f3 c4 f4 c5 f5 c6 f6 c7 f7 c8 f8 c9 f9 c10 f10 Xl;cases Cd L.i L.t L.x L.y L.ws L.gs L.fp L.fq L.fs L.fz L.b
     . go_wp2_with fail;refine(Da r _ _ H.out.R (by omega)).mono ?_;rintro e w4 ⟨i2,t2,x2,y2,A2,n2,c2,G2,m2,kk2,fp2,fq2,fs2,fz2,b2,ws2,gs2,rfl,hn,hm,ok,I,J,MA,MG,R1,K1⟩;have hg:=H.out.X.lt;replace H:=hid (H.out.kept K1 R1);replace I:=hid I;replace J:=hid J;replace MA:=hid MA;replace MG:=hid MG;replace ok:=hid ok;clear K1 R1;go_wp2_with (refine Ah rfl 62 (.tmp 5) (.tmp 22) rfl w1.heap.size rfl (AW i2 t2 x2 y2 A2 n2 c2 G2 m2 kk2 fp2 fq2 fs2 fz2 b2) rfl _ H.out.X (by simp) Am rfl ?_);intro w5 K5 X5
       have H5:=hid (H.out.put (L2:=⟨i2,t2,x2,y2,A2,n2,c2,G2,m2,kk2,fp2,fq2,fs2,fz2,b2,ws2,gs2⟩) K5 X5 I.out J.out MA.out MG.out hg hn hm ok.out);clear H K5 X5 I J MA MG ok;go_wp2
       go_roundw
       case rel=>exact⟨j+1,_,by omega,by go_num,H5.out.mono (by omega)⟩
       case measure=>simp[RowKit.intOf]; omega
     . go_wp2
       go_meet
       case rel=>exact⟨rfl,L,H.out.mono (by omega)⟩
   . have hi:(6:Int)<=(j:Int):=by omega
     go_wp2
     go_meet
     case rel=>exact⟨rfl,L,H.out.mono (by omega)⟩
 case rest =>
  obtain⟨hu,L,H⟩:=hcut;subst hu;have H:=hid H;go_wp2_with fail;refine(Aj r 99 _ _ H.out.R (by omega) (by omega) (by omega)).mono ?_;rintro e w3 ⟨v,⟨v0,v1⟩,rfl,R1,K1⟩;replace H:=hid (H.out.kept K1 R1);clear R1 K1;go_wp2_with fail;refine(Aj r 100 _ _ H.out.R (by omega) (by omega) (by omega)).mono ?_;rintro e w4 ⟨u,⟨u0,u1⟩,rfl,R1,K1⟩;replace H:=hid (H.out.kept K1 R1);clear R1 K1;go_upto_region 7 with fail;generalize 1+100*v+u=key at *
  go_cut [8] from 9 to 40 (Oc B r w w1.heap.size L (k+700))
  case first =>
   refine wp_region_held_drew (S:=fun w'=>CellsAt w' w1.heap.size L.cs) (by kernel_rfl) H.out.X.drew (fun hHeld=>?_);replace H:=hid (H.out.step (Ac _).drew);generalize w4.drew=w5 at *;refine wpAnyH_take (i:=0) (oi:=_) (v:=.agg (L.cs).toArray) rfl (by kernel_rfl) (by kernel_rfl) (by kernel_rfl) (fun _ _ _ h=>h) (yieldsIf_load_mid (by rfl) 62 (.tmp 5) rfl w1.heap.size 0 rfl (L.cs) _ (fun W hS=>hS.range) Tryz.underlying62 rfl Am) hHeld ?_
   try simp only[Act.put,sx]
   refine tl 1 ?_ ?_ hHeld ?_;rotate_left
   . intro w hSw
     try dsimp only at hSw
     go_simp
     all_goals with_reducible rfl
   try simp only[Act.put,sx]
   refine tl 3 ?_ ?_ hHeld ?_;rotate_left
   . intro w hSw
     try dsimp only at hSw
     go_simp
     all_goals with_reducible rfl
   try simp only[Act.put,sx]
   refine tl 4 ?_ ?_ hHeld ?_;rotate_left
   . intro w hSw
     try dsimp only at hSw
     go_simp
     all_goals with_reducible rfl
   try simp only[Act.put,sx]
   refine wpAnyH_take (i:=5) (oi:=_) (v:=.agg (L.cs).toArray) rfl (by kernel_rfl) (by kernel_rfl) (by kernel_rfl) (fun _ _ _ h=>h) (yieldsIf_load_mid (by rfl) 62 (.tmp 5) rfl w1.heap.size 0 rfl (L.cs) _ (fun W hS=>hS.range) Tryz.underlying62 rfl Am) hHeld ?_
   try simp only[Act.put,sx]
   refine wpAnyH_ready (rs:=[2,11]) (by kernel_rfl) (by simp) ?_;refine(AllReadyH.cons (o:=_) rfl (fun K hK=>?_) (AllReadyH.cons (o:=_) rfl (fun K hK=>?_) AllReadyH.nil))
   . skip
     go_simp
     go_at_call 32
     refine(Aj r 10 _ _ H.out.R (by omega) (by omega) (by omega)).mono ?_;rintro e wn ⟨pv,⟨pv0,pv1⟩,rfl,R1,K1⟩;replace H:=hid (H.out.kept K1 R1);clear R1 K1;clear hHeld;go_wp2_with fail;refine hK.out _ _ H.out.X (fun hHeld=>?_);clear hK K
     try simp only[Act.put,sx]
     refine wpAnyH_ready (rs:=[6,11]) (by kernel_rfl) (by simp) ?_;refine(AllReadyH.cons (o:=_) rfl (fun K hK=>?_) (AllReadyH.cons (o:=_) rfl (fun K hK=>?_) AllReadyH.nil))
     . skip
       go_simp
       go_at_call 56
       refine(Dv r _ L.i L.t L.x L.y L.A L.n L.c L.G L.m L.kk L.fp L.fq L.fs L.fz L.b L.ws L.gs _ H.out.R (by omega) (by omega) H.out.I H.out.J H.out.mA H.out.mG H.out.ok.1.ok H.out.hn.1 H.out.hm.1 H.out.ok.2).mono ?_;rintro e wn ⟨v6,N,xs,rfl,hN,_,O6,R1,K1⟩;obtain⟨E6,c6,rfl,Y,_⟩:=Inputs.of_own O6;replace Y:=hid Y;replace H:=hid (H.out.kept K1 R1);clear R1 K1 O6;clear hHeld;go_wp2_with fail;refine hK.out _ _ H.out.X (fun hHeld=>?_);clear hK K
       try simp only[Act.put,sx]
       refine wpAnyH_ready (rs:=[7,11]) (by kernel_rfl) (by simp) ?_;refine(AllReadyH.cons (o:=_) rfl (fun K hK=>?_) (AllReadyH.cons (o:=_) rfl (fun K hK=>?_) AllReadyH.nil))
       . skip
         go_simp
         go_at_call 55
         refine(Dh L pv key E6 N c6 xs _ H.out.I H.out.J (by have:=H.out.hn; omega) (by have:=H.out.hm; omega) Y.out (by omega)).mono ?_;rintro e wn ⟨A8,n8,c8,H8,m8,d8,rfl,⟨M8,N8⟩,I8,Z8,BB⟩;have hlen:=CF (L:=L) (p:=pv) (k:=key) Y.out.1;have hl8:=I8.1;have hl9:=Z8.1;have hnm:n8<=60/\m8<=60:=by omega
         clear hlen hl8 hl9;have hEl:=H.out.E.lt;replace M8:=hid (show AK (w.heap.size+1+1) A8 from fun q off e=>by have:=M8 q off e; omega);replace N8:=hid (show AK (w.heap.size+1+1) H8 from fun q off e=>by have:=N8 q off e; omega);replace I8:=hid I8;replace Z8:=hid Z8;replace H:=hid (H.out.step BB);clear BB Y hEl;clear hHeld;go_wp2_with fail;refine hK.out _ _ H.out.X (fun hHeld=>?_);clear hK K
         try simp only[Act.put,sx]
         refine tl 8 ?_ ?_ hHeld ?_;rotate_left
         . intro w hSw
           try dsimp only at hSw
           go_simp
           all_goals with_reducible rfl
         try simp only[Act.put,sx]
         refine tl 9 ?_ ?_ hHeld ?_;rotate_left
         . intro w hSw
           try dsimp only at hSw
           go_simp
           all_goals with_reducible rfl
         try simp only[Act.put,sx]
         refine tl 10 ?_ ?_ hHeld ?_;rotate_left
         . intro w hSw
           try dsimp only at hSw
           go_simp
           all_goals with_reducible rfl
         try simp only[Act.put,sx]
         refine wpAnyH_ready (rs:=[11]) (by kernel_rfl) (by simp) ?_;apply AllReadyH.cons rfl ?_ AllReadyH.nil;intro K hK;dsimp only[List.getElem_toArray,List.getElem_cons_succ,List.getElem_cons_zero];rw[if_pos (by rfl)];refine AG rfl ?_;intro g8 wn BB hg8 X8;have hg8l:w.heap.size+1<g8:=by have:=H.out.E.lt; omega
         have ap:=hid (H.out.apart hg8);have h8A:0<n8->∀ q off,A8=some ⟨q,off,none⟩->q≠g8:=fun h0 q off e=>by have:=I8.out.lt h0 q off e; omega
         have h8H:0<m8->∀ q off,H8=some ⟨q,off,none⟩->q≠g8:=fun h0 q off e=>by
          obtain⟨b9,f9,e9,h9,_⟩:=Z8.out.2 h0;rw[e9] at e; cases e; omega
         replace I8:=hid (I8.out.step BB);replace Z8:=hid (Z8.out.step BB);replace X8:=hid X8;replace H:=hid (H.out.step BB);clear BB hHeld hg8;refine hK.out _ _ H.out.X (fun hHeld=>?_);clear hK K
         try simp only[Act.put,sx]
         refine wpAnyH_ready (rs:=[12]) (by kernel_rfl) (by simp) ?_;apply AllReadyH.cons rfl ?_ AllReadyH.nil;intro K hK;dsimp only[List.getElem_toArray,List.getElem_cons_succ,List.getElem_cons_zero];rw[if_pos (by rfl)];refine Ao 26 (.tmp 8) (.tmp 39) rfl g8 rfl ((AR ((rmake L pv key xs N).getD rz).l ((rmake L pv key xs N).getD rz).p ((rmake L pv key xs N).getD rz).s A8 n8 c8 H8 m8 d8 ((rmake L pv key xs N).getD rz).t)) rfl _ X8.out (by simp) Ae rfl ?_;intro wZ KZ XZ;replace I8:=hid (I8.out.kept KZ h8A);replace Z8:=hid (Ints.keptX Z8.out KZ h8H);replace H:=hid (H.out.away KZ hg8l ap.out.1 ap.out.2.1 ap.out.2.2);clear KZ hHeld
         refine hK.out _ _ H.out.X (fun hHeld=>?_);clear hK K
         try simp only[Act.put,sx]
         refine tl 13 ?_ ?_ hHeld ?_;rotate_left
         . intro w hSw
           try dsimp only at hSw
           go_simp
           all_goals with_reducible rfl
         try simp only[Act.put,sx]
         refine wpAnyH_done (by kernel_rfl) ?_ _;go_wp2_with fail
         go_meet
         case rel=>exact⟨g8,_,_,_,A8,n8,c8,H8,m8,d8,_,_,_,rfl,hg8l,XZ,hnm,I8.out,Z8.out,M8.out,N8.out,H.out.mono (by omega)⟩
       . skip
         dsimp only[List.getElem_toArray,List.getElem_cons_succ,List.getElem_cons_zero];rw[if_pos (by rfl)];refine AG rfl ?_;intro g8 wn BB hg8 X8;have hg8l:w.heap.size+1<g8:=by have:=H.out.E.lt; omega
         have ap:=hid (H.out.apart hg8);replace Y:=hid (Y.out.step BB);replace X8:=hid X8;replace H:=hid (H.out.step BB);clear BB hHeld hg8;refine hK.out _ _ H.out.X (fun hHeld=>?_);clear hK K
         try simp only[Act.put,sx]
         refine wpAnyH_ready (rs:=[7]) (by kernel_rfl) (by simp) ?_;apply AllReadyH.cons rfl ?_ AllReadyH.nil;intro K hK;go_simp
         go_at_call 55
         refine(Dh L pv key E6 N c6 xs _ H.out.I H.out.J (by have:=H.out.hn; omega) (by have:=H.out.hm; omega) Y.out (by omega)).mono ?_;rintro e wn ⟨A8,n8,c8,H8,m8,d8,rfl,⟨M8,N8⟩,I8,Z8,BB⟩;have hlen:=CF (L:=L) (p:=pv) (k:=key) Y.out.1;have hl8:=I8.1;have hl9:=Z8.1;have hnm:n8<=60/\m8<=60:=by omega
         clear hlen hl8 hl9;have hEl:=H.out.E.lt;have hXl:=X8.out.lt;have h8A:0<n8->∀ q off,A8=some ⟨q,off,none⟩->q≠g8:=fun h0 q off e=>by have:=M8 q off e; omega
         have h8H:0<m8->∀ q off,H8=some ⟨q,off,none⟩->q≠g8:=fun h0 q off e=>by have:=N8 q off e; omega
         replace M8:=hid (show AK (w.heap.size+1+1) A8 from fun q off e=>by have:=M8 q off e; omega);replace X8:=hid (X8.out.step BB);clear hXl;replace N8:=hid (show AK (w.heap.size+1+1) H8 from fun q off e=>by have:=N8 q off e; omega);replace I8:=hid I8;replace Z8:=hid Z8;replace H:=hid (H.out.step BB);clear BB Y hEl;clear hHeld;go_wp2_with fail;refine hK.out _ _ H.out.X (fun hHeld=>?_);clear hK K
         try simp only[Act.put,sx]
         refine tl 8 ?_ ?_ hHeld ?_;rotate_left
         . intro w hSw
           try dsimp only at hSw
           go_simp
           all_goals with_reducible rfl
         try simp only[Act.put,sx]
         refine tl 9 ?_ ?_ hHeld ?_;rotate_left
         . intro w hSw
           try dsimp only at hSw
           go_simp
           all_goals with_reducible rfl
         try simp only[Act.put,sx]
         refine tl 10 ?_ ?_ hHeld ?_;rotate_left
         . intro w hSw
           try dsimp only at hSw
           go_simp
           all_goals with_reducible rfl
         try simp only[Act.put,sx]
         refine wpAnyH_ready (rs:=[12]) (by kernel_rfl) (by simp) ?_;apply AllReadyH.cons rfl ?_ AllReadyH.nil;intro K hK;dsimp only[List.getElem_toArray,List.getElem_cons_succ,List.getElem_cons_zero];rw[if_pos (by rfl)];refine Ao 26 (.tmp 8) (.tmp 39) rfl g8 rfl ((AR ((rmake L pv key xs N).getD rz).l ((rmake L pv key xs N).getD rz).p ((rmake L pv key xs N).getD rz).s A8 n8 c8 H8 m8 d8 ((rmake L pv key xs N).getD rz).t)) rfl _ X8.out (by simp) Ae rfl ?_;intro wZ KZ XZ;replace I8:=hid (I8.out.kept KZ h8A);replace Z8:=hid (Ints.keptX Z8.out KZ h8H);replace H:=hid (H.out.away KZ hg8l ap.out.1 ap.out.2.1 ap.out.2.2);clear KZ hHeld
         refine hK.out _ _ H.out.X (fun hHeld=>?_);clear hK K
         try simp only[Act.put,sx]
         refine tl 13 ?_ ?_ hHeld ?_;rotate_left
         . intro w hSw
           try dsimp only at hSw
           go_simp
           all_goals with_reducible rfl
         try simp only[Act.put,sx]
         refine wpAnyH_done (by kernel_rfl) ?_ _;go_wp2_with fail
         go_meet
         case rel=>exact⟨g8,_,_,_,A8,n8,c8,H8,m8,d8,_,_,_,rfl,hg8l,XZ,hnm,I8.out,Z8.out,M8.out,N8.out,H.out.mono (by omega)⟩
     . skip
       dsimp only[List.getElem_toArray,List.getElem_cons_succ,List.getElem_cons_zero];rw[if_pos (by rfl)];refine AG rfl ?_;intro g8 wn BB hg8 X8;have hg8l:w.heap.size+1<g8:=by have:=H.out.E.lt; omega
       have ap:=hid (H.out.apart hg8);replace X8:=hid X8;replace H:=hid (H.out.step BB);clear BB hHeld hg8;refine hK.out _ _ H.out.X (fun hHeld=>?_);clear hK K
       try simp only[Act.put,sx]
       refine wpAnyH_ready (rs:=[6]) (by kernel_rfl) (by simp) ?_;apply AllReadyH.cons rfl ?_ AllReadyH.nil;intro K hK;go_simp
       go_at_call 56
       refine(Dv r _ L.i L.t L.x L.y L.A L.n L.c L.G L.m L.kk L.fp L.fq L.fs L.fz L.b L.ws L.gs _ H.out.R (by omega) (by omega) H.out.I H.out.J H.out.mA H.out.mG H.out.ok.1.ok H.out.hn.1 H.out.hm.1 H.out.ok.2).mono ?_;rintro e wn ⟨v6,N,xs,rfl,hN,_,O6,R1,K1⟩;obtain⟨E6,c6,rfl,Y,_⟩:=Inputs.of_own O6;replace Y:=hid Y;replace X8:=hid (X8.out.kept K1 (by have:=H.out.bw; have:=H.out.rB; omega));replace H:=hid (H.out.kept K1 R1);clear R1 K1 O6;clear hHeld;go_wp2_with fail;refine hK.out _ _ H.out.X (fun hHeld=>?_);clear hK K
       try simp only[Act.put,sx]
       refine wpAnyH_ready (rs:=[7]) (by kernel_rfl) (by simp) ?_;apply AllReadyH.cons rfl ?_ AllReadyH.nil;intro K hK;go_simp
       go_at_call 55
       refine(Dh L pv key E6 N c6 xs _ H.out.I H.out.J (by have:=H.out.hn; omega) (by have:=H.out.hm; omega) Y.out (by omega)).mono ?_;rintro e wn ⟨A8,n8,c8,H8,m8,d8,rfl,⟨M8,N8⟩,I8,Z8,BB⟩;have hlen:=CF (L:=L) (p:=pv) (k:=key) Y.out.1;have hl8:=I8.1;have hl9:=Z8.1;have hnm:n8<=60/\m8<=60:=by omega
       clear hlen hl8 hl9;have hEl:=H.out.E.lt;have hXl:=X8.out.lt;have h8A:0<n8->∀ q off,A8=some ⟨q,off,none⟩->q≠g8:=fun h0 q off e=>by have:=M8 q off e; omega
       have h8H:0<m8->∀ q off,H8=some ⟨q,off,none⟩->q≠g8:=fun h0 q off e=>by have:=N8 q off e; omega
       replace M8:=hid (show AK (w.heap.size+1+1) A8 from fun q off e=>by have:=M8 q off e; omega);replace X8:=hid (X8.out.step BB);clear hXl;replace N8:=hid (show AK (w.heap.size+1+1) H8 from fun q off e=>by have:=N8 q off e; omega);replace I8:=hid I8;replace Z8:=hid Z8;replace H:=hid (H.out.step BB);clear BB Y hEl;clear hHeld;go_wp2_with fail;refine hK.out _ _ H.out.X (fun hHeld=>?_);clear hK K
       try simp only[Act.put,sx]
       refine tl 8 ?_ ?_ hHeld ?_;rotate_left
       . intro w hSw
         try dsimp only at hSw
         go_simp
         all_goals with_reducible rfl
       try simp only[Act.put,sx]
       refine tl 9 ?_ ?_ hHeld ?_;rotate_left
       . intro w hSw
         try dsimp only at hSw
         go_simp
         all_goals with_reducible rfl
       try simp only[Act.put,sx]
       refine tl 10 ?_ ?_ hHeld ?_;rotate_left
       . intro w hSw
         try dsimp only at hSw
         go_simp
         all_goals with_reducible rfl
       try simp only[Act.put,sx]
       refine wpAnyH_ready (rs:=[12]) (by kernel_rfl) (by simp) ?_;apply AllReadyH.cons rfl ?_ AllReadyH.nil;intro K hK;dsimp only[List.getElem_toArray,List.getElem_cons_succ,List.getElem_cons_zero];rw[if_pos (by rfl)];refine Ao 26 (.tmp 8) (.tmp 39) rfl g8 rfl ((AR ((rmake L pv key xs N).getD rz).l ((rmake L pv key xs N).getD rz).p ((rmake L pv key xs N).getD rz).s A8 n8 c8 H8 m8 d8 ((rmake L pv key xs N).getD rz).t)) rfl _ X8.out (by simp) Ae rfl ?_;intro wZ KZ XZ;replace I8:=hid (I8.out.kept KZ h8A);replace Z8:=hid (Ints.keptX Z8.out KZ h8H);replace H:=hid (H.out.away KZ hg8l ap.out.1 ap.out.2.1 ap.out.2.2);clear KZ hHeld
       refine hK.out _ _ H.out.X (fun hHeld=>?_);clear hK K
       try simp only[Act.put,sx]
       refine tl 13 ?_ ?_ hHeld ?_;rotate_left
       . intro w hSw
         try dsimp only at hSw
         go_simp
         all_goals with_reducible rfl
       try simp only[Act.put,sx]
       refine wpAnyH_done (by kernel_rfl) ?_ _;go_wp2_with fail
       go_meet
       case rel=>exact⟨g8,_,_,_,A8,n8,c8,H8,m8,d8,_,_,_,rfl,hg8l,XZ,hnm,I8.out,Z8.out,M8.out,N8.out,H.out.mono (by omega)⟩
   . skip
     dsimp only[List.getElem_toArray,List.getElem_cons_succ,List.getElem_cons_zero];rw[if_pos (by rfl)];refine AG rfl ?_;intro g8 wn BB hg8 X8;have hg8l:w.heap.size+1<g8:=by have:=H.out.E.lt; omega
     have ap:=hid (H.out.apart hg8);replace X8:=hid X8;replace H:=hid (H.out.step BB);clear BB hHeld hg8;refine hK.out _ _ H.out.X (fun hHeld=>?_);clear hK K
     try simp only[Act.put,sx]
     refine wpAnyH_ready (rs:=[2]) (by kernel_rfl) (by simp) ?_;apply AllReadyH.cons rfl ?_ AllReadyH.nil;intro K hK;go_simp
     go_at_call 32
     refine(Aj r 10 _ _ H.out.R (by omega) (by omega) (by omega)).mono ?_;rintro e wn ⟨pv,⟨pv0,pv1⟩,rfl,R1,K1⟩;replace X8:=hid (X8.out.kept K1 (by have:=H.out.bw; have:=H.out.rB; omega));replace H:=hid (H.out.kept K1 R1);clear R1 K1;clear hHeld;go_wp2_with fail;refine hK.out _ _ H.out.X (fun hHeld=>?_);clear hK K
     try simp only[Act.put,sx]
     refine wpAnyH_ready (rs:=[6]) (by kernel_rfl) (by simp) ?_;apply AllReadyH.cons rfl ?_ AllReadyH.nil;intro K hK;go_simp
     go_at_call 56
     refine(Dv r _ L.i L.t L.x L.y L.A L.n L.c L.G L.m L.kk L.fp L.fq L.fs L.fz L.b L.ws L.gs _ H.out.R (by omega) (by omega) H.out.I H.out.J H.out.mA H.out.mG H.out.ok.1.ok H.out.hn.1 H.out.hm.1 H.out.ok.2).mono ?_;rintro e wn ⟨v6,N,xs,rfl,hN,_,O6,R1,K1⟩;obtain⟨E6,c6,rfl,Y,_⟩:=Inputs.of_own O6;replace Y:=hid Y;replace X8:=hid (X8.out.kept K1 (by have:=H.out.bw; have:=H.out.rB; omega));replace H:=hid (H.out.kept K1 R1);clear R1 K1 O6;clear hHeld;go_wp2_with fail;refine hK.out _ _ H.out.X (fun hHeld=>?_);clear hK K
     try simp only[Act.put,sx]
     refine wpAnyH_ready (rs:=[7]) (by kernel_rfl) (by simp) ?_;apply AllReadyH.cons rfl ?_ AllReadyH.nil;intro K hK;go_simp
     go_at_call 55
     refine(Dh L pv key E6 N c6 xs _ H.out.I H.out.J (by have:=H.out.hn; omega) (by have:=H.out.hm; omega) Y.out (by omega)).mono ?_;rintro e wn ⟨A8,n8,c8,H8,m8,d8,rfl,⟨M8,N8⟩,I8,Z8,BB⟩;have hlen:=CF (L:=L) (p:=pv) (k:=key) Y.out.1;have hl8:=I8.1;have hl9:=Z8.1;have hnm:n8<=60/\m8<=60:=by omega
     clear hlen hl8 hl9;have hEl:=H.out.E.lt;have hXl:=X8.out.lt;have h8A:0<n8->∀ q off,A8=some ⟨q,off,none⟩->q≠g8:=fun h0 q off e=>by have:=M8 q off e; omega
     have h8H:0<m8->∀ q off,H8=some ⟨q,off,none⟩->q≠g8:=fun h0 q off e=>by have:=N8 q off e; omega
     replace M8:=hid (show AK (w.heap.size+1+1) A8 from fun q off e=>by have:=M8 q off e; omega);replace X8:=hid (X8.out.step BB);clear hXl;replace N8:=hid (show AK (w.heap.size+1+1) H8 from fun q off e=>by have:=N8 q off e; omega);replace I8:=hid I8;replace Z8:=hid Z8;replace H:=hid (H.out.step BB);clear BB Y hEl;clear hHeld;go_wp2_with fail;refine hK.out _ _ H.out.X (fun hHeld=>?_);clear hK K
     try simp only[Act.put,sx]
     refine tl 8 ?_ ?_ hHeld ?_;rotate_left
     . intro w hSw
       try dsimp only at hSw
       go_simp
       all_goals with_reducible rfl
     try simp only[Act.put,sx]
     refine tl 9 ?_ ?_ hHeld ?_;rotate_left
     . intro w hSw
       try dsimp only at hSw
       go_simp
       all_goals with_reducible rfl
     try simp only[Act.put,sx]
     refine tl 10 ?_ ?_ hHeld ?_;rotate_left
     . intro w hSw
       try dsimp only at hSw
       go_simp
       all_goals with_reducible rfl
     try simp only[Act.put,sx]
     refine wpAnyH_ready (rs:=[12]) (by kernel_rfl) (by simp) ?_;apply AllReadyH.cons rfl ?_ AllReadyH.nil;intro K hK;dsimp only[List.getElem_toArray,List.getElem_cons_succ,List.getElem_cons_zero];rw[if_pos (by rfl)];refine Ao 26 (.tmp 8) (.tmp 39) rfl g8 rfl ((AR ((rmake L pv key xs N).getD rz).l ((rmake L pv key xs N).getD rz).p ((rmake L pv key xs N).getD rz).s A8 n8 c8 H8 m8 d8 ((rmake L pv key xs N).getD rz).t)) rfl _ X8.out (by simp) Ae rfl ?_;intro wZ KZ XZ;replace I8:=hid (I8.out.kept KZ h8A);replace Z8:=hid (Ints.keptX Z8.out KZ h8H);replace H:=hid (H.out.away KZ hg8l ap.out.1 ap.out.2.1 ap.out.2.2);clear KZ hHeld
     refine hK.out _ _ H.out.X (fun hHeld=>?_);clear hK K
     try simp only[Act.put,sx]
     refine tl 13 ?_ ?_ hHeld ?_;rotate_left
     . intro w hSw
       try dsimp only at hSw
       go_simp
       all_goals with_reducible rfl
     try simp only[Act.put,sx]
     refine wpAnyH_done (by kernel_rfl) ?_ _;go_wp2_with fail
     go_meet
     case rel=>exact⟨g8,_,_,_,A8,n8,c8,H8,m8,d8,_,_,_,rfl,hg8l,XZ,hnm,I8.out,Z8.out,M8.out,N8.out,H.out.mono (by omega)⟩
  case rest =>
   obtain⟨g8,l,p,s,A8,n8,c8,H8,m8,d8,t8,xs,hs,rfl,hg8l,X8,hnm,I8,Z8,M8,N8,H⟩:=hcut;replace X8:=hid X8;replace I8:=hid I8;replace Z8:=hid Z8;replace M8:=hid M8;replace N8:=hid N8;replace H:=hid H;go_upto_region 8 with fail;refine wp_region_held_drew (S:=fun w'=>CellsAt w' w1.heap.size L.cs/\CellsAt w' g8 (AR l p s A8 n8 c8 H8 m8 d8 t8)) (by kernel_rfl) ⟨H.out.X.drew,X8.out.drew⟩ (fun hHeld=>?_);replace H:=hid (H.out.step (Ac _).drew);replace X8:=hid X8.out.drew;replace I8:=hid (I8.out.step (Ac _).drew);replace Z8:=hid (Z8.out.step (Ac _).drew);generalize wc.drew=w5 at *
   refine wpAnyH_take (i:=0) (oi:=_) (v:=.agg (L.cs).toArray) rfl (by kernel_rfl) (by kernel_rfl) (by kernel_rfl) (fun _ _ _ h=>h) (yieldsIf_load_mid (by rfl) 62 (.tmp 5) rfl w1.heap.size 0 rfl (L.cs) _ (fun W hS=>hS.1.range) Tryz.underlying62 rfl Am) hHeld ?_
   try simp only[Act.put,sx]
   refine tl 1 ?_ ?_ hHeld ?_;rotate_left
   . intro w hSw
     try dsimp only at hSw
     go_simp
     all_goals with_reducible rfl
   try simp only[Act.put,sx]
   refine wpAnyH_take (i:=2) (oi:=_) (v:=.agg ((AR l p s A8 n8 c8 H8 m8 d8 t8)).toArray) rfl (by kernel_rfl) (by kernel_rfl) (by kernel_rfl) (fun _ _ _ h=>h) (yieldsIf_load_mid (by rfl) 26 (.tmp 8) rfl g8 0 rfl ((AR l p s A8 n8 c8 H8 m8 d8 t8)) _ (fun W hS=>hS.2.range) Tryz.underlying26 rfl Ae) hHeld ?_
   try simp only[Act.put,sx]
   refine wpAnyH_ready (rs:=[3]) (by kernel_rfl) (by simp) ?_;apply AllReadyH.cons rfl ?_ AllReadyH.nil;intro K hK;dsimp only[List.getElem_toArray,List.getElem_cons_succ,List.getElem_cons_zero];rw[if_pos (by rfl)];refine Ao 62 (.tmp 2) (.tmp 41) rfl w.heap.size rfl (L.cs) rfl _ H.out.D (by simp) Am rfl ?_;intro wA KA XA;have hlo:=H.out.lo;have XL:=hid (H.out.X.kept KA (by omega));replace X8:=hid (X8.out.kept KA (by omega));have EA:=hid (H.out.E.kept KA (by omega));replace XA:=hid XA;replace KA:=hid KA;clear hHeld;refine hK.out _ _ ⟨XL.out,X8.out⟩ (fun hHeld=>?_);clear hK K
   try simp only[Act.put,sx]
   refine tl 4 ?_ ?_ hHeld ?_;rotate_left
   . intro w hSw
     try dsimp only at hSw
     go_simp
     all_goals with_reducible rfl
   try simp only[Act.put,sx]
   refine wpAnyH_ready (rs:=[5]) (by kernel_rfl) (by simp) ?_;apply AllReadyH.cons rfl ?_ AllReadyH.nil;intro K hK;dsimp only[List.getElem_toArray,List.getElem_cons_succ,List.getElem_cons_zero];rw[if_pos (by rfl)];refine Ao 26 (.tmp 4) (.tmp 43) rfl (w.heap.size+1) rfl ((AR l p s A8 n8 c8 H8 m8 d8 t8)) rfl _ EA.out (by simp) Ae rfl ?_;intro wB KB XB;replace XL:=hid (XL.out.kept KB (by omega));replace X8:=hid (X8.out.kept KB (by omega));replace XA:=hid (XA.out.kept KB (by omega));replace KB:=hid KB;replace XB:=hid XB;clear hHeld;refine hK.out _ _ ⟨XL.out,X8.out⟩ (fun hHeld=>?_);clear hK K
   try simp only[Act.put,sx]
   refine wpAnyH_done (by kernel_rfl) ?_ _;go_wp2;exact bodyPost_ret (v:=.tuple #[L.val,.int .i64 key,CH l p s A8 n8 c8 H8 m8 d8 t8]) (Lt rfl w.heap.size (w.heap.size+1) rfl rfl L.cs (AR l p s A8 n8 c8 H8 m8 d8 t8) XA.out XB.out (.int .i64 key) rfl Tryz.underlying62 rfl Am Tryz.underlying26 rfl Ae) rfl (Jz H.out KA.out KB.out (by omega) hnm I8.out Z8.out M8.out N8.out)
end Go.Proofs.YtgbiagonfbnooaaGreatDoor
