import Derived.Test.YtaemcekcancpdaaGreatDoorZRunScM
set_option linter.all false
set_option maxRecDepth 100000
set_option maxHeartbeats 8000000
open Go.Lib
namespace Go.Proofs.YtaemcekcancpdaaGreatDoor.fnRunWallsW
open Go.RowKit
open M
open Ren
open Go.Conc
noncomputable abbrev kB:Code:=Dr Tryz.f4
noncomputable def c0:Code:=cA kB
noncomputable def cX:Code:=cA (cB kB)
noncomputable def c3:Code:=cA (cB (cB kB))
noncomputable def c4:Code:=cA (cB (cB (cB kB)))
noncomputable def cR:Code:=cB (cB (cB (cB kB)))
noncomputable def c5:Code:=cA cR
noncomputable def c6:Code:=cA (cB cR)
noncomputable def cQ:Code:=cB (cB cR)
theorem kB_eq:kB=.seq c0 (.seq cX (.seq c3 (.seq c4 cR))):=rfl
theorem kR_eq:cR=.seq c5 (.seq c6 cQ):=rfl
abbrev fV:FuncId:=4
theorem fV_at:PP.funcs[fV]?=some Tryz.f4:=Tryz.func4
theorem k0:XR.C c0:=by show AH PP Ck Cn c0=true; kernel_rfl
theorem kX:XR.C cX:=by show AH PP Ck Cn cX=true; kernel_rfl
theorem k3:XR.C c3:=by show AH PP Ck Cn c3=true; kernel_rfl
theorem k5:XR.C c5:=by show AH PP Ck Cn c5=true; kernel_rfl
theorem k6:XR.C c6:=by show AH PP Ck Cn c6=true; kernel_rfl
theorem o4:∀ i∈[0,1],∀ o,(cO c4)[i]?=some o->OpOk XR gR o.op:=Bz (by kernel_rfl)
theorem o4b:∀ i∈[3],∀ o,(cO c4)[i]?=some o->OpOk XR gR o.op:=Bz (by kernel_rfl)
abbrev TV(J:Nat->Value):Array Value:=#[J 0,J 1,J 2,J 3,J 4,J 5,J 6,J 7,J 8,J 9,J 10,J 11,J 12,J 13,J 14,J 15,J 16,J 17,J 18,J 19,J 20,J 21,J 22,J 23,J 24,J 25,J 26,J 27,J 28,J 29,J 30,J 31,J 32,J 33,J 34,J 35,J 36,J 37,J 38,J 39,J 40,J 41,J 42,J 43,J 44,J 45,J 46,J 47,J 48,J 49,J 50,J 51]
theorem tv_of{T:Array Value}(h:T.size=52):T=TV fun n=>T.getD n undef:=by
 refine Array.ext h fun i h1 h2=>?_;have e:∀ n (hn:n<T.size),T.getD n undef=T[n]:=fun n hn=>by simp[Array.getD,hn]
 simp only[TV];have:i<52:=h▸h1
 iterate 52 (rcases i with _ | i; · exact(e _ _).symm)
 omega
theorem tv_args(a:Value):#[a]++Array.replicate 51 undef=#[a,undef,undef,undef,undef,undef,undef,undef,undef,undef,undef,undef,undef,undef,undef,undef,undef,undef,undef,undef,undef,undef,undef,undef,undef,undef,undef,undef,undef,undef,undef,undef,undef,undef,undef,undef,undef,undef,undef,undef,undef,undef,undef,undef,undef,undef,undef,undef,undef,undef,undef,undef]:=by kernel_rfl
theorem Px{L:Lv}{xs:List In}{n j:Nat}(hl:xs.length=n)(h:B8 L xs n (n:Int)=true)(hj:j<=n):LQ L.i L.t L.x L.y L.ws L.gs L.fp L.fq L.fs L.fz L.b (L.at xs j).ax (L.at xs j).ay=true:=by
 have e:=(Ko hl (F6 h hj)).2.1;simp only[Int.toNat_natCast] at e;obtain⟨h1,h2,_,h4⟩:=LU e;have h2:=(SR h2).1;simp only[LQ,h1,Bool.true_and]
 show(Aw (L.run (xs.take j)).ax (L.run (xs.take j)).ay&&Cw L.ws (L.run (xs.take j)).ax (L.run (xs.take j)).ay)=true
 rw[h2,h4];rfl
structure Uq(h0:Array Obj)(L:Lv)(D:Option Addr)(N cc:Nat)(xs:List In)(b:Nat)(v:Int)(g m c2:Nat)(ps:List Pt)(T:Array Value)(u:World):Prop extends Uo h0 52 L D N cc xs b v T u where
 t7:T.getD 7 undef=.slice (some ⟨g,0,none⟩) m c2
 Y:Points u (some ⟨g,0,none⟩) m ps
theorem Uq.hpo{h0:Array Obj}{L:Lv}{D:Option Addr}{N cc:Nat}{xs:List In}{b:Nat}{v:Int}{g m c2:Nat}{ps:List Pt}:Hpo (Uq h0 L D N cc xs b v g m c2 ps):=fun _ _ _ h e=>{ h with P:=h.P.same e,rd:=h.rd.same e,hp:=h.hp.same e,Y:=h.Y.same e }
noncomputable def c8:Code:=cA cQ
noncomputable def cE:Code:=cB cQ
theorem kQ_eq:cQ=.seq c8 cE:=rfl
theorem o8:∀ i∈[0,1],∀ o,(cO c8)[i]?=some o->OpOk XR gR o.op:=Bz (by kernel_rfl)
theorem o8b:∀ i∈[3],∀ o,(cO c8)[i]?=some o->OpOk XR gR o.op:=Bz (by kernel_rfl)
theorem k_cE:XR.C cE:=by show AH PP Ck Cn cE=true; kernel_rfl
section
variable {h0:Array Obj} {a:Option Addr} {len cap:Nat} {zs:List Int} {T:Array Value} {w:World} {L:Lv} {D:Option Addr} {N cc:Nat} {xs:List In} {v:Int} {b c:Nat} {s:St} {ok:Bool}
theorem a0{J:Nat->Value}(j0:J 0=.slice a len cap)(hr:IsRow .u8 w a len cap zs)(hq:Quarter w)(hp:Hp h0 w):c0.wp Tryz.prog (fun e t u=>e=.normal/\t.defers=[]/\Za h0 52 a len cap zs t.tmps u) ⟨TV J,[]⟩ w:=by
 rw[show c0=.region 0 _ false from rfl];go_wp;exact⟨rfl,rfl,rfl,rfl,hr,hq,hp⟩
theorem aX(H:Za h0 52 a len cap zs T w):cX.wp Tryz.prog (fun e t u=>t.defers=[]/\(e=.normal/\Za h0 52 a len cap zs t.tmps u\/e=.ret/\t.tmps.getD 2 undef=.bool true)) ⟨T,[]⟩ w:=by
 obtain⟨J,rfl⟩:∃ J,T=TV J:=⟨_,tv_of H.size⟩;have j0:J 0=.slice a len cap:=H.t0;rw[show cX=.seq (.region 1 _ false) (.cond (.tmp 11) (.seq (.region 2 _ false) .ret) .skip) from rfl];by_cases g9:1048576<len
 . have g1:(1048576:Int)<(len:Int):=by omega
   go_wp;exact⟨rfl,.inr ⟨rfl,rfl⟩⟩
 have g1:¬ (1048576:Int)<(len:Int):=by omega
 have g1d:decide ((1048576:Int)<(len:Int))=false:=decide_eq_false g1;have g2d:decide (1048576<len)=false:=decide_eq_false (by omega);go_wp;exact⟨rfl,.inl ⟨rfl,rfl,rfl,H.row,H.q,H.hp⟩⟩
theorem a3(H:Za h0 52 a len cap zs T w):c3.wp Tryz.prog (fun e t u=>e=.normal/\t.defers=[]/\∃ L D N cc xs b,Uh h0 52 L D N cc xs b t.tmps u) ⟨T,[]⟩ w:=by
 obtain⟨J,rfl⟩:∃ J,T=TV J:=⟨_,tv_of H.size⟩;have j0:J 0=.slice a len cap:=H.t0;rw[show c3=.region 3 _ false from rfl];go_wp;refine(Ej a len cap zs w H.row).mono ?_;rintro e w1 ⟨i,t,x,y,A,n,c,G,m,kk,fp,fq,fs,fz,b,ws,gs,D,N,cc,xs,rfl,⟨zA,zG,zD⟩,hn,hm,hN,I,G1,Y,_,B⟩;dsimp only
 iterate 13 go_step
 refine Ai rfl 29 (.tmp 3) (.tmp 15) rfl w1.heap.size rfl (AX i t x y A n c G m kk fp fq fs fz b) rfl _ (CellsAt.new w1 _ [_,_,_,_,_,_,_,_,_,_,_] 29 rfl) (Nat.le_refl _) Ad rfl ?_;intro w2 K P;go_wp;have rd:Ready ⟨i,t,x,y,A,n,c,G,m,kk,fp,fq,fs,fz,b,ws,gs⟩ D N cc xs w1:=⟨⟨I,G1,by show n<=_; omega,by show m<=_; omega,I.cel zA,G1.cel zG⟩,Y,zD,by omega,hN.2,H.q.step B⟩;have B2:=Aa (Ac w1) (.cells #[.int .i64 0,.int .i64 0,.int .i64 0,.int .i64 0,.slice none 0 0,.slice none 0 0,.int .i64 0,.int .i64 0,.int .i64 0,.int .i64 0,.int .i64 0] 29);have h1:=H.hp.size;have h2:=B.size;have h3:=H.q.lt
 exact⟨rfl,rfl,⟨i,t,x,y,A,n,c,G,m,kk,fp,fq,fs,fz,b,ws,gs⟩,D,N,cc,xs,w1.heap.size,rfl,rfl,rfl,P,(rd.step B2).keep rd.low K (Nat.le_refl _) (by omega),rd.low,((H.hp.step B).step B2).kept K (by omega),by omega,by omega,hN.1⟩
theorem a4(H:Uh h0 52 L D N cc xs b T w):wpOps Tryz.prog (cO c4) (fun e t u=>e=.normal/\t.defers=[]/\(Uh h0 52 L D N cc xs b t.tmps u/\t.tmps.getD 17 undef=L.val/\t.tmps.getD 18 undef=.slice D N cc)) [0,1] ⟨T,[]⟩ w:=by
 obtain⟨J,rfl⟩:∃ J,T=TV J:=⟨_,tv_of H.size⟩;have j3:J 3=AA b:=H.t3;have j4:J 4=.slice D N cc:=H.t4;have e:cO c4=#[_,_,_,_]:=rfl;rw[Ah (os:=[_,_]) rfl];simp only[e,List.getElem_toArray,List.getElem_cons_zero,List.getElem_cons_succ];refine Af rfl 29 (.tmp 3) rfl b j3 L.cs H.P Tryz.underlying29 rfl Ad ?_;go_wp;exact⟨rfl,rfl,⟨rfl,rfl,rfl,H.P,H.rd,H.lo,H.hp,H.lb,H.bp,H.sm⟩,rfl,rfl⟩
theorem a4b(H:Uh h0 52 L D N cc xs b T w)(h:T.getD 19 undef=.int .i64 v):wpOps Tryz.prog (cO c4) (fun e t u=>e=.normal/\t.defers=[]/\Uo h0 52 L D N cc xs b v t.tmps u) [3] ⟨T,[]⟩ w:=by
 obtain⟨J,rfl⟩:∃ J,T=TV J:=⟨_,tv_of H.size⟩;have j3:J 3=AA b:=H.t3;have j4:J 4=.slice D N cc:=H.t4;have jv:J 19=.int .i64 v:=h;have e:cO c4=#[_,_,_,_]:=rfl;rw[Ah (os:=[_]) rfl];simp only[e,List.getElem_toArray,List.getElem_cons_zero,List.getElem_cons_succ];go_wp;exact⟨rfl,rfl,⟨⟨rfl,rfl,rfl,H.P,H.rd,H.lo,H.hp,H.lb,H.bp,H.sm⟩,rfl⟩⟩
theorem a5(H:Uo h0 52 L D N cc xs b (L.score xs N) T w):c5.wp Tryz.prog (fun e t u=>e=.normal/\t.defers=[]/\Uo h0 52 L D N cc xs b (L.score xs N) t.tmps u/\t.tmps.getD 6 undef=.int .i64 (L.score xs N)) ⟨T,[]⟩ w:=by
 obtain⟨J,rfl⟩:∃ J,T=TV J:=⟨_,tv_of H.size⟩;have j3:J 3=AA b:=H.t3;have j4:J 4=.slice D N cc:=H.t4;have j5:J 5=.int .i64 (L.score xs N):=H.t5;rw[show c5=.region 5 _ false from rfl];have C:=hid (EX L D N cc xs w H.rd.lv.I H.rd.lv.J H.rd.lv.n H.rd.lv.m H.rd.ins (by have:=H.sm; omega));generalize L.score xs N=v at *;refine wp_region_lit ?_;refine Af rfl 29 (.tmp 3) rfl b j3 L.cs H.P Tryz.underlying29 rfl Ad ?_;go_wp;refine C.out.mono ?_;rintro e w1 ⟨rfl,B⟩;dsimp only;go_wp;exact⟨rfl,rfl,⟨⟨rfl,rfl,rfl,H.P.step B,H.rd.step B,H.lo,H.hp.step B,H.lb,H.bp,H.sm⟩,rfl⟩,rfl⟩
theorem a6(H:Uo h0 52 L D N cc xs b v T w)(h6:T.getD 6 undef=.int .i64 v):c6.wp Tryz.prog (fun e t u=>t.defers=[]/\(e=.normal/\Uo h0 52 L D N cc xs b v t.tmps u\/e=.ret/\t.tmps.getD 2 undef=.bool true)) ⟨T,[]⟩ w:=by
 obtain⟨J,rfl⟩:∃ J,T=TV J:=⟨_,tv_of H.size⟩;have j3:J 3=AA b:=H.t3;have j4:J 4=.slice D N cc:=H.t4;have j5:J 5=.int .i64 v:=H.t5;have j6:J 6=.int .i64 v:=h6;rw[show c6=.seq (.region 6 _ false) (.cond (.tmp 25) (.seq (.region 7 _ false) .ret) .skip) from rfl];go_wp;exact⟨rfl,.inl ⟨rfl,⟨⟨rfl,rfl,rfl,H.P,H.rd,H.lo,H.hp,H.lb,H.bp,H.sm⟩,rfl⟩⟩⟩
theorem a8(H:Uo h0 52 L D N cc xs b v T w):wpOps Tryz.prog (cO c8) (fun e t u=>e=.normal/\t.defers=[]/\(Uo h0 52 L D N cc xs b v t.tmps u/\t.tmps.getD 29 undef=L.val/\t.tmps.getD 30 undef=.slice D N cc)) [0,1] ⟨T,[]⟩ w:=by
 obtain⟨J,rfl⟩:∃ J,T=TV J:=⟨_,tv_of H.size⟩;have j3:J 3=AA b:=H.t3;have j4:J 4=.slice D N cc:=H.t4;have j5:J 5=.int .i64 v:=H.t5;have e:cO c8=#[_,_,_,_]:=rfl;rw[Ah (os:=[_,_]) rfl];simp only[e,List.getElem_toArray,List.getElem_cons_zero,List.getElem_cons_succ];refine Af rfl 29 (.tmp 3) rfl b j3 L.cs H.P Tryz.underlying29 rfl Ad ?_;go_wp;exact⟨rfl,rfl,⟨⟨rfl,rfl,rfl,H.P,H.rd,H.lo,H.hp,H.lb,H.bp,H.sm⟩,rfl⟩,rfl,rfl⟩
theorem a8b{g m c2:Nat}{ps:List Pt}(H:Uo h0 52 L D N cc xs b v T w)(hs:T.getD 31 undef=.slice (some ⟨g,0,none⟩) m c2)(Y:Points w (some ⟨g,0,none⟩) m ps):wpOps Tryz.prog (cO c8) (fun e t u=>e=.normal/\t.defers=[]/\(Uq h0 L D N cc xs b v g m c2 ps t.tmps u)) [3] ⟨T,[]⟩ w:=by
 obtain⟨J,rfl⟩:∃ J,T=TV J:=⟨_,tv_of H.size⟩;have j3:J 3=AA b:=H.t3;have j4:J 4=.slice D N cc:=H.t4;have j5:J 5=.int .i64 v:=H.t5;have js:J 31=.slice (some ⟨g,0,none⟩) m c2:=hs;have e:cO c8=#[_,_,_,_]:=rfl;rw[Ah (os:=[_]) rfl];simp only[e,List.getElem_toArray,List.getElem_cons_zero,List.getElem_cons_succ];go_wp;exact⟨rfl,rfl,⟨⟨rfl,rfl,rfl,H.P,H.rd,H.lo,H.hp,H.lb,H.bp,H.sm⟩,rfl⟩,rfl,Y⟩
def Tc(L:Lv)(b g m:Nat)(ps:List Pt)(iv:Value)(W:World):Prop :=
 ∃ j:Nat,j<=m/\iv=.int .i64 j/\Boxes W L.A L.n L.ws/\Boxes W L.G L.m L.gs/\CellsAt W b L.cs/\Points W (some ⟨g,0,none⟩) m ps
theorem aE{g m c2:Nat}{ps:List Pt}(H:Uq h0 L D N cc xs b v g m c2 ps T w)(hm:m<=1000)(hf:∀ j,j<m->LQ L.i L.t L.x L.y L.ws L.gs L.fp L.fq L.fs L.fz L.b (ps.getD j pz).x (ps.getD j pz).y=true)(h0':0<m\/v=-1):cE.wp Tryz.prog (fun e t u=>t.defers=[]/\(e=.normal/\False\/e=.ret/\t.tmps.getD 2 undef=.bool true)) ⟨T,[]⟩ w:=by
 obtain⟨J,rfl⟩:∃ J,T=TV J:=⟨_,tv_of H.size⟩;have j3:J 3=AA b:=H.t3;have j4:J 4=.slice D N cc:=H.t4;have j5:J 5=.int .i64 v:=H.t5;have j7:J 7=.slice (some ⟨g,0,none⟩) m c2:=H.t7;have hLn:=H.rd.lv.n;have hLm:=H.rd.lv.m;have I:=hid H.rd.lv.I;have J2:=hid H.rd.lv.J;have P:=H.P;have Y:=hid H.Y;clear H;rw[show cE=.seq (.seq (.region 9 _ false) (.block 0 (.loop (.seq (.seq (.region 10 _ false) (.cond (.tmp 35) .skip (.exit 0))) (.seq (.block 1 (.seq (.region 12 _ true) (.cond (.tmp 44) (.seq (.region 13 _ false) .ret) .skip))) (.region 11 _ false)))))) (.seq (.region 14 _ false) .ret) from rfl];go_wp2
 go_loopw [8] (Tc L b g m ps) (fun i _=>m-(intOf i).toNat)
 case atStart=>exact⟨0,Nat.zero_le _,rfl,I.out,J2.out,P,Y.out⟩
 case round =>
  clear I J2 P Y;obtain⟨j,hj,rfl,I,J2,P,Y⟩:=hrel;have I:=hid I;have J2:=hid J2;have Y:=hid Y;by_cases hlt:j<m
  rotate_left
  . have hd:decide (j<m)=false:=decide_eq_false hlt;have hd2:decide ((j:Int)<(m:Int))=false:=decide_eq_false (by omega);rcases Nat.eq_zero_or_pos m with h0m | h0m
    . have hv:v=-1:=by omega
      have g1:decide ((0:Int)<(m:Int))=false:=decide_eq_false (by omega);have g2:decide (0<m)=false:=decide_eq_false (by omega);subst hv;go_wp2
    . have g1:decide ((0:Int)<(m:Int))=true:=decide_eq_true (by omega);have g2:decide (0<m)=true:=decide_eq_true (by omega);go_wp2
  have hd:decide (j<m)=true:=decide_eq_true hlt;have hd2:decide ((j:Int)<(m:Int))=true:=decide_eq_true (by omega);obtain⟨hgl,q⟩:=Y.out.at hlt;have C:=fun(W:World) (Z:Boxes W L.A L.n L.ws) (X:Boxes W L.G L.m L.gs)=>HU L.i L.t L.x L.y L.A L.n L.c L.G L.m L.kk L.fp L.fq L.fs L.fz L.b L.ws L.gs (ps.getD j pz).x (ps.getD j pz).y W Z X hLn hLm;rw[hf j hlt] at C;generalize ps.getD j pz=pt at *;have C:=hid C;go_upto_region 12 with fail;refine wp_region_noPanic ?_
  refine wp_region_held_drew (S:=fun w'=>CellsAt w' b L.cs/\PtAt w' g (j*2) pt) (by kernel_rfl) ⟨(by first | with_reducible exact P.drew | with_reducible exact P),(by first | with_reducible exact q | exact q.of rfl)⟩ (fun hHeld=>?_);refine wpAnyH_take (i:=0) (oi:=_) (v:=.agg (L.cs).toArray) rfl (by kernel_rfl) (by kernel_rfl) (by kernel_rfl) (fun _ _ _ h=>h) (yieldsIf_load_mid (by rfl) 29 (.tmp 3) rfl b 0 rfl (L.cs) _ (fun W hS=>hS.1.range) Tryz.underlying29 rfl Ad) hHeld ?_
  try simp only[Act.put,sx]
  refine tl 1 ?_ ?_ hHeld ?_;rotate_left
  . intro w hSw
    try dsimp only at hSw
    go_simp
    all_goals with_reducible rfl
  try simp only[Act.put,sx]
  refine tl 2 ?_ ?_ hHeld ?_;rotate_left
  . intro w hSw
    try dsimp only at hSw
    go_simp
    all_goals with_reducible rfl
  try simp only[Act.put,sx]
  refine tl 3 ?_ ?_ hHeld ?_;rotate_left
  . intro w hSw
    try dsimp only at hSw
    go_simp
    all_goals with_reducible rfl
  try simp only[Act.put,sx]
  refine tl 4 ?_ ?_ hHeld ?_;rotate_left
  . intro w hSw;have q0:=hSw.2.c0;have q1:=hSw.2.c1;go_simp
    all_goals with_reducible rfl
  try simp only[Act.put,sx]
  refine wpAnyH_ready (rs:=[5]) (by kernel_rfl) (by simp) ?_;apply AllReadyH.cons rfl ?_ AllReadyH.nil;intro K hK;go_simp
  go_at_call 17
  refine(C.out _ I.out.drew J2.out.drew).mono ?_;rintro e w1 ⟨rfl,B⟩;replace I:=hid (Boxes.step (by first | with_reducible exact I.out.drew | with_reducible exact I.out) B);replace J2:=hid (Boxes.step (by first | with_reducible exact J2.out.drew | with_reducible exact J2.out) B);replace P:=CellsAt.step (by first | with_reducible exact P.drew | with_reducible exact P) B;replace Y:=hid (Points.step (by first | with_reducible exact Y.out.drew | with_reducible exact Y.out) B);have q9:PtAt w1 g (j*2) pt:=PtAt.of q (B.block g hgl);clear q;have q:=q9;clear q9 B hgl;clear hHeld;go_wp2_with fail
  refine hK.out _ _ ⟨(by first | with_reducible exact P.drew | with_reducible exact P),(by first | with_reducible exact q | exact q.of rfl)⟩ (fun hHeld=>?_);clear hK K
  try simp only[Act.put,sx]
  refine tl 6 ?_ ?_ hHeld ?_;rotate_left
  . intro w hSw
    try dsimp only at hSw
    go_simp
    all_goals with_reducible rfl
  try simp only[Act.put,sx]
  refine wpAnyH_done (by kernel_rfl) ?_ _;refine NoPanic.normal ?_;go_wp2
  go_roundw
  case rel=>exact⟨j+1,by omega,by go_num,I.out,J2.out,P,Y.out⟩
  case measure=>simp[intOf]; omega
end
theorem way(a:Option Addr)(len cap:Nat)(zs:List Int)(W:World)(hr:IsRow .u8 W a len cap zs)(ca:Cel W a)(hq:Quarter W)(hG:XR.G<=W.heap.size):Ren.Way PP (Lx W) (Bb (Frame.enter PP fV #[.slice a len cap] .normal) []) W:=by
 refine Ren.Way.of_co (W:=W) (RO:=Lt W.heap.size) (O:=fun _=>False) ?_ (Ren.Alike.refl W) (fun j hj=>hj);have ha:ArrR XR.L (vr W W.heap.size) (#[.slice a len cap]++Array.replicate 51 undef) (#[.slice a len cap]++Array.replicate 51 undef) :=
  (ArrR.one (Br ca)).append (.replicate _ (.tuple rfl fun i x y h=>by simp at h))
 have h:Sit XR gR W.heap.size (vr W W.heap.size) (fun _=>False) (fun j=>W.heap[j]?) (fun T u=>T=#[.slice a len cap]++Array.replicate 51 undef/\(IsRow .u8 u a len cap zs/\Quarter u)/\Hp (vh W W.heap.size) u) (#[.slice a len cap]++Array.replicate 51 undef) (fun _=>False) W :=
  Sit.start (Nat.le_refl _) hG (CS hq fun _ _=>rfl) (fun j h=>h.elim) ha ha (fun _ _=>rfl) (fun u hu=>⟨rfl,⟨hr.veil ca (Hp.refl hu),hq.veil (Hp.refl hu)⟩,Hp.refl hu⟩)
 rw[Ds fV_at (c:=kB) rfl,kB_eq];refine h.ctl rfl (fun w1=>AF) ?_;refine h.wp AJ AK Av (fun T u u' x e=>⟨x.1,⟨x.2.1.1.same e,x.2.1.2.same e⟩,x.2.2.same e⟩) nn (Am fV_at) k0 (Q1:=Za (vh W W.heap.size) 52 a len cap zs) (fun T u x=>?_) fun T1 O1 y1 h1=>?_
 . rw[x.1,tv_args];exact a0 (J:=fun z=>match z with | 0=>.slice a len cap | _=>undef) rfl x.2.1.1 x.2.1.2 x.2.2
 refine h1.ctl rfl (fun w1=>AF) ?_;refine h1.wp2 AJ AK Av Za.hpo nn (Am fV_at) kX (Q1:=Za (vh W W.heap.size) 52 a len cap zs) (Q2:=fun T u=>T.getD 2 undef=.bool true) (fun T u x=>aX x) (fun T2 O2 y2 h2=>?_) (fun k T2 O2 y2 h2=>h2.done (fun _ _=>rfl) fV_at (by kernel_rfl) (by rfl) fun T u x=>x);refine h2.ctl rfl (fun w1=>AF) ?_;refine h2.wp AJ AK Av Za.hpo nn (Am fV_at) k3 (Q1:=fun T u=>∃ L D N cc xs b,Uh (vh W W.heap.size) 52 L D N cc xs b T u) (fun T u x=>a3 x) fun T3 O3 y3 h3=>?_;obtain⟨L,h3⟩:=h3.split;obtain⟨D,h3⟩:=h3.split;obtain⟨N,h3⟩:=h3.split;obtain⟨cc,h3⟩:=h3.split;obtain⟨xs,h3⟩:=h3.split
 obtain⟨b,h3⟩:=h3.split;refine h3.ctl rfl (fun w1=>AF) ?_;refine h3.ctl rfl (fun w1=>by rw[show c4=.region 4 (cO c4) false from rfl]; exact Ba) ?_;refine h3.ops (l1:=[0,1]) (l2:=[2,3]) AJ AK Av Uh.hpo nn (Am fV_at) o4 (Q1:=fun T u=>Uh (vh W W.heap.size) 52 L D N cc xs b T u/\T.getD 17 undef=L.val/\T.getD 18 undef=.slice D N cc) (fun T u x=>a4 x) fun T4 O4 y4 h4=>?_;refine h4.runScore hG (i:=2) (l:=[3]) (d:=19) (L:=L) (A:=D) (n:=N) (cap:=cc) (xs:=xs) rfl rfl rfl rfl (fun T u x=>⟨x.2,x.1.rd⟩) fun B2 y5 hB h5=>?_
 refine Sit.ops (l1:=[3]) (l2:=[]) (h5.mono (Q1:=fun T u=>Uh (vh W W.heap.size) 52 L D N cc xs b T u/\T.getD 19 undef=.int .i64 (L.score xs N)) fun T u ⟨T0,x,e⟩=>?_) AJ AK Av (fun T u u' x e=>⟨Uh.hpo T u u' x.1 e,x.2⟩) nn (Am fV_at) o4b (Q1:=Uo (vh W W.heap.size) 52 L D N cc xs b (L.score xs N)) (fun T u x=>a4b x.1 x.2) fun T6 O6 y6 h6=>?_
 . subst e;exact⟨x.1.put (by omega) _,A8 (by rw[x.1.size]; omega)⟩
 refine h6.ctl rfl (fun w1=>BG) ?_;rw[kR_eq];refine h6.ctl rfl (fun w1=>AF) ?_;refine h6.wp AJ AK Av Uo.hpo nn (Am fV_at) k5 (Q1:=fun T u=>Uo (vh W W.heap.size) 52 L D N cc xs b (L.score xs N) T u/\T.getD 6 undef=.int .i64 (L.score xs N)) (fun T u x=>a5 x) fun T7 O7 y7 h7=>?_;refine h7.ctl rfl (fun w1=>AF) ?_
 refine h7.wp2 AJ AK Av (fun T u u' x e=>⟨Uo.hpo T u u' x.1 e,x.2⟩) nn (Am fV_at) k6 (Q1:=Uo (vh W W.heap.size) 52 L D N cc xs b (L.score xs N)) (Q2:=fun T u=>T.getD 2 undef=.bool true) (fun T u x=>a6 x.1 x.2) (fun T8 O8 y8 h8=>?_) (fun k T8 O8 y8 h8=>h8.done (fun j hj=>hB j hj) fV_at (by kernel_rfl) (by rfl) fun T u x=>x);have hx:=h8.fact fun T u x=>(⟨x.rd.ins.1,x.sm⟩:xs.length=N/\N<=63)
 have hpt:(path.sts L xs N).length<=1000/\(∀ j,j<(path.sts L xs N).length->LQ L.i L.t L.x L.y L.ws L.gs L.fp L.fq L.fs L.fz L.b (((path.sts L xs N).map DI).getD j pz).x (((path.sts L xs N).map DI).getD j pz).y=true)/\(0<(path.sts L xs N).length\/L.score xs N=-1):=by
  cases hok:B8 L xs N (N:Int)
  . have e:path.sts L xs N=[]:=by unfold path.sts; rw[hok]; rfl
    rw[e];exact⟨by simp,fun j hj=>by simp at hj,.inr (by rw[Lv.score,hok]; simp[Nx])⟩
  . have e:=path.sts_len hx.1 hok;refine⟨by omega,fun j hj=>?_,.inl (by omega)⟩;rw[path.sts_at hx.1 hok (by omega)];exact Px hx.1 hok (by omega)
 rw[kQ_eq];refine h8.ctl rfl (fun w1=>AF) ?_;refine h8.ctl rfl (fun w1=>by rw[show c8=.region 8 (cO c8) false from rfl]; exact Ba) ?_;refine h8.ops (l1:=[0,1]) (l2:=[2,3]) AJ AK Av Uo.hpo nn (Am fV_at) o8 (Q1:=fun T u=>Uo (vh W W.heap.size) 52 L D N cc xs b (L.score xs N) T u/\T.getD 29 undef=L.val/\T.getD 30 undef=.slice D N cc) (fun T u x=>a8 x) fun T9 O9 y9 h9=>?_;refine h9.runPath hG (i:=2) (l:=[3]) (d:=31) (L:=L) (A:=D) (n:=N) (cap:=cc) (xs:=xs) rfl rfl rfl rfl (fun T u x=>⟨x.2,x.1.rd⟩) (by omega) fun c2 B4 y10 j O10 hcap hB4 h10=>?_
 have h11:=h10.mono (Q1:=fun T u=>∃ g,(Uo (vh W W.heap.size) 52 L D N cc xs b (L.score xs N) T u/\T.getD 31 undef=.slice (some ⟨g,0,none⟩) (path.sts L xs N).length c2)/\Points u (some ⟨g,0,none⟩) (path.sts L xs N).length ((path.sts L xs N).map DI)) fun T u ⟨T0,u0,x,e1,e2⟩=>by
  subst e1 e2;refine⟨u0.heap.size,⟨(x.1.put (by omega) _).at (Aa (Ac u0) _),A8 (by rw[x.1.size]; omega)⟩,?_⟩;have:=Points.lit u0 ((path.sts L xs N).map DI) 24
  rwa [List.length_map] at this
 obtain⟨g,h11⟩:=h11.split;refine Sit.ops (l1:=[3]) (l2:=[]) h11 AJ AK Av (fun T u u' x e=>⟨⟨Uo.hpo T u u' x.1.1 e,x.1.2⟩,x.2.same e⟩) nn (Am fV_at) o8b (Q1:=Uq (vh W W.heap.size) L D N cc xs b (L.score xs N) g (path.sts L xs N).length c2 ((path.sts L xs N).map DI)) (fun T u x=>a8b x.1.1 x.1.2 x.2) fun T12 O12 y12 h12=>?_;refine h12.ctl rfl (fun w1=>BG) ?_
 exact h12.wp2 AJ AK Av Uq.hpo nn (Am fV_at) k_cE (Q1:=fun _ _=>False) (Q2:=fun T u=>T.getD 2 undef=.bool true) (fun T u x=>aE x hpt.1 hpt.2.1 hpt.2.2) (fun T7 O7 y7 h7=>h7.fact fun _ _ x=>x.elim) (fun k T7 O7 y7 h7=>h7.done (fun j hj=>(hB4 j hj).trans (hB j hj)) fV_at (by kernel_rfl) (by rfl) fun T u x=>x)
end Go.Proofs.YtaemcekcancpdaaGreatDoor.fnRunWallsW
