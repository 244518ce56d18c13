import Derived.Test.YtaemcekcancpdaaGreatDoorZRunScM
set_option linter.all false
set_option maxRecDepth 100000
set_option maxHeartbeats 8000000
open Go.Lib
namespace Go.Proofs.YtaemcekcancpdaaGreatDoor.fnScoreGatesW
open Go.RowKit
open M
open Ren
open Go.Conc
noncomputable abbrev kB:Code:=Dr Tryz.f8
noncomputable def c0:Code:=cA kB
noncomputable def cX:Code:=cA (cB kB)
noncomputable def c3:Code:=cA (cB (cB kB))
noncomputable def c4:Code:=cA (cB (cB (cB kB)))
noncomputable def cR:Code:=cB (cB (cB (cB kB)))
noncomputable def c5:Code:=cA cR
noncomputable def c6:Code:=cA (cB cR)
noncomputable def cQ:Code:=cB (cB cR)
theorem kB_eq:kB=.seq c0 (.seq cX (.seq c3 (.seq c4 cR))):=rfl
theorem kR_eq:cR=.seq c5 (.seq c6 cQ):=rfl
abbrev fV:FuncId:=8
theorem fV_at:PP.funcs[fV]?=some Tryz.f8:=Tryz.func8
theorem k0:XR.C c0:=by show AH PP Ck Cn c0=true; kernel_rfl
theorem kX:XR.C cX:=by show AH PP Ck Cn cX=true; kernel_rfl
theorem k3:XR.C c3:=by show AH PP Ck Cn c3=true; kernel_rfl
theorem k5:XR.C c5:=by show AH PP Ck Cn c5=true; kernel_rfl
theorem k6:XR.C c6:=by show AH PP Ck Cn c6=true; kernel_rfl
theorem o4:∀ i∈[0,1],∀ o,(cO c4)[i]?=some o->OpOk XR gR o.op:=Bz (by kernel_rfl)
theorem o4b:∀ i∈[3],∀ o,(cO c4)[i]?=some o->OpOk XR gR o.op:=Bz (by kernel_rfl)
abbrev TV(J:Nat->Value):Array Value:=#[J 0,J 1,J 2,J 3,J 4,J 5,J 6,J 7,J 8,J 9,J 10,J 11,J 12,J 13,J 14,J 15,J 16,J 17,J 18,J 19,J 20,J 21,J 22,J 23,J 24,J 25,J 26,J 27,J 28,J 29,J 30,J 31,J 32,J 33,J 34,J 35,J 36,J 37,J 38,J 39,J 40,J 41,J 42,J 43,J 44,J 45,J 46,J 47,J 48,J 49,J 50,J 51,J 52,J 53,J 54,J 55,J 56,J 57,J 58,J 59,J 60,J 61,J 62,J 63,J 64,J 65,J 66]
theorem tv_of{T:Array Value}(h:T.size=67):T=TV fun n=>T.getD n undef:=by
 refine Array.ext h fun i h1 h2=>?_;have e:∀ n (hn:n<T.size),T.getD n undef=T[n]:=fun n hn=>by simp[Array.getD,hn]
 simp only[TV];have:i<67:=h▸h1
 iterate 67 (rcases i with _ | i; · exact(e _ _).symm)
 omega
theorem tv_args(a:Value):#[a]++Array.replicate 66 undef=#[a,undef,undef,undef,undef,undef,undef,undef,undef,undef,undef,undef,undef,undef,undef,undef,undef,undef,undef,undef,undef,undef,undef,undef,undef,undef,undef,undef,undef,undef,undef,undef,undef,undef,undef,undef,undef,undef,undef,undef,undef,undef,undef,undef,undef,undef,undef,undef,undef,undef,undef,undef,undef,undef,undef,undef,undef,undef,undef,undef,undef,undef,undef,undef,undef,undef,undef]:=by kernel_rfl
theorem NV{L:Lv}{xs:List In}{n j k:Nat}(hl:xs.length=n)(h:B8 L xs n (n:Int)=true)(j1:1<=j)(hj:j<=n)(hk:k<L.gs.length)(hg:(L.at xs (j-1)).g<=k) :
 (L.at xs j).g<=if LN (L.gs.getD k bz).a (L.gs.getD k bz).b (L.gs.getD k bz).c (L.gs.getD k bz).d (L.at xs j).ax (L.at xs j).ay then (k:Int)+1 else k:=by
 obtain⟨i,rfl⟩:∃ i,j=i+1:=⟨j-1,by omega⟩;rw[Nat.add_sub_cancel] at hg;have T:=Ny hl h (show i<n by omega);have hbg:Dh L.gs=true:=((Di ..).1 (BZ.1 h).2.1).2.2.2.2.2.2.1;rcases T.gate with e | ⟨e,h1,h2⟩
 . rw[e];split<;>omega
 . rcases Int.lt_or_eq_of_le hg with hlt | heq
   . rw[e];split<;>omega
   . have hkk:(L.at xs i).g.toNat=k:=by omega
     rw[hkk] at h2;have hb:Dd (L.gs.getD k bz).a (L.gs.getD k bz).b (L.gs.getD k bz).c (L.gs.getD k bz).d=true:=Hr (f:=Bx.ok) hbg hk;rw[GP hb T.vok,h2,e,if_pos rfl];omega
structure Uq(h0:Array Obj)(L:Lv)(D:Option Addr)(N cc:Nat)(xs:List In)(b:Nat)(v:Int)(g m c2:Nat)(ps:List Pt)(T:Array Value)(u:World):Prop extends Uo h0 67 L D N cc xs b v T u where
 t7:T.getD 7 undef=.slice (some ⟨g,0,none⟩) m c2
 Y:Points u (some ⟨g,0,none⟩) m ps
theorem Uq.hpo{h0:Array Obj}{L:Lv}{D:Option Addr}{N cc:Nat}{xs:List In}{b:Nat}{v:Int}{g m c2:Nat}{ps:List Pt}:Hpo (Uq h0 L D N cc xs b v g m c2 ps):=fun _ _ _ h e=>{ h with P:=h.P.same e,rd:=h.rd.same e,hp:=h.hp.same e,Y:=h.Y.same e }
noncomputable def c8:Code:=cA cQ
noncomputable def cE:Code:=cB cQ
theorem kQ_eq:cQ=.seq c8 cE:=rfl
theorem o8:∀ i∈[0,1],∀ o,(cO c8)[i]?=some o->OpOk XR gR o.op:=Bz (by kernel_rfl)
theorem o8b:∀ i∈[3],∀ o,(cO c8)[i]?=some o->OpOk XR gR o.op:=Bz (by kernel_rfl)
theorem k_cE:XR.C cE:=by show AH PP Ck Cn cE=true; kernel_rfl
section
variable {h0:Array Obj} {a:Option Addr} {len cap:Nat} {zs:List Int} {T:Array Value} {w:World} {L:Lv} {D:Option Addr} {N cc:Nat} {xs:List In} {v:Int} {b c:Nat} {s:St} {ok:Bool}
theorem a0{J:Nat->Value}(j0:J 0=.slice a len cap)(hr:IsRow .u8 w a len cap zs)(hq:Quarter w)(hp:Hp h0 w):c0.wp Tryz.prog (fun e t u=>e=.normal/\t.defers=[]/\Za h0 67 a len cap zs t.tmps u) ⟨TV J,[]⟩ w:=by
 rw[show c0=.region 0 _ false from rfl];go_wp;exact⟨rfl,rfl,rfl,rfl,hr,hq,hp⟩
theorem aX(H:Za h0 67 a len cap zs T w):cX.wp Tryz.prog (fun e t u=>t.defers=[]/\(e=.normal/\Za h0 67 a len cap zs t.tmps u\/e=.ret/\t.tmps.getD 2 undef=.bool true)) ⟨T,[]⟩ w:=by
 obtain⟨J,rfl⟩:∃ J,T=TV J:=⟨_,tv_of H.size⟩;have j0:J 0=.slice a len cap:=H.t0;rw[show cX=.seq (.region 1 _ false) (.cond (.tmp 12) (.seq (.region 2 _ false) .ret) .skip) from rfl];by_cases g9:1048576<len
 . have g1:(1048576:Int)<(len:Int):=by omega
   go_wp;exact⟨rfl,.inr ⟨rfl,rfl⟩⟩
 have g1:¬ (1048576:Int)<(len:Int):=by omega
 have g1d:decide ((1048576:Int)<(len:Int))=false:=decide_eq_false g1;have g2d:decide (1048576<len)=false:=decide_eq_false (by omega);go_wp;exact⟨rfl,.inl ⟨rfl,rfl,rfl,H.row,H.q,H.hp⟩⟩
theorem a3(H:Za h0 67 a len cap zs T w):c3.wp Tryz.prog (fun e t u=>e=.normal/\t.defers=[]/\∃ L D N cc xs b,Uh h0 67 L D N cc xs b t.tmps u) ⟨T,[]⟩ w:=by
 obtain⟨J,rfl⟩:∃ J,T=TV J:=⟨_,tv_of H.size⟩;have j0:J 0=.slice a len cap:=H.t0;rw[show c3=.region 3 _ false from rfl];go_wp;refine(Ej a len cap zs w H.row).mono ?_;rintro e w1 ⟨i,t,x,y,A,n,c,G,m,kk,fp,fq,fs,fz,b,ws,gs,D,N,cc,xs,rfl,⟨zA,zG,zD⟩,hn,hm,hN,I,G1,Y,_,B⟩;dsimp only
 iterate 13 go_step
 refine Ai rfl 29 (.tmp 3) (.tmp 16) rfl w1.heap.size rfl (AX i t x y A n c G m kk fp fq fs fz b) rfl _ (CellsAt.new w1 _ [_,_,_,_,_,_,_,_,_,_,_] 29 rfl) (Nat.le_refl _) Ad rfl ?_;intro w2 K P;go_wp;have rd:Ready ⟨i,t,x,y,A,n,c,G,m,kk,fp,fq,fs,fz,b,ws,gs⟩ D N cc xs w1:=⟨⟨I,G1,by show n<=_; omega,by show m<=_; omega,I.cel zA,G1.cel zG⟩,Y,zD,by omega,hN.2,H.q.step B⟩;have B2:=Aa (Ac w1) (.cells #[.int .i64 0,.int .i64 0,.int .i64 0,.int .i64 0,.slice none 0 0,.slice none 0 0,.int .i64 0,.int .i64 0,.int .i64 0,.int .i64 0,.int .i64 0] 29);have h1:=H.hp.size;have h2:=B.size;have h3:=H.q.lt
 exact⟨rfl,rfl,⟨i,t,x,y,A,n,c,G,m,kk,fp,fq,fs,fz,b,ws,gs⟩,D,N,cc,xs,w1.heap.size,rfl,rfl,rfl,P,(rd.step B2).keep rd.low K (Nat.le_refl _) (by omega),rd.low,((H.hp.step B).step B2).kept K (by omega),by omega,by omega,hN.1⟩
theorem a4(H:Uh h0 67 L D N cc xs b T w):wpOps Tryz.prog (cO c4) (fun e t u=>e=.normal/\t.defers=[]/\(Uh h0 67 L D N cc xs b t.tmps u/\t.tmps.getD 18 undef=L.val/\t.tmps.getD 19 undef=.slice D N cc)) [0,1] ⟨T,[]⟩ w:=by
 obtain⟨J,rfl⟩:∃ J,T=TV J:=⟨_,tv_of H.size⟩;have j3:J 3=AA b:=H.t3;have j4:J 4=.slice D N cc:=H.t4;have e:cO c4=#[_,_,_,_]:=rfl;rw[Ah (os:=[_,_]) rfl];simp only[e,List.getElem_toArray,List.getElem_cons_zero,List.getElem_cons_succ];refine Af rfl 29 (.tmp 3) rfl b j3 L.cs H.P Tryz.underlying29 rfl Ad ?_;go_wp;exact⟨rfl,rfl,⟨rfl,rfl,rfl,H.P,H.rd,H.lo,H.hp,H.lb,H.bp,H.sm⟩,rfl,rfl⟩
theorem a4b(H:Uh h0 67 L D N cc xs b T w)(h:T.getD 20 undef=.int .i64 v):wpOps Tryz.prog (cO c4) (fun e t u=>e=.normal/\t.defers=[]/\Uo h0 67 L D N cc xs b v t.tmps u) [3] ⟨T,[]⟩ w:=by
 obtain⟨J,rfl⟩:∃ J,T=TV J:=⟨_,tv_of H.size⟩;have j3:J 3=AA b:=H.t3;have j4:J 4=.slice D N cc:=H.t4;have jv:J 20=.int .i64 v:=h;have e:cO c4=#[_,_,_,_]:=rfl;rw[Ah (os:=[_]) rfl];simp only[e,List.getElem_toArray,List.getElem_cons_zero,List.getElem_cons_succ];go_wp;exact⟨rfl,rfl,⟨⟨rfl,rfl,rfl,H.P,H.rd,H.lo,H.hp,H.lb,H.bp,H.sm⟩,rfl⟩⟩
theorem a5(H:Uo h0 67 L D N cc xs b (L.score xs N) T w):c5.wp Tryz.prog (fun e t u=>e=.normal/\t.defers=[]/\Uo h0 67 L D N cc xs b (L.score xs N) t.tmps u/\t.tmps.getD 6 undef=.int .i64 (L.score xs N)) ⟨T,[]⟩ w:=by
 obtain⟨J,rfl⟩:∃ J,T=TV J:=⟨_,tv_of H.size⟩;have j3:J 3=AA b:=H.t3;have j4:J 4=.slice D N cc:=H.t4;have j5:J 5=.int .i64 (L.score xs N):=H.t5;rw[show c5=.region 5 _ false from rfl];have C:=hid (EX L D N cc xs w H.rd.lv.I H.rd.lv.J H.rd.lv.n H.rd.lv.m H.rd.ins (by have:=H.sm; omega));generalize L.score xs N=v at *;refine wp_region_lit ?_;refine Af rfl 29 (.tmp 3) rfl b j3 L.cs H.P Tryz.underlying29 rfl Ad ?_;go_wp;refine C.out.mono ?_;rintro e w1 ⟨rfl,B⟩;dsimp only;go_wp;exact⟨rfl,rfl,⟨⟨rfl,rfl,rfl,H.P.step B,H.rd.step B,H.lo,H.hp.step B,H.lb,H.bp,H.sm⟩,rfl⟩,rfl⟩
theorem a6(H:Uo h0 67 L D N cc xs b v T w)(h6:T.getD 6 undef=.int .i64 v):c6.wp Tryz.prog (fun e t u=>t.defers=[]/\(e=.normal/\(Uo h0 67 L D N cc xs b v t.tmps u/\0<=v)\/e=.ret/\t.tmps.getD 2 undef=.bool true)) ⟨T,[]⟩ w:=by
 obtain⟨J,rfl⟩:∃ J,T=TV J:=⟨_,tv_of H.size⟩;have j3:J 3=AA b:=H.t3;have j4:J 4=.slice D N cc:=H.t4;have j5:J 5=.int .i64 v:=H.t5;have j6:J 6=.int .i64 v:=h6;rw[show c6=.seq (.region 6 _ false) (.cond (.tmp 30) (.seq (.region 7 _ false) .ret) .skip) from rfl];by_cases hv:v<0
 . have hd:decide (v<0)=true:=decide_eq_true hv;go_wp;exact⟨rfl,.inr ⟨rfl,rfl⟩⟩
 . have hd:decide (v<0)=false:=decide_eq_false hv;go_wp;exact⟨rfl,.inl ⟨rfl,⟨⟨rfl,rfl,rfl,H.P,H.rd,H.lo,H.hp,H.lb,H.bp,H.sm⟩,rfl⟩,by omega⟩⟩
theorem a8(H:Uo h0 67 L D N cc xs b v T w):wpOps Tryz.prog (cO c8) (fun e t u=>e=.normal/\t.defers=[]/\(Uo h0 67 L D N cc xs b v t.tmps u/\t.tmps.getD 34 undef=L.val/\t.tmps.getD 35 undef=.slice D N cc)) [0,1] ⟨T,[]⟩ w:=by
 obtain⟨J,rfl⟩:∃ J,T=TV J:=⟨_,tv_of H.size⟩;have j3:J 3=AA b:=H.t3;have j4:J 4=.slice D N cc:=H.t4;have j5:J 5=.int .i64 v:=H.t5;have e:cO c8=#[_,_,_,_]:=rfl;rw[Ah (os:=[_,_]) rfl];simp only[e,List.getElem_toArray,List.getElem_cons_zero,List.getElem_cons_succ];refine Af rfl 29 (.tmp 3) rfl b j3 L.cs H.P Tryz.underlying29 rfl Ad ?_;go_wp;exact⟨rfl,rfl,⟨⟨rfl,rfl,rfl,H.P,H.rd,H.lo,H.hp,H.lb,H.bp,H.sm⟩,rfl⟩,rfl,rfl⟩
theorem a8b{g m c2:Nat}{ps:List Pt}(H:Uo h0 67 L D N cc xs b v T w)(hs:T.getD 36 undef=.slice (some ⟨g,0,none⟩) m c2)(Y:Points w (some ⟨g,0,none⟩) m ps):wpOps Tryz.prog (cO c8) (fun e t u=>e=.normal/\t.defers=[]/\(Uq h0 L D N cc xs b v g m c2 ps t.tmps u)) [3] ⟨T,[]⟩ w:=by
 obtain⟨J,rfl⟩:∃ J,T=TV J:=⟨_,tv_of H.size⟩;have j3:J 3=AA b:=H.t3;have j4:J 4=.slice D N cc:=H.t4;have j5:J 5=.int .i64 v:=H.t5;have js:J 36=.slice (some ⟨g,0,none⟩) m c2:=hs;have e:cO c8=#[_,_,_,_]:=rfl;rw[Ah (os:=[_]) rfl];simp only[e,List.getElem_toArray,List.getElem_cons_zero,List.getElem_cons_succ];go_wp;exact⟨rfl,rfl,⟨⟨rfl,rfl,rfl,H.P,H.rd,H.lo,H.hp,H.lb,H.bp,H.sm⟩,rfl⟩,rfl,Y⟩
def Tb(L:Lv)(b g m:Nat)(ps:List Pt)(ga:Nat->Int)(kv iv:Value)(W:World):Prop :=
 ∃ j k:Nat,(1<=j/\j<=m)/\k<=L.m/\kv=.int .i64 k/\iv=.int .i64 j/\ga j<=k/\Boxes W L.G L.m L.gs/\CellsAt W b L.cs/\Points W (some ⟨g,0,none⟩) m ps
theorem aE{g m c2:Nat}{ps:List Pt}{ga:Nat->Int}(H:Uq h0 L D N cc xs b v g m c2 ps T w)(hm:1<=m/\m<=1000)(hM:L.m<=1000)(g1:ga 1<=0)(gs1:∀ j k:Nat,1<=j->j<m->k<L.m->ga j<=k->ga (j+1)<=if LN (L.gs.getD k bz).a (L.gs.getD k bz).b (L.gs.getD k bz).c (L.gs.getD k bz).d (ps.getD j pz).x (ps.getD j pz).y then (k:Int)+1 else k)(ge:ga m=L.m):cE.wp Tryz.prog (fun e t u=>t.defers=[]/\(e=.normal/\False\/e=.ret/\t.tmps.getD 2 undef=.bool true)) ⟨T,[]⟩ w:=by
 obtain⟨J,rfl⟩:∃ J,T=TV J:=⟨_,tv_of H.size⟩;have j3:J 3=AA b:=H.t3;have j4:J 4=.slice D N cc:=H.t4;have j5:J 5=.int .i64 v:=H.t5;have j7:J 7=.slice (some ⟨g,0,none⟩) m c2:=H.t7;have J2:=hid H.rd.lv.J;have P:=H.P;have Y:=hid H.Y;clear H;rw[show cE=.seq (.region 9 _ false) (.seq (.seq (.region 10 _ false) (.block 0 (.loop (.seq (.seq (.region 11 _ false) (.cond (.tmp 47) .skip (.exit 0))) (.seq (.block 1 (.seq (.region 13 _ true) (.cond (.tmp 59) (.region 14 _ false) .skip))) (.region 12 _ false)))))) (.seq (.region 15 _ false) .ret)) from rfl];go_wp2
 go_loopw [8,9] (Tb L b g m ps ga) (fun _ i _=>m-(intOf i).toNat)
 case atStart=>exact⟨1,0,⟨Nat.le_refl _,hm.1⟩,Nat.zero_le _,rfl,rfl,g1,J2.out,P,Y.out⟩
 case round =>
  clear J2 P Y;obtain⟨j,k,⟨j1,hj⟩,hk,rfl,rfl,hga,J2,P,Y⟩:=hrel;have J2:=hid J2;have Y:=hid Y;have p5:=P.cell 5 _ rfl;have pl:=P.lt;by_cases hlt:j<m
  rotate_left
  . have hd:decide (j<m)=false:=decide_eq_false hlt;have hd2:decide ((j:Int)<(m:Int))=false:=decide_eq_false (by omega);obtain rfl:j=m:=by omega
    obtain rfl:k=L.m:=by rw[ge] at hga; omega
    go_wp2
  have hd:decide (j<m)=true:=decide_eq_true hlt;have hd2:decide ((j:Int)<(m:Int))=true:=decide_eq_true (by omega);by_cases hkm:k<L.m
  rotate_left
  . have he:decide (k<L.m)=false:=decide_eq_false hkm;have he2:decide ((k:Int)<(L.m:Int))=false:=decide_eq_false (by omega);obtain rfl:k=L.m:=by omega
    go_wp2
  have he:decide (k<L.m)=true:=decide_eq_true hkm;have he2:decide ((k:Int)<(L.m:Int))=true:=decide_eq_true (by omega);obtain⟨hgl,q⟩:=Y.out.at hlt;obtain⟨gb,goff,hG,hbl,hc⟩:=J2.out.2 (by omega);have qb:=hc k hkm;clear hc;rw[hG] at p5;have st:=gs1 j k j1 hlt hkm hga;have C:=fun(W:World)=>FB (L.gs.getD k bz).a (L.gs.getD k bz).b (L.gs.getD k bz).c (L.gs.getD k bz).d (ps.getD j pz).x (ps.getD j pz).y W;generalize ps.getD j pz=pt at *;generalize L.gs.getD k bz=q4 at *;generalize LN q4.a q4.b q4.c q4.d pt.x pt.y=hb at *;have C:=hid C;go_upto_region 13 with fail;refine wp_region_noPanic ?_
  refine wp_region_held_drew (S:=fun w'=>w'.cell? ⟨b,5,none⟩=some (.slice (some ⟨gb,goff,none⟩) L.m L.kk)/\BoxAt w' gb (goff+k*4) q4/\PtAt w' g (j*2) pt) (by kernel_rfl) ⟨p5,(by first | with_reducible exact qb | exact qb.of rfl),(by first | with_reducible exact q | exact q.of rfl)⟩ (fun hHeld=>?_);refine tl 0 ?_ ?_ hHeld ?_;rotate_left
  . intro w hSw
    try dsimp only at hSw
    go_simp
    all_goals with_reducible rfl
  try simp only[Act.put,sx]
  refine tl 1 ?_ ?_ hHeld ?_;rotate_left
  . intro w hSw;have c5:=hSw.1;go_simp
    all_goals with_reducible rfl
  try simp only[Act.put,sx]
  refine tl 2 ?_ ?_ hHeld ?_;rotate_left
  . intro w hSw
    try dsimp only at hSw
    go_simp
    all_goals with_reducible rfl
  try simp only[Act.put,sx]
  refine tl 3 ?_ ?_ hHeld ?_;rotate_left
  . intro w hSw
    try dsimp only at hSw
    go_simp
    all_goals with_reducible rfl
  try simp only[Act.put,sx]
  refine tl 4 ?_ ?_ hHeld ?_;rotate_left
  . intro w hSw;have q0:=hSw.2.1.c0;have q1:=hSw.2.1.c1;have q2:=hSw.2.1.c2;have q3:=hSw.2.1.c3;go_simp
    all_goals with_reducible rfl
  try simp only[Act.put,sx]
  refine tl 5 ?_ ?_ hHeld ?_;rotate_left
  . intro w hSw
    try dsimp only at hSw
    go_simp
    all_goals with_reducible rfl
  try simp only[Act.put,sx]
  refine tl 6 ?_ ?_ hHeld ?_;rotate_left
  . intro w hSw
    try dsimp only at hSw
    go_simp
    all_goals with_reducible rfl
  try simp only[Act.put,sx]
  refine tl 7 ?_ ?_ hHeld ?_;rotate_left
  . intro w hSw
    try dsimp only at hSw
    go_simp
    all_goals with_reducible rfl
  try simp only[Act.put,sx]
  refine tl 8 ?_ ?_ hHeld ?_;rotate_left
  . intro w hSw;have q0:=hSw.2.2.c0;have q1:=hSw.2.2.c1;go_simp
    all_goals with_reducible rfl
  try simp only[Act.put,sx]
  refine wpAnyH_ready (rs:=[9]) (by kernel_rfl) (by simp) ?_;apply AllReadyH.cons rfl ?_ AllReadyH.nil;intro K hK;go_simp
  go_at_call 18
  refine(C.out _).mono ?_;rintro e w1 ⟨rfl,B⟩;replace J2:=hid (Boxes.step (by first | with_reducible exact J2.out.drew | with_reducible exact J2.out) B);replace P:=CellsAt.step (by first | with_reducible exact P.drew | with_reducible exact P) B;replace Y:=hid (Points.step (by first | with_reducible exact Y.out.drew | with_reducible exact Y.out) B);have q9:PtAt w1 g (j*2) pt:=PtAt.of q (B.block g hgl);have b9:BoxAt w1 gb (goff+k*4) q4:=BoxAt.of qb (B.block gb hbl);clear q qb p5;have q:=q9;have qb:=b9;have p5:=P.cell 5 _ rfl;rw[hG] at p5;clear q9 b9 B hgl hbl;clear hHeld;go_wp2_with fail
  refine hK.out _ _ ⟨p5,(by first | with_reducible exact qb | exact qb.of rfl),(by first | with_reducible exact q | exact q.of rfl)⟩ (fun hHeld=>?_);clear hK K
  try simp only[Act.put,sx]
  refine wpAnyH_done (by kernel_rfl) ?_ _;refine NoPanic.normal ?_;cases hb
  . go_wp2
    go_roundw
    case rel=>exact⟨j+1,k,by omega,hk,rfl,by go_num,by simpa using st,J2.out,P,Y.out⟩
    case measure=>simp[intOf]; omega
  . go_wp2
    go_roundw
    case rel=>exact⟨j+1,k+1,by omega,by omega,by go_num,by go_num,by simpa using st,J2.out,P,Y.out⟩
    case measure=>simp[intOf]; omega
end
theorem way(a:Option Addr)(len cap:Nat)(zs:List Int)(W:World)(hr:IsRow .u8 W a len cap zs)(ca:Cel W a)(hq:Quarter W)(hG:XR.G<=W.heap.size):Ren.Way PP (Lx W) (Bb (Frame.enter PP fV #[.slice a len cap] .normal) []) W:=by
 refine Ren.Way.of_co (W:=W) (RO:=Lt W.heap.size) (O:=fun _=>False) ?_ (Ren.Alike.refl W) (fun j hj=>hj);have ha:ArrR XR.L (vr W W.heap.size) (#[.slice a len cap]++Array.replicate 66 undef) (#[.slice a len cap]++Array.replicate 66 undef) :=
  (ArrR.one (Br ca)).append (.replicate _ (.tuple rfl fun i x y h=>by simp at h))
 have h:Sit XR gR W.heap.size (vr W W.heap.size) (fun _=>False) (fun j=>W.heap[j]?) (fun T u=>T=#[.slice a len cap]++Array.replicate 66 undef/\(IsRow .u8 u a len cap zs/\Quarter u)/\Hp (vh W W.heap.size) u) (#[.slice a len cap]++Array.replicate 66 undef) (fun _=>False) W :=
  Sit.start (Nat.le_refl _) hG (CS hq fun _ _=>rfl) (fun j h=>h.elim) ha ha (fun _ _=>rfl) (fun u hu=>⟨rfl,⟨hr.veil ca (Hp.refl hu),hq.veil (Hp.refl hu)⟩,Hp.refl hu⟩)
 rw[Ds fV_at (c:=kB) rfl,kB_eq];refine h.ctl rfl (fun w1=>AF) ?_;refine h.wp AJ AK Av (fun T u u' x e=>⟨x.1,⟨x.2.1.1.same e,x.2.1.2.same e⟩,x.2.2.same e⟩) nn (Am fV_at) k0 (Q1:=Za (vh W W.heap.size) 67 a len cap zs) (fun T u x=>?_) fun T1 O1 y1 h1=>?_
 . rw[x.1,tv_args];exact a0 (J:=fun z=>match z with | 0=>.slice a len cap | _=>undef) rfl x.2.1.1 x.2.1.2 x.2.2
 refine h1.ctl rfl (fun w1=>AF) ?_;refine h1.wp2 AJ AK Av Za.hpo nn (Am fV_at) kX (Q1:=Za (vh W W.heap.size) 67 a len cap zs) (Q2:=fun T u=>T.getD 2 undef=.bool true) (fun T u x=>aX x) (fun T2 O2 y2 h2=>?_) (fun k T2 O2 y2 h2=>h2.done (fun _ _=>rfl) fV_at (by kernel_rfl) (by rfl) fun T u x=>x);refine h2.ctl rfl (fun w1=>AF) ?_;refine h2.wp AJ AK Av Za.hpo nn (Am fV_at) k3 (Q1:=fun T u=>∃ L D N cc xs b,Uh (vh W W.heap.size) 67 L D N cc xs b T u) (fun T u x=>a3 x) fun T3 O3 y3 h3=>?_;obtain⟨L,h3⟩:=h3.split;obtain⟨D,h3⟩:=h3.split;obtain⟨N,h3⟩:=h3.split;obtain⟨cc,h3⟩:=h3.split;obtain⟨xs,h3⟩:=h3.split
 obtain⟨b,h3⟩:=h3.split;refine h3.ctl rfl (fun w1=>AF) ?_;refine h3.ctl rfl (fun w1=>by rw[show c4=.region 4 (cO c4) false from rfl]; exact Ba) ?_;refine h3.ops (l1:=[0,1]) (l2:=[2,3]) AJ AK Av Uh.hpo nn (Am fV_at) o4 (Q1:=fun T u=>Uh (vh W W.heap.size) 67 L D N cc xs b T u/\T.getD 18 undef=L.val/\T.getD 19 undef=.slice D N cc) (fun T u x=>a4 x) fun T4 O4 y4 h4=>?_;refine h4.runScore hG (i:=2) (l:=[3]) (d:=20) (L:=L) (A:=D) (n:=N) (cap:=cc) (xs:=xs) rfl rfl rfl rfl (fun T u x=>⟨x.2,x.1.rd⟩) fun B2 y5 hB h5=>?_
 refine Sit.ops (l1:=[3]) (l2:=[]) (h5.mono (Q1:=fun T u=>Uh (vh W W.heap.size) 67 L D N cc xs b T u/\T.getD 20 undef=.int .i64 (L.score xs N)) fun T u ⟨T0,x,e⟩=>?_) AJ AK Av (fun T u u' x e=>⟨Uh.hpo T u u' x.1 e,x.2⟩) nn (Am fV_at) o4b (Q1:=Uo (vh W W.heap.size) 67 L D N cc xs b (L.score xs N)) (fun T u x=>a4b x.1 x.2) fun T6 O6 y6 h6=>?_
 . subst e;exact⟨x.1.put (by omega) _,A8 (by rw[x.1.size]; omega)⟩
 refine h6.ctl rfl (fun w1=>BG) ?_;rw[kR_eq];refine h6.ctl rfl (fun w1=>AF) ?_;refine h6.wp AJ AK Av Uo.hpo nn (Am fV_at) k5 (Q1:=fun T u=>Uo (vh W W.heap.size) 67 L D N cc xs b (L.score xs N) T u/\T.getD 6 undef=.int .i64 (L.score xs N)) (fun T u x=>a5 x) fun T7 O7 y7 h7=>?_;refine h7.ctl rfl (fun w1=>AF) ?_
 refine h7.wp2 AJ AK Av (fun T u u' x e=>⟨Uo.hpo T u u' x.1 e,x.2⟩) nn (Am fV_at) k6 (Q1:=fun T u=>Uo (vh W W.heap.size) 67 L D N cc xs b (L.score xs N) T u/\0<=L.score xs N) (Q2:=fun T u=>T.getD 2 undef=.bool true) (fun T u x=>a6 x.1 x.2) (fun T8 O8 y8 h8=>?_) (fun k T8 O8 y8 h8=>h8.done (fun j hj=>hB j hj) fV_at (by kernel_rfl) (by rfl) fun T u x=>x);have hx:=h8.fact fun T u x=>(⟨x.1.rd.ins.1,x.2,x.1.sm,x.1.rd.lv.J.1⟩:xs.length=N/\0<=L.score xs N/\N<=63/\L.gs.length=L.m);obtain⟨hok,i,i1,i2,i3,i4,i5,i6,i7,i8,i9⟩:=IL hx.1 hx.2.1;have hlen:=path.sts_len hx.1 hok
 have hgs:L.gs.length<=3:=((Di ..).1 (BZ.1 hok).2.1).2.2.2.2.2.1;have hN:(L.at xs N).g=L.m:=by
  rw[<- fin_at hok,i4,i8,hx.2.2.2]
 have g1:(L.at xs (1-1)).g<=0:=by
  show(L.at xs 0).g<=0
  rw[Lv.at_zero,SD hok];exact Int.le_refl _
 rw[kQ_eq];refine h8.ctl rfl (fun w1=>AF) ?_;refine h8.ctl rfl (fun w1=>by rw[show c8=.region 8 (cO c8) false from rfl]; exact Ba) ?_;refine h8.ops (l1:=[0,1]) (l2:=[2,3]) AJ AK Av (fun T u u' x e=>⟨Uo.hpo T u u' x.1 e,x.2⟩) nn (Am fV_at) o8 (Q1:=fun T u=>Uo (vh W W.heap.size) 67 L D N cc xs b (L.score xs N) T u/\T.getD 34 undef=L.val/\T.getD 35 undef=.slice D N cc) (fun T u x=>a8 x.1) fun T9 O9 y9 h9=>?_;refine h9.runPath hG (i:=2) (l:=[3]) (d:=36) (L:=L) (A:=D) (n:=N) (cap:=cc) (xs:=xs) rfl rfl rfl rfl (fun T u x=>⟨x.2,x.1.rd⟩) (by omega) fun c2 B4 y10 j O10 hcap hB4 h10=>?_
 have h11:=h10.mono (Q1:=fun T u=>∃ g,(Uo (vh W W.heap.size) 67 L D N cc xs b (L.score xs N) T u/\T.getD 36 undef=.slice (some ⟨g,0,none⟩) (path.sts L xs N).length c2)/\Points u (some ⟨g,0,none⟩) (path.sts L xs N).length ((path.sts L xs N).map DI)) fun T u ⟨T0,u0,x,e1,e2⟩=>by
  subst e1 e2;refine⟨u0.heap.size,⟨(x.1.put (by omega) _).at (Aa (Ac u0) _),A8 (by rw[x.1.size]; omega)⟩,?_⟩;have:=Points.lit u0 ((path.sts L xs N).map DI) 24
  rwa [List.length_map] at this
 obtain⟨g,h11⟩:=h11.split;refine Sit.ops (l1:=[3]) (l2:=[]) h11 AJ AK Av (fun T u u' x e=>⟨⟨Uo.hpo T u u' x.1.1 e,x.1.2⟩,x.2.same e⟩) nn (Am fV_at) o8b (Q1:=Uq (vh W W.heap.size) L D N cc xs b (L.score xs N) g (path.sts L xs N).length c2 ((path.sts L xs N).map DI)) (fun T u x=>a8b x.1.1 x.1.2 x.2) fun T12 O12 y12 h12=>?_;refine h12.ctl rfl (fun w1=>BG) ?_;exact h12.wp2 AJ AK Av Uq.hpo nn (Am fV_at) k_cE (Q1:=fun _ _=>False) (Q2:=fun T u=>T.getD 2 undef=.bool true) (fun T u x=>aE x (ga:=fun j=>(L.at xs (j-1)).g) ⟨by omega,by omega⟩ (by omega) g1 (fun j k j1 hj hk hg=>by
  rw[path.sts_at hx.1 hok (by omega)];exact NV hx.1 hok j1 (by omega) (by omega) hg) (by rw[hlen,Nat.add_sub_cancel]; exact hN)) (fun T7 O7 y7 h7=>h7.fact fun _ _ x=>x.elim) (fun k T7 O7 y7 h7=>h7.done (fun j hj=>(hB4 j hj).trans (hB j hj)) fV_at (by kernel_rfl) (by rfl) fun T u x=>x)
end Go.Proofs.YtaemcekcancpdaaGreatDoor.fnScoreGatesW
