import Derived.Test.YtgbiagonfbnooaaGreatDoorZRepQ
import Derived.Test.YtgbiagonfbnooaaGreatDoorZLinkPt
import Derived.Test.YtgbiagonfbnooaaGreatDoorZRepP
import Derived.Test.YtgbiagonfbnooaaGreatDoorZRepJ
set_option linter.all false
set_option maxRecDepth 100000
set_option maxHeartbeats 8000000
open Go.Lib
namespace Go.Proofs.YtgbiagonfbnooaaGreatDoor
open Go.RowKit
open M
theorem wp_append_run{w:World}{o:Oper}{a:Act}{K:Act->World->Prop}{Q:Exit->Act->World->Prop}(d s:Operand)(t t':TypeId)
 (ho:o.op=.call { callee:=.builtin .append,args:=#[d,s],argTypes:=#[t,t'] }) (v u:Value) (hd:a.eval d=v) (hs:a.eval s=u) {v':Value} {w':World}
 (hr:(Builtin.append_ #[t,t'] o.type #[v,u]).run Tryz.prog w=.ok v' w') (h:K (a.put o.dst v') w'):o.wp Tryz.prog a w K Q:=by
 unfold Oper.wp execOp;simp only[ho,resolve,invoke,builtin,Sem.run_bind,Sem.run_pure,Result.andThen_ok,List.map_toArray,List.map_cons,List.map_nil,hd,hs,hr];exact h
theorem M.pin_cond{c m:Int}{ps:List Pt}{n:Nat}:(decide (0<=(⟨c,m⟩:Pt).c/\(⟨c,m⟩:Pt).c<=9)&&decide (1<=(⟨c,m⟩:Pt).m)&&decide ((⟨c,m⟩:Pt).m<=60-n)&&!(Fg ps (⟨c,m⟩:Pt).c))=(Ax c 0 9&&decide (1<=m)&&decide (m<=60-(n:Int))&&!(Fg ps c)):=by
 simp[Ax]
def NG(w:World)(lo hi0:Nat)(ps:List Pt)(ov pv:Value)(W:World):Prop :=
 ∃(k:Nat) (cs:List Int) (p:Option Addr) (hi:Nat) (A:Option Addr) (ca:Nat),k<=ps.length/\pv=.pointer p/\hi<=hi0/\ChainP W lo hi (ps.drop k) (.pointer p)/\ov=.slice A cs.length ca/\(∀ g,(Value.slice A cs.length ca).ownBlock=some g->g<lo\/hi0<=g)/\W.ownsRow w.heap.size 89 3 (.slice A cs.length ca) cs.length (AZ (cs.map Fx))/\cs.length<=60/\CB ps 0=(CB (ps.drop k) cs.length).map (cs++·)/\hi0<=W.heap.size/\Below w.heap.size w W
def Mu:Value->Nat
 | .pointer (some a)=>a.block+1
 | _=>0
theorem KD{W:World}{lo g:Nat}{qs:List Pt}{nx:Option Addr}(h:ChainP W lo g qs (.pointer nx)):Mu (.pointer nx)<g+1:=by
 cases qs with
 | nil =>
  obtain rfl:nx=none:=by simpa[ChainP] using h
  exact Nat.succ_pos _
 | cons q qs =>
  obtain⟨g',nx',e,_,h2,_⟩:=ChainP.cons h;cases e
  show g'+1<g+1
  omega
theorem Gz(A:Option Addr)(n cap:Nat)(ps:List Pt)(w:World)(Y:Parts w A n ps)(hn:n<=281474976710656) :
 Calls Tryz.prog 23 #[.slice A n cap] w (Ia w (AH ps)):=by
 replace Y:=hid Y;have O:(w.alloc (.cells #[] 89)).ownsRow w.heap.size 89 3 (.slice (some ⟨w.heap.size,0,none⟩) 0 0) ([]:List Int).length (AZ (([]:List Int).map Fx)):=Bl w w.heap.size w.heap.size rfl (Nat.le_refl _);have B:=Ab (Ac w) (.cells #[] 89);have Y1:=hid (Y.out.alloc (.cells #[] 89));replace O:=hid O;replace B:=hid B;go_enter Tryz.func23,Tryz.ntmps23;go_wp2_with fail;refine(He A n cap ps _ Y1.out hn).mono ?_;rintro e w1 ⟨p,rfl,C,B1⟩;replace O:=hid (As O.out B1);have hlo:(w.alloc (.cells #[] 89)).heap.size=w.heap.size+1:=by simp
 rw[hlo] at C;have hz1:=B1.size;rw[hlo] at hz1;replace B:=hid (Aa B.out B1);replace C:=hid C;clear B1 Y Y1 hlo;go_wp2
 go_loopw [4,5] (NG w (w.heap.size+1) w1.heap.size ps) (fun _ pv _=>Mu pv)
 case atStart=>exact⟨0,[],p,w1.heap.size,_,_,Nat.zero_le _,rfl,Nat.le_refl _,C.out,rfl,fun g e=>by cases e; exact .inl (Nat.lt_succ_self _),O.out,by simp,by simp,Nat.le_refl _,B.out⟩
 case round =>
  clear O B C;obtain⟨k,cs,p',hi,A1,ca,hk,rfl,hhi,C,rfl,hob,O,h60,hr,hsz,B⟩:=hrel;by_cases hlt:k<ps.length
  rotate_left
  . have hd:ps.drop k=[]:=List.drop_eq_nil_of_le (by omega);rw[hd] at C hr;obtain rfl:p'=none:=by simpa[ChainP] using C
    have e1:AH ps=some (cs.map Fx):=by
     rw[AH,KY,hr];simp[CB]
    replace O:=hid O;replace B:=hid B;replace e1:=hid e1;clear hr hd C;go_wp2;refine bodyPost_ret (v:=.tuple #[_,.bool true]) (by simp[results,Tryz.results23,go_sem]; rfl) rfl ⟨_,by rw[e1.out]; rfl,?_,B.out⟩;rw[e1.out,Option.getD_some,List.length_map];exact O.out
  rw[drop_pt hlt] at C hr;obtain⟨g,nx,e1,hg1,hg2,hG,hT⟩:=ChainP.cons C;cases e1
  generalize ps.getD k pz=q at *;obtain⟨qc,qm⟩:=q;simp only at hG;have bad:(Ax qc 0 9&&decide (1<=qm)&&decide (qm<=60-(cs.length:Int))&&!(Fg (ps.drop (k+1)) qc))=false->AH ps=none:=fun e=>by
   rw[AH,KY,hr,Mf (by rw[pin_cond]; exact e)]; rfl
  have good:(Ax qc 0 9&&decide (1<=qm)&&decide (qm<=60-(cs.length:Int))&&!(Fg (ps.drop (k+1)) qc))=true->CB ps 0=(CB (ps.drop (k+1)) (cs.length+qm.toNat)).map ((cs++List.replicate qm.toNat qc)++·):=fun e=>by
   rw[hr,K0 (by rw[pin_cond]; exact e),Option.map_map];congr 1;funext x;simp
  replace C:=hid C;obtain⟨g0,g1,g2⟩:=BL hG;have g3:=hG.lt;replace hT:=hid hT;replace O:=hid O;replace B:=hid B;replace bad:=hid bad;replace good:=hid good;replace hob:=hid hob;clear hr;go_wp2_with fail;refine(LB qc _).mono ?_;rintro e w2 ⟨rfl,B2⟩;replace O:=hid (As O.out B2);replace C:=hid (ChainP.step B2 C.out);replace hT:=hid (ChainP.step B2 hT.out);replace hG:=hG.step B2;replace hsz:=Nat.le_trans hsz B2.size;replace B:=hid (Aa B.out B2);clear B2 g0 g1 g2 g3;go_upto_region 6 with fail
  refine Aw (fun W'=>W'.ownsRow w.heap.size 89 3 (.slice A1 cs.length ca) cs.length (AZ (cs.map Fx))/\CellsAt W' w2.heap.size [.int .i64 (F5 qc),.int .i64 (F6 qc),.bool (G4 qc)]/\ChainP W' (w.heap.size+1) hi (⟨qc,qm⟩::ps.drop (k+1)) (.pointer (some ⟨g,0,none⟩))/\ChainP W' (w.heap.size+1) g (ps.drop (k+1)) (.pointer nx)/\CellsAt W' g [.int .i64 qc,.int .i64 qm,.pointer nx]/\Below w.heap.size w W'/\w1.heap.size<=W'.heap.size) ⟨O.out.alloc _,CellsAt.new _ _ _ _ rfl,C.out.alloc _,hT.out.alloc _,hG.alloc _,Ab B.out _,by simp; omega⟩ ?_
  have hsb:(Value.slice A1 cs.length ca).ownBlock≠some w2.heap.size:=fun e=>by have:=(O.out.lt _ e).2; omega
  have hsw:w1.heap.size<=w2.heap.size:=hsz;clear O B C hT hG hsz;generalize w2.heap.size=sb at *;rintro w3 ⟨O,X,C,hT,hG,B,hsz⟩;obtain⟨g0,g1,g2⟩:=BL hG;have g3:=hG.lt;have hw:IntKind.i64.wrap (60-(cs.length:Int))=60-(cs.length:Int):=IntWalk.i64_in _ (by omega);replace O:=hid O;replace X:=hid X;replace C:=hid C;replace hT:=hid hT;replace hG:=hid hG;replace B:=hid B;replace hsb:=hid hsb
  have fails:∀ W:World,Below w.heap.size w W->AH ps=none->Ia w (AH ps) (.returned (.tuple #[.slice (some ⟨W.heap.size,0,none⟩) 0 0,.bool false])) (W.alloc (.cells #[] 89)):=fun W B' e=>⟨_,by rw[e]; rfl,by rw[e]; exact Bl _ _ _ rfl B'.size,Ab B' _⟩;replace fails:=hid fails;cases hok:Ax qc 0 9
  . have e:=hid (bad.out (by rw[hok]; rfl));clear bad good;go_wp2;exact bodyPost_ret (v:=.tuple #[_,.bool false]) (by simp[results,Tryz.results23,go_sem]) rfl (fails.out _ B.out e.out)
  by_cases hm1:qm<1
  . have e:=hid (bad.out (by rw[decide_eq_false (show ¬ 1<=qm by omega)]; simp));have d1:decide (qm<1)=true:=decide_eq_true hm1;replace hok:=hid hok;clear bad good;go_wp2;exact bodyPost_ret (v:=.tuple #[_,.bool false]) (by simp[results,Tryz.results23,go_sem]) rfl (fails.out _ B.out e.out)
  have d1:decide (qm<1)=false:=decide_eq_false hm1;by_cases hm2:60-(cs.length:Int)<qm
  . have e:=hid (bad.out (by rw[decide_eq_false (show ¬ qm<=60-(cs.length:Int) by omega)]; simp));have d2:decide (60-(cs.length:Int)<qm)=true:=decide_eq_true hm2;replace hok:=hid hok;clear bad good;go_wp2;exact bodyPost_ret (v:=.tuple #[_,.bool false]) (by simp[results,Tryz.results23,go_sem]) rfl (fails.out _ B.out e.out)
  have d2:decide (60-(cs.length:Int)<qm)=false:=decide_eq_false hm2;have hmm:1<=qm/\qm<=60-(cs.length:Int):=by omega
  have hC:=fun W c=>Gy (some ⟨g,0,none⟩) (w.heap.size+1) hi ⟨qc,qm⟩ (ps.drop (k+1)) W c;cases hx:Fg (ps.drop (k+1)) qc
  rotate_left
  . have e:=hid (bad.out (by rw[hx]; simp));simp only[hx] at hC;replace hok:=hid hok;replace hx:=hid hx;clear bad good hm1 hm2;go_wp2_with fail;refine(hC _ C.out).mono ?_;rintro e2 w4 ⟨rfl,B4⟩;replace B:=hid (Aa B.out B4);go_wp2;exact bodyPost_ret (v:=.tuple #[_,.bool false]) (by simp[results,Tryz.results23,go_sem]) rfl (fails.out _ B.out e.out)
  replace good:=good.out (by rw[hok,hx,decide_eq_true hmm.1,decide_eq_true hmm.2]; rfl);simp only[hx] at hC;replace hok:=hid hok;replace hx:=hid hx;replace good:=hid good;clear bad hm1 hm2 fails;go_wp2_with fail;refine(hC _ C.out).mono ?_;rintro e2 w4 ⟨rfl,B4⟩;replace O:=hid (As O.out B4);replace X:=hid (X.out.step B4);replace hT:=hid (ChainP.step B4 hT.out);replace hG:=hid (hG.out.step B4);replace hsz:=Nat.le_trans hsz B4.size;replace B:=hid (Aa B.out B4);clear B4 hC C g0 g1 g2 g3 d1 d2 hw;obtain⟨mn,hmn⟩:∃ mn:Nat,qm.toNat=mn:=⟨_,rfl⟩;have hmi:qm=(mn:Int):=by omega
  subst hmi;rw[Int.toNat_natCast] at hmn;clear hmn;obtain⟨m1,m2⟩:=hmm;have m3:mn<=60:=by omega
  have m4:1<=mn:=by omega
  have m5:cs.length+mn<=60:=by omega
  have good:=hid (show CB ps 0=(CB (ps.drop (k+1)) (cs++List.replicate mn qc).length).map ((cs++List.replicate mn qc)++·) by
   rw[good.out,Int.toNat_natCast,List.length_append,List.length_replicate])
  clear m1 m2;go_wp2_with fail;have O:=O.out;have X:=X.out;have hG:=hG.out;refine wp_region_held_drew (S:=fun w'=>CellsAt w' sb [.int .i64 (F5 qc),.int .i64 (F6 qc),.bool (G4 qc)]/\CellsAt w' g [.int .i64 qc,.int .i64 (mn:Int),.pointer nx]) (by kernel_rfl) ⟨X.drew,hG.drew⟩ (fun hHeld=>?_);refine tl 0 ?_ ?_ hHeld ?_;rotate_left
  . intro w hSw
    try dsimp only at hSw
    go_simp
    all_goals with_reducible rfl
  try simp only[Act.put,sx]
  refine tl 1 ?_ ?_ hHeld ?_;rotate_left
  . intro w hSw;obtain⟨x0,x1,x2⟩:=BL hSw.1;go_simp
    all_goals with_reducible rfl
  try simp only[Act.put,sx]
  refine tl 3 ?_ ?_ hHeld ?_;rotate_left
  . intro w hSw
    try dsimp only at hSw
    go_simp
    all_goals with_reducible rfl
  try simp only[Act.put,sx]
  refine tl 4 ?_ ?_ hHeld ?_;rotate_left
  . intro w hSw
    try dsimp only at hSw
    go_simp
    all_goals with_reducible rfl
  try simp only[Act.put,sx]
  refine tl 5 ?_ ?_ hHeld ?_;rotate_left
  . intro w hSw
    try dsimp only at hSw
    go_simp
    all_goals with_reducible rfl
  try simp only[Act.put,sx]
  refine tl 6 ?_ ?_ hHeld ?_;rotate_left
  . intro w hSw
    try dsimp only at hSw
    go_simp
    all_goals with_reducible rfl
  try simp only[Act.put,sx]
  refine tl 7 ?_ ?_ hHeld ?_;rotate_left
  . intro w hSw;have g1:=hSw.2.cell 1 _ rfl;go_simp
    all_goals with_reducible rfl
  try simp only[Act.put,sx]
  refine wpAnyH_ready (rs:=[2]) (by kernel_rfl) (by simp) ?_;apply AllReadyH.cons rfl ?_ AllReadyH.nil;intro K hK;go_simp;refine hK.out _ _ ⟨(X.drew).alloc _,(hG.drew).alloc _⟩ (fun hHeld=>?_);clear hK K
  try simp only[Act.put,sx]
  refine wpAnyH_ready (rs:=[8]) (by kernel_rfl) (by simp) ?_;apply AllReadyH.cons rfl ?_ AllReadyH.nil;intro K hK;go_simp
  go_at_call 51
  refine(Hi _ _ (Fx qc) mn _ (Inputs.one w4 _ _ _ _ _ rfl).drew m4 m3).mono ?_;rintro e w5 ⟨rb,rfl,RI,hrb,B5⟩;have O5:=As (O.drew.alloc _) B5;have X5:=(X.drew.alloc _).step B5;have G5:=(hG.drew.alloc _).step B5;have T5:=hid (ChainP.step B5 (hT.out.drew.alloc _));have BB:=hid (Aa (Ab B.out.drew _) B5);have hsz5:=Nat.le_trans (show w1.heap.size<=_ by simpa using Nat.le_succ_of_le hsz) B5.size;clear B5 hHeld;go_wp2_with fail;refine hK.out _ _ ⟨X5,G5⟩ (fun hHeld=>?_);clear hK K
  try simp only[Act.put,sx]
  refine wpAnyH_ready (rs:=[9]) (by kernel_rfl) (by simp) ?_;apply AllReadyH.cons rfl ?_ AllReadyH.nil;intro K hK;dsimp only[List.getElem_toArray,List.getElem_cons_succ,List.getElem_cons_zero];rw[if_pos (by rfl)];obtain⟨v',w6,hr6,O6,G6,hB6⟩:=AX w5 w.heap.size 23 (.slice A1 cs.length ca) cs.length (cs.map Fx) O5 (some ⟨rb,0,none⟩) mn mn (List.replicate mn (Fx qc)) RI (by omega) BB.out.size;refine wp_append_run (.tmp 52) (.tmp 60) 23 23 rfl _ _ rfl rfl hr6 ?_;have X6:=X5.grown G6 (fun e=>hsb.out e);have G7:=G5.grown G6 (fun e=>by have:=hob.out _ e; omega);have T6:=hid (ChainP.grown G6 (fun g2 e=>by have:=hob.out _ e; omega) T5.out)
  have B6:=hid (BB.out.grown G6 (by have:=BB.out.size; omega) (fun g2 e=>(O5.lt g2 e).1));have hsz6:=Nat.le_trans hsz5 G6.size;refine hK.out _ _ ⟨X6,G7⟩ (fun hHeld=>?_);clear hK K
  try simp only[Act.put,sx]
  refine tl 10 ?_ ?_ hHeld ?_;rotate_left
  . intro w hSw
    try dsimp only at hSw
    go_simp
    all_goals with_reducible rfl
  try simp only[Act.put,sx]
  refine wpAnyH_done (by kernel_rfl) ?_ _;have c2:=G7.cell 2 _ rfl;have c3:=G7.lt;have eb:=hid (KD T6.out);have O7:w6.ownsRow w.heap.size 89 3 v' (cs++List.replicate mn qc).length (AZ ((cs++List.replicate mn qc).map Fx)):=by
   rw[List.length_append,List.length_replicate,List.map_append,List.map_replicate]; exact O6
  obtain⟨A7,ca7,hv7,_,_⟩:=Inputs.of_own O7;have hl7:(cs++List.replicate mn qc).length<=60:=by rw[List.length_append,List.length_replicate]; exact m5
  have hob7:∀ g2,(Value.slice A7 (cs++List.replicate mn qc).length ca7).ownBlock=some g2->g2<w.heap.size+1\/w1.heap.size<=g2:=fun g2 e=>by
   rw[<- hv7] at e;rcases hB6 with h | h
   . rw[h] at e; exact hob.out _ e
   . rw[h] at e; cases e; exact .inr hsz5
  subst hv7;replace O7:=hid O7;replace hob7:=hid hob7;clear O O5 O6 X X5 X6 G5 hG G6 G7 hB6 hr6 RI T5 hT BB B hob hsb hsz hsz5;go_wp2
  go_roundw
  case rel=>exact⟨k+1,cs++List.replicate mn qc,nx,g,A7,ca7,by omega,rfl,by omega,T6.out,rfl,hob7.out,O7.out,hl7,good.out,hsz6,B6.out⟩
  case measure=>exact eb.out
open Go.RowKit
open M
theorem EP(s p:Int)(z:Bool)(w:World):(binOp .neq 89 (BK s p z) (BK s p z)).run Tryz.prog w=.ok (.bool false) w:=Jg (Jh s p z) w
theorem DV(A D:Option Addr)(n c d:Nat)(xs:List In)(w:World)(I:Inputs w A n xs)(J:Inputs w D n xs)(hn:n<=1048576) :
 Calls Tryz.prog 24 #[.slice A n c,.slice D n d] w fun e w'=>e=.returned (.bool true)/\Below w.heap.size w w':=by
 replace I:=hid I;replace J:=hid J;have hN:=EP;have hG:=GO;go_enter Tryz.func24,Tryz.ntmps24;go_wp2
 go_loopw [5] (fun i W=>∃ k m:Nat,k<=n/\i=.int .i64 k/\w.drewN m=W) (fun i _=>n-(RowKit.intOf i).toNat)
 case atStart=>exact⟨0,0,Nat.zero_le _,rfl,rfl⟩
 case round =>
  obtain⟨k,m,hk,rfl,rfl⟩:=hrel;by_cases hlt:k<n
  . obtain⟨b,off,hA,_,hc⟩:=I.out.2 (by omega);obtain⟨b2,off2,hD,_,hc2⟩:=J.out.2 (by omega);obtain⟨W,hW⟩:∃ W,w.drewN m=W:=⟨_,rfl⟩;have k1:InAt W b (off+k*3) (xs.getD k iz):=hW▸(hc k hlt).of rfl;have k2:InAt W b2 (off2+k*3) (xs.getD k iz):=hW▸(hc2 k hlt).of rfl;clear hc hc2;subst hA hD;generalize xs.getD k iz=q at *;obtain⟨qs,qp,qz⟩:=q;obtain⟨c0,c1,c2⟩:=k1;obtain⟨d0,d1,d2⟩:=k2;simp only at c0 c1 c2 d0 d1 d2;have hNN:=hN qs qp qz;rw[hW];replace hW:=hid hW;clear hN;go_wp2_with fail
    go_quiet (fail)
    go_wp2
    go_roundw
    case rel=>exact⟨k+1,m+_,by omega,by go_num,by rw[<- hW.out]; exact(DT w m _).symm⟩
    case measure=>simp[RowKit.intOf]; omega
  . go_wp2;go_ret;exact⟨rfl,AY (Ac w) m⟩
end Go.Proofs.YtgbiagonfbnooaaGreatDoor
