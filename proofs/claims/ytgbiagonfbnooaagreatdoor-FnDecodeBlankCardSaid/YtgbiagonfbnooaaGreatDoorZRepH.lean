import Derived.Test.YtgbiagonfbnooaaGreatDoorZRepG
set_option linter.all false
set_option maxRecDepth 100000
set_option maxHeartbeats 8000000
open Go.Lib
namespace Go.Proofs.YtgbiagonfbnooaaGreatDoor
open Go.RowKit
open M
theorem Fb{w:World}{o:Oper}{a:Act}{K:Act->World->Prop}{Q:Exit->Act->World->Prop}(s x:Operand)
 (ho:o.op=.call { callee:=.builtin .append,args:=#[s,x],argTypes:=#[24,24] }) (base:Nat) (v:Value) (n:Nat) (qs:List Int) (hs:a.eval s=v) (hown:w.ownsRow base 3 1 v n (qs.map (Value.int .i64)))
 (A:Option Addr) (m c:Nat) (xs:List Int) (hx:a.eval x=.slice A m c) (I:Ints w A m xs) (hn:n+m<=8000000) (hb:base<=w.heap.size)
 (h:∀ v' w',w'.ownsRow base 3 1 v' (n+m) ((qs++xs).map (Value.int .i64))->w.grownBy w' v.ownBlock->K (a.put o.dst v') w'):o.wp Tryz.prog a w K Q:=by
 obtain⟨v',w',hr,h2,h3,_⟩:=Cl w base o.type v n qs hown A m c xs I hn hb;unfold Oper.wp execOp;simp only[ho,resolve,invoke,builtin,Sem.run_bind,Sem.run_pure,Result.andThen_ok,List.map_toArray,List.map_cons,List.map_nil,hs,hx,hr];exact h v' w' h2 h3
theorem Ints.three(w:World)(a b c:Int)(t:TypeId):Ints (w.alloc (.cells #[.int .i64 a,.int .i64 b,.int .i64 c] t)) (some ⟨w.heap.size,0,none⟩) 3 [a,b,c] :=
 ⟨rfl,fun _=>⟨w.heap.size,0,rfl,by simp,fun k hk=>by
  match k,hk with
  | 0,_=>simp
  | 1,_=>simp
  | 2,_=>simp⟩⟩
theorem Cu{w:World}{o:Oper}{a:Act}{K:Act->World->Prop}{Q:Exit->Act->World->Prop}(x:Operand)(hop:o.op=.buildSlice 24 1 #[(0,x)])(p:Int)(hx:a.eval x=.int .i64 p)
 (h:∀(g:Nat) (w':World),Below w.heap.size w w'->w.heap.size<=g->Ints w' (some ⟨g,0,none⟩) 1 [p]->K (a.put o.dst (.slice (some ⟨g,0,none⟩) 1 1)) w'):o.wp Tryz.prog a w K Q:=by
 obtain⟨i0,hi,hz0,hz1,hz2⟩:=info_parts BO;refine wp_buildSlice 24 3 1 _ hop #[.int .i64 p] i0 (.int .i64 0) Tryz.underlying24 hi hz0 (by rw[hz1]; decide) (by rw[hz1]; decide) ?_ (h _ _ (Ab (Ac w) _) (Nat.le_refl _) (Ints.one w _ _));rw[hz1];simp only[List.map_toArray,List.map_cons,List.map_nil,hx]
 first | kernel_rfl | (simp[Instr.fill,Array.range,Value.cells]; done) | go_simp
theorem Kk{w:World}{o:Oper}{a:Act}{K:Act->World->Prop}{Q:Exit->Act->World->Prop}(x y:Operand)(hop:o.op=.buildSlice 24 2 #[(0,x),(1,y)])(p q:Int)(hx:a.eval x=.int .i64 p)(hy:a.eval y=.int .i64 q)
 (h:∀(g:Nat) (w':World),Below w.heap.size w w'->w.heap.size<=g->Ints w' (some ⟨g,0,none⟩) 2 [p,q]->K (a.put o.dst (.slice (some ⟨g,0,none⟩) 2 2)) w'):o.wp Tryz.prog a w K Q:=by
 obtain⟨i0,hi,hz0,hz1,hz2⟩:=info_parts BO;refine wp_buildSlice 24 3 2 _ hop #[.int .i64 p,.int .i64 q] i0 (.int .i64 0) Tryz.underlying24 hi hz0 (by rw[hz1]; decide) (by rw[hz1]; decide) ?_ (h _ _ (Ab (Ac w) _) (Nat.le_refl _) (Ints.two w _ _ _));rw[hz1];simp only[List.map_toArray,List.map_cons,List.map_nil,hx,hy]
 first | kernel_rfl | (simp[Instr.fill,Array.range,Value.cells]; done) | go_simp
theorem Gn{w:World}{o:Oper}{a:Act}{K:Act->World->Prop}{Q:Exit->Act->World->Prop}(x y z:Operand)(hop:o.op=.buildSlice 24 3 #[(0,x),(1,y),(2,z)])(p q r:Int)(hx:a.eval x=.int .i64 p)(hy:a.eval y=.int .i64 q)(hz:a.eval z=.int .i64 r)
 (h:∀(g:Nat) (w':World),Below w.heap.size w w'->w.heap.size<=g->Ints w' (some ⟨g,0,none⟩) 3 [p,q,r]->K (a.put o.dst (.slice (some ⟨g,0,none⟩) 3 3)) w'):o.wp Tryz.prog a w K Q:=by
 obtain⟨i0,hi,hz0,hz1,hz2⟩:=info_parts BO;refine wp_buildSlice 24 3 3 _ hop #[.int .i64 p,.int .i64 q,.int .i64 r] i0 (.int .i64 0) Tryz.underlying24 hi hz0 (by rw[hz1]; decide) (by rw[hz1]; decide) ?_ (h _ _ (Ab (Ac w) _) (Nat.le_refl _) (Ints.three w _ _ _ _));rw[hz1];simp only[List.map_toArray,List.map_cons,List.map_nil,hx,hy,hz]
 first | kernel_rfl | (simp[Instr.fill,Array.range,Value.cells]; done) | go_simp
theorem M.flatP_snoc(ps:List Pt)(q:Pt):Aq (ps++[q])=Aq ps++[q.c,q.m]:=by simp[Aq]
def NB(w wp:World)(pv:Value)(ps:List Pt)(vs:List Value)(ov iv:Value)(W:World):Prop :=
 ∃ k:Nat,k<=ps.length/\iv=.int .i64 k/\W.ownsRow wp.heap.size 3 1 ov (Aq (ps.take k)).length ((Aq (ps.take k)).map (Value.int .i64))/\CellsAt W w.heap.size vs/\wp.heap.size<=W.heap.size/\Below wp.heap.size wp W/\Below w.heap.size w W
theorem Kl(l p s:Int)(A:Option Addr)(n c:Nat)(H:Option Addr)(m d:Nat)(t:Int)(xs:List In)(hs:List Int)(w:World)(Y:Inputs w A n xs)(Z:Ints w H m hs)(ok:Bq ⟨l,p,s,xs,hs,t⟩=true) :
 Calls Tryz.prog 20 #[CH l p s A n c H m d t] w fun e w'=>e=.returned (.string (str (E7 ⟨l,p,s,xs,hs,t⟩)))/\Below w.heap.size w w':=by
 have hl:=hid Y.1;have hk:=hid Z.1;obtain⟨r1,r2,r3,r4,r5,r6,r7⟩:=DC ok;dsimp only at r1 r2 r3 r4 r5 r6 r7;have hfin:=BM r5;have hx60:=(AO.1 r5).2;replace Y:=hid Y;replace Z:=hid Z;replace r5:=hid r5;have D:CellsAt (w.alloc (.cells #[.int .i64 l,.int .i64 p,.int .i64 s,.slice A n c,.slice H m d,.int .i64 t] 26)) w.heap.size (AR l p s A n c H m d t):=CellsAt.new w _ _ _ rfl;have B:=Ab (Ac w) (.cells #[.int .i64 l,.int .i64 p,.int .i64 s,.slice A n c,.slice H m d,.int .i64 t] 26);have c3:=D.cell 3 _ rfl;replace D:=hid D;replace B:=hid B;replace r1:=hid r1;go_enter Tryz.func20,Tryz.ntmps20;go_wp2_with fail
 refine(Kh A n c xs _ (Y.out.step B.out) r5.out).mono ?_;rintro e w1 ⟨v,rfl,O1,B1⟩;replace D:=hid (D.out.step B1);replace B:=hid (Aa B.out B1);obtain⟨ps,hps⟩:∃ ps,Ba (An xs)=ps:=⟨_,rfl⟩;have hlp:ps.length<=60:=by have:=pts_len (An xs); rw[hps] at this; simp only[An,List.length_map] at this; omega
 have hpb:=Gv hfin;rw[hps] at O1 hpb;obtain⟨Ap,cp,rfl,P,_⟩:=Parts.of_own O1;have hfo:=Dk hfin;rw[hps] at hfo;replace P:=hid P;replace hps:=hid hps;replace hpb:=hid hpb;replace hfo:=hid hfo;clear B1 O1 c3 hfin;have O:(w1.alloc (.cells #[] 3)).ownsRow w1.heap.size 3 1 (.slice (some ⟨w1.heap.size,0,none⟩) 0 0) (Aq (ps.take 0)).length ((Aq (ps.take 0)).map (Value.int .i64)):=World.ownsRow_lit w1 #[] 0 (Nat.le_refl _) (Nat.zero_le _) rfl;have D1:=D.out.alloc (.cells #[] 3);have B1:=Ab B.out (.cells #[] 3);have BW:=Ab (Ac w1) (.cells #[] 3);have hw01:=D.out.lt;clear D B;go_wp2
 go_loopw [4,5] (NB w w1 (.slice Ap ps.length cp) ps (AR l p s A n c H m d t)) (fun _ i _=>ps.length-(RowKit.intOf i).toNat)
 case atStart=>exact⟨0,Nat.zero_le _,rfl,O,D1,by simp,BW,B1⟩
 case round =>
  clear O D1 BW B1;obtain⟨k,hk2,rfl,O,D,hW,BW,B⟩:=hrel;obtain⟨A2,ca2,hv2,_⟩:=Ints.of_own O;subst hv2;by_cases hlt:k<ps.length
  . obtain⟨b,off,rfl,hb1,hc⟩:=P.out.2 (by omega);have Zc:=(hc k hlt).of (BW.block b hb1);have hb:=Nat.lt_of_lt_of_le hb1 BW.size;have en:Aq (ps.take (k+1))=Aq (ps.take k)++[(ps.getD k pz).c,(ps.getD k pz).m]:=by
     rw[List.take_succ_eq_append_getElem hlt,flatP_snoc,List.getD_eq_getElem?_getD,List.getElem?_eq_getElem hlt]; rfl
    have hfl:(Aq (ps.take k)).length<=120:=by rw[BI,List.length_take]; omega
    clear hc;generalize ps.getD k pz=q at *;obtain⟨qc,qm⟩:=q;obtain⟨z0,z1⟩:=Zc;dsimp only at z0 z1 en;replace en:=hid en;replace O:=hid O;replace B:=hid B;replace BW:=hid BW;go_wp2_with fail;refine wp_region_held_drew (S:=fun w'=>w'.cell? ⟨b,off+k*2,none⟩=some (.int .i64 qc)/\w'.cell? ⟨b,off+k*2+1,none⟩=some (.int .i64 qm)) (by kernel_rfl) ⟨z0,z1⟩ (fun hHeld=>?_);replace O:=hid O.out.drew;replace D:=D.drew;replace B:=hid (Az B.out);replace BW:=hid (Az BW.out);replace z0:wr.drew.cell? ⟨b,off+k*2,none⟩=some (.int .i64 qc):=z0;replace z1:wr.drew.cell? ⟨b,off+k*2+1,none⟩=some (.int .i64 qm):=z1
    replace hW:w1.heap.size<=wr.drew.heap.size:=hW;replace hb:b<wr.drew.heap.size:=hb;generalize wr.drew=w3 at *;refine tl 0 ?_ ?_ hHeld ?_;rotate_left
    . intro w hSw
      try dsimp only at hSw
      go_simp
      all_goals with_reducible rfl
    try simp only[Act.put,sx]
    refine tl 1 ?_ ?_ hHeld ?_;rotate_left
    . intro w hSw
      try dsimp only at hSw
      go_simp
      all_goals with_reducible rfl
    try simp only[Act.put,sx]
    refine tl 2 ?_ ?_ hHeld ?_;rotate_left
    . intro w hSw
      try dsimp only at hSw
      go_simp
      all_goals with_reducible rfl
    try simp only[Act.put,sx]
    refine tl 3 ?_ ?_ hHeld ?_;rotate_left
    . intro w hSw
      try dsimp only at hSw
      go_simp
      all_goals with_reducible rfl
    try simp only[Act.put,sx]
    refine tl 4 ?_ ?_ hHeld ?_;rotate_left
    . intro w hSw
      try dsimp only at hSw
      go_simp
      all_goals with_reducible rfl
    try simp only[Act.put,sx]
    refine tl 5 ?_ ?_ hHeld ?_;rotate_left
    . intro w hSw
      try dsimp only at hSw
      go_simp
      all_goals with_reducible rfl
    try simp only[Act.put,sx]
    refine tl 6 ?_ ?_ hHeld ?_;rotate_left
    . intro w hSw
      try dsimp only at hSw
      go_simp
      all_goals with_reducible rfl
    try simp only[Act.put,sx]
    refine tl 7 ?_ ?_ hHeld ?_;rotate_left
    . intro w hSw
      try dsimp only at hSw
      go_simp
      all_goals with_reducible rfl
    try simp only[Act.put,sx]
    refine tl 8 ?_ ?_ hHeld ?_;rotate_left
    . intro w hSw
      try dsimp only at hSw
      go_simp
      all_goals with_reducible rfl
    try simp only[Act.put,sx]
    refine tl 9 ?_ ?_ hHeld ?_;rotate_left
    . intro w hSw
      try dsimp only at hSw
      go_simp
      all_goals with_reducible rfl
    try simp only[Act.put,sx]
    refine tl 10 ?_ ?_ hHeld ?_;rotate_left
    . intro w hSw
      try dsimp only at hSw
      go_simp
      all_goals with_reducible rfl
    try simp only[Act.put,sx]
    refine wpAnyH_ready (rs:=[11]) (by kernel_rfl) (by simp) ?_;apply AllReadyH.cons rfl ?_ AllReadyH.nil;intro K hK;dsimp only[List.getElem_toArray,List.getElem_cons_succ,List.getElem_cons_zero];rw[if_pos (by rfl)];refine Kk (.tmp 21) (.tmp 26) rfl qc qm rfl rfl ?_;intro g w4 B4 hg I4;replace O:=hid (As O.out B4);replace D:=D.step B4;replace B:=hid (Aa B.out B4);replace BW:=hid (Aa BW.out B4);replace z0:=(B4.cell (p:=⟨b,off+k*2,none⟩) hb).trans z0;replace z1:=(B4.cell (p:=⟨b,off+k*2+1,none⟩) hb).trans z1;replace hb:=Nat.lt_of_lt_of_le hb B4.size;replace hW:=Nat.le_trans hW B4.size;clear B4 hHeld
    refine hK.out _ _ ⟨z0,z1⟩ (fun hHeld=>?_);clear hK K
    try simp only[Act.put,sx]
    refine wpAnyH_ready (rs:=[12]) (by kernel_rfl) (by simp) ?_;apply AllReadyH.cons rfl ?_ AllReadyH.nil;intro K hK;dsimp only[List.getElem_toArray,List.getElem_cons_succ,List.getElem_cons_zero];rw[if_pos (by rfl)];refine Fb (.tmp 16) (.tmp 27) rfl w1.heap.size (Value.slice A2 (Aq (ps.take k)).length ca2) (Aq (ps.take k)).length (Aq (ps.take k)) rfl O.out (some ⟨g,0,none⟩) 2 2 [qc,qm] rfl I4 (by omega) hW ?_;intro v9 w9 O9 G9;have B9:=B.out.grown G9 B.out.size (fun g' e=>by have:=(O.out.lt g' e).1; omega);have BW9:=BW.out.grown G9 BW.out.size (fun g' e=>(O.out.lt g' e).1);have D9:=D.grown G9 (fun e=>by have:=(O.out.lt _ e).1; omega)
    have hW9:=Nat.le_trans hW G9.size;have O9:=(show w9.ownsRow w1.heap.size 3 1 v9 (Aq (ps.take (k+1))).length ((Aq (ps.take (k+1))).map (Value.int .i64)) from by rw[en.out,List.length_append]; simpa using O9);replace O9:=hid O9;replace B9:=hid B9;replace BW9:=hid BW9;replace D9:=hid D9;replace z0:=(World.cell?_of_block (a:=⟨b,off+k*2,none⟩) (G9.block b hb (fun e=>by have:=(O.out.lt _ e.symm).1; omega))).trans z0;replace z1:=(World.cell?_of_block (a:=⟨b,off+k*2+1,none⟩) (G9.block b hb (fun e=>by have:=(O.out.lt _ e.symm).1; omega))).trans z1;clear G9 O B BW hW hHeld;refine hK.out _ _ ⟨z0,z1⟩ (fun hHeld=>?_);clear hK K
    try simp only[Act.put,sx]
    refine tl 13 ?_ ?_ hHeld ?_;rotate_left
    . intro w hSw
      try dsimp only at hSw
      go_simp
      all_goals with_reducible rfl
    try simp only[Act.put,sx]
    refine wpAnyH_done (by kernel_rfl) ?_ _;clear z0 z1;go_wp2
    go_roundw
    case rel=>exact⟨k+1,by omega,by go_num,O9.out,D9.out,hW9,BW9.out,B9.out⟩
    case measure=>simp[RowKit.intOf]; omega
  . obtain rfl:k=ps.length:=by omega
    have hs0:ps.take ps.length=ps:=List.take_length;rw[hs0] at O;obtain⟨A3,ca3,hv3,I2⟩:=Ints.of_own O;cases hv3
    have hfl:(Aq ps).length<=120:=by rw[BI]; omega
    have hm12:m<=12:=by have:=hk.out; omega
    have ZW:=Z.out.step B;have R1:∀ x∈[l,p,s],0<=x/\x<1000000000000000:=by
     intro x hx;simp only[List.mem_cons,List.not_mem_nil,or_false] at hx;rcases hx with rfl | rfl | rfl<;>omega
    have R2:∀ x∈Aq ps,0<=x/\x<1000000000000000:=by intro x hx; have:=hfo.out x hx; omega
    have R3:∀ x∈hs,0<=x/\x<1000000000000000:=by intro x hx; have:=r1.out x hx; omega
    have R4:∀ x∈[t],0<=x/\x<1000000000000000:=by intro x hx; rw[List.mem_singleton.1 hx]; omega
    have C1:=fun(W:World) (g:Nat) (I:Ints W (some ⟨g,0,none⟩) 3 [l,p,s])=>Dg (some ⟨g,0,none⟩) 3 3 [l,p,s] W I (by omega) R1;have C2:=fun(W:World) (I:Ints W A2 (Aq ps).length (Aq ps))=>Dg A2 (Aq ps).length ca2 (Aq ps) W I (by omega) R2;have C3:=fun(W:World) (I:Ints W H m hs)=>Dg H m d hs W I (by omega) R3;have C4:=fun(W:World) (g:Nat) (I:Ints W (some ⟨g,0,none⟩) 1 [t])=>Dg (some ⟨g,0,none⟩) 1 1 [t] W I (by omega) R4;have hl1:=nums_len _ R1;have hl2:=nums_len _ R2;have hl3:=nums_len _ R3;have hl4:=nums_len _ R4;have hkm:=hk.out;simp only[List.length_cons,List.length_nil] at hl1 hl4
    obtain⟨n1,e1⟩:∃ n1,nums [l,p,s]=n1:=⟨_,rfl⟩;obtain⟨n2,e2⟩:∃ n2,nums (Aq ps)=n2:=⟨_,rfl⟩;obtain⟨n3,e3⟩:∃ n3,nums hs=n3:=⟨_,rfl⟩;obtain⟨n4,e4⟩:∃ n4,nums [t]=n4:=⟨_,rfl⟩;have et:({ data:=#[114,101,112,108,97,121] }:ByteArray)++str n1++({ data:=#[10,105,110,112,117,116,115] }:ByteArray)++str n2++({ data:=#[10,104,97,115,104,101,115] }:ByteArray)++str n3++({ data:=#[10,116,97,103] }:ByteArray)++str n4++({ data:=#[10] }:ByteArray)=str (E7 ⟨l,p,s,xs,hs,t⟩):=by
     have q:E7 ⟨l,p,s,xs,hs,t⟩=kR++n1++(10::kI)++n2++(10::kH)++n3++(10::kT)++n4++[10]:=by
      simp only[E7,LV,Nc,Nf,Ng];rw[hps.out,e1,e2,e3,e4];simp
     rw[q,<- Bo,<- Bo,<- Bo,<- Bo,<- Bo,<- Bo,<- Bo,<- Bo];rfl
    rw[e1] at C1 hl1;rw[e2] at C2 hl2;rw[e3] at C3 hl3;rw[e4] at C4 hl4;have no0:¬ 9223372036854775807<6+n1.length:=by omega
    have no1:¬ 9223372036854775807<6+n1.length+7:=by omega
    have no2:¬ 9223372036854775807<6+n1.length+7+n2.length:=by omega
    have no3:¬ 9223372036854775807<6+n1.length+7+n2.length+7:=by omega
    have no4:¬ 9223372036854775807<6+n1.length+7+n2.length+7+n3.length:=by omega
    have no5:¬ 9223372036854775807<6+n1.length+7+n2.length+7+n3.length+4:=by omega
    have no6:¬ 9223372036854775807<6+n1.length+7+n2.length+7+n3.length+4+n4.length:=by omega
    have no7:¬ 9223372036854775807<6+n1.length+7+n2.length+7+n3.length+4+n4.length+1:=by omega
    replace et:=hid et;replace C1:=hid C1;replace C2:=hid C2;replace C3:=hid C3;replace C4:=hid C4;replace B:=hid B;clear O BW hW hs0 e1 e2 e3 e4 hl1 hl2 hl3 hl4 hkm hfl r2 r3 r4 r6 r7 hx60 hlp ok hlt hk2 R1 R2 R3 R4;replace I2:=hid I2;replace ZW:=hid ZW;go_wp2_with fail;refine wp_region_held_drew (S:=fun w'=>CellsAt w' w.heap.size (AR l p s A n c H m d t)) (by kernel_rfl) D.drew (fun hHeld=>?_);replace D:=D.drew;replace I2:=hid I2.out.drew;replace ZW:=hid (ZW.out.step (Ac wr).drew);replace B:=hid (Az B.out);generalize wr.drew=w3 at *;refine tl 0 ?_ ?_ hHeld ?_;rotate_left
    . intro w hSw
      try dsimp only at hSw
      go_simp
      all_goals with_reducible rfl
    try simp only[Act.put,sx]
    refine tl 1 ?_ ?_ hHeld ?_;rotate_left
    . intro w hSw;have cj:=hSw.cell 0 _ rfl;go_simp
      all_goals with_reducible rfl
    try simp only[Act.put,sx]
    refine tl 2 ?_ ?_ hHeld ?_;rotate_left
    . intro w hSw
      try dsimp only at hSw
      go_simp
      all_goals with_reducible rfl
    try simp only[Act.put,sx]
    refine tl 3 ?_ ?_ hHeld ?_;rotate_left
    . intro w hSw;have cj:=hSw.cell 1 _ rfl;go_simp
      all_goals with_reducible rfl
    try simp only[Act.put,sx]
    refine tl 4 ?_ ?_ hHeld ?_;rotate_left
    . intro w hSw
      try dsimp only at hSw
      go_simp
      all_goals with_reducible rfl
    try simp only[Act.put,sx]
    refine tl 5 ?_ ?_ hHeld ?_;rotate_left
    . intro w hSw;have cj:=hSw.cell 2 _ rfl;go_simp
      all_goals with_reducible rfl
    try simp only[Act.put,sx]
    refine tl 10 ?_ ?_ hHeld ?_;rotate_left
    . intro w hSw
      try dsimp only at hSw
      go_simp
      all_goals with_reducible rfl
    try simp only[Act.put,sx]
    refine tl 14 ?_ ?_ hHeld ?_;rotate_left
    . intro w hSw
      try dsimp only at hSw
      go_simp
      all_goals with_reducible rfl
    try simp only[Act.put,sx]
    refine tl 15 ?_ ?_ hHeld ?_;rotate_left
    . intro w hSw;have cj:=hSw.cell 4 _ rfl;go_simp
      all_goals with_reducible rfl
    try simp only[Act.put,sx]
    refine tl 19 ?_ ?_ hHeld ?_;rotate_left
    . intro w hSw
      try dsimp only at hSw
      go_simp
      all_goals with_reducible rfl
    try simp only[Act.put,sx]
    refine tl 20 ?_ ?_ hHeld ?_;rotate_left
    . intro w hSw;have cj:=hSw.cell 5 _ rfl;go_simp
      all_goals with_reducible rfl
    try simp only[Act.put,sx]
    refine wpAnyH_ready (rs:=[6,21]) (by kernel_rfl) (by simp) ?_;refine(AllReadyH.cons (o:=_) rfl (fun K hK=>?_) (AllReadyH.cons (o:=_) rfl (fun K hK=>?_) AllReadyH.nil))
    . skip
      dsimp only[List.getElem_toArray,List.getElem_cons_succ,List.getElem_cons_zero];rw[if_pos (by rfl)];refine Gn (.tmp 30) (.tmp 32) (.tmp 34) rfl l p s rfl rfl rfl ?_;intro g1 wn BB hg1 L1;replace L1:=hid L1;replace D:=D.step BB;replace I2:=hid (I2.out.step BB);replace ZW:=hid (ZW.out.step BB);replace B:=hid (Aa B.out BB);clear BB;clear hHeld;refine hK.out _ _ D (fun hHeld=>?_);clear hK K
      try simp only[Act.put,sx]
      refine wpAnyH_ready (rs:=[7,21]) (by kernel_rfl) (by simp) ?_;refine(AllReadyH.cons (o:=_) rfl (fun K hK=>?_) (AllReadyH.cons (o:=_) rfl (fun K hK=>?_) AllReadyH.nil))
      . skip
        go_simp
        go_at_call 44
        refine(C1.out _ g1 L1.out).mono ?_;rintro e wn ⟨rfl,BB⟩;replace D:=D.step BB;replace I2:=hid (I2.out.step BB);replace ZW:=hid (ZW.out.step BB);replace L1:=hid (L1.out.step BB);replace B:=hid (Aa B.out BB);clear BB;clear hHeld;go_wp2_with fail;refine hK.out _ _ D (fun hHeld=>?_);clear hK K
        try simp only[Act.put,sx]
        refine tl 8 ?_ ?_ hHeld ?_;rotate_left
        . intro w hSw
          try dsimp only at hSw
          go_simp
          all_goals with_reducible rfl
        try simp only[Act.put,sx]
        refine tl 9 ?_ ?_ hHeld ?_;rotate_left
        . intro w hSw
          try dsimp only at hSw
          go_simp
          all_goals with_reducible rfl
        try simp only[Act.put,sx]
        refine wpAnyH_ready (rs:=[11,21]) (by kernel_rfl) (by simp) ?_;refine(AllReadyH.cons (o:=_) rfl (fun K hK=>?_) (AllReadyH.cons (o:=_) rfl (fun K hK=>?_) AllReadyH.nil))
        . skip
          go_simp
          go_at_call 44
          refine(C2.out _ I2.out).mono ?_;rintro e wn ⟨rfl,BB⟩;replace D:=D.step BB;replace I2:=hid (I2.out.step BB);replace ZW:=hid (ZW.out.step BB);replace L1:=hid (L1.out.step BB);replace B:=hid (Aa B.out BB);clear BB;clear hHeld;go_wp2_with fail;refine hK.out _ _ D (fun hHeld=>?_);clear hK K
          try simp only[Act.put,sx]
          refine tl 12 ?_ ?_ hHeld ?_;rotate_left
          . intro w hSw
            try dsimp only at hSw
            go_simp
            all_goals with_reducible rfl
          try simp only[Act.put,sx]
          refine tl 13 ?_ ?_ hHeld ?_;rotate_left
          . intro w hSw
            try dsimp only at hSw
            go_simp
            all_goals with_reducible rfl
          try simp only[Act.put,sx]
          refine wpAnyH_ready (rs:=[16,21]) (by kernel_rfl) (by simp) ?_;refine(AllReadyH.cons (o:=_) rfl (fun K hK=>?_) (AllReadyH.cons (o:=_) rfl (fun K hK=>?_) AllReadyH.nil))
          . skip
            go_simp
            go_at_call 44
            refine(C3.out _ ZW.out).mono ?_;rintro e wn ⟨rfl,BB⟩;replace D:=D.step BB;replace I2:=hid (I2.out.step BB);replace ZW:=hid (ZW.out.step BB);replace L1:=hid (L1.out.step BB);replace B:=hid (Aa B.out BB);clear BB;clear hHeld;go_wp2_with fail;refine hK.out _ _ D (fun hHeld=>?_);clear hK K
            try simp only[Act.put,sx]
            refine tl 17 ?_ ?_ hHeld ?_;rotate_left
            . intro w hSw
              try dsimp only at hSw
              go_simp
              all_goals with_reducible rfl
            try simp only[Act.put,sx]
            refine tl 18 ?_ ?_ hHeld ?_;rotate_left
            . intro w hSw
              try dsimp only at hSw
              go_simp
              all_goals with_reducible rfl
            try simp only[Act.put,sx]
            refine wpAnyH_ready (rs:=[21]) (by kernel_rfl) (by simp) ?_;apply AllReadyH.cons rfl ?_ AllReadyH.nil;intro K hK;dsimp only[List.getElem_toArray,List.getElem_cons_succ,List.getElem_cons_zero];rw[if_pos (by rfl)];refine Cu (.tmp 49) rfl t rfl ?_;intro gx wn BB hgx X1;replace X1:=hid X1;replace D:=D.step BB;replace I2:=hid (I2.out.step BB);replace ZW:=hid (ZW.out.step BB);replace L1:=hid (L1.out.step BB);replace B:=hid (Aa B.out BB);clear BB;clear hHeld;refine hK.out _ _ D (fun hHeld=>?_);clear hK K
            try simp only[Act.put,sx]
            refine wpAnyH_ready (rs:=[22]) (by kernel_rfl) (by simp) ?_;apply AllReadyH.cons rfl ?_ AllReadyH.nil;intro K hK;go_simp
            go_at_call 44
            refine(C4.out _ gx X1.out).mono ?_;rintro e wn ⟨rfl,BB⟩;replace D:=D.step BB;replace I2:=hid (I2.out.step BB);replace ZW:=hid (ZW.out.step BB);replace X1:=hid (X1.out.step BB);replace L1:=hid (L1.out.step BB);replace B:=hid (Aa B.out BB);clear BB;clear hHeld;go_wp2_with fail;refine hK.out _ _ D (fun hHeld=>?_);clear hK K
            try simp only[Act.put,sx]
            refine tl 23 ?_ ?_ hHeld ?_;rotate_left
            . intro w hSw
              try dsimp only at hSw
              go_simp
              all_goals with_reducible rfl
            try simp only[Act.put,sx]
            refine tl 24 ?_ ?_ hHeld ?_;rotate_left
            . intro w hSw
              try dsimp only at hSw
              go_simp
              all_goals with_reducible rfl
            try simp only[Act.put,sx]
            refine tl 25 ?_ ?_ hHeld ?_;rotate_left
            . intro w hSw
              try dsimp only at hSw
              go_simp
              all_goals with_reducible rfl
            try simp only[Act.put,sx]
            refine wpAnyH_done (by kernel_rfl) ?_ _;go_wp2;go_ret;exact⟨by rw[et.out]; rfl,B.out⟩
          . skip
            dsimp only[List.getElem_toArray,List.getElem_cons_succ,List.getElem_cons_zero];rw[if_pos (by rfl)];refine Cu (.tmp 49) rfl t rfl ?_;intro gx wn BB hgx X1;replace X1:=hid X1;replace D:=D.step BB;replace I2:=hid (I2.out.step BB);replace ZW:=hid (ZW.out.step BB);replace L1:=hid (L1.out.step BB);replace B:=hid (Aa B.out BB);clear BB;clear hHeld;refine hK.out _ _ D (fun hHeld=>?_);clear hK K
            try simp only[Act.put,sx]
            refine wpAnyH_ready (rs:=[16]) (by kernel_rfl) (by simp) ?_;apply AllReadyH.cons rfl ?_ AllReadyH.nil;intro K hK;go_simp
            go_at_call 44
            refine(C3.out _ ZW.out).mono ?_;rintro e wn ⟨rfl,BB⟩;replace D:=D.step BB;replace I2:=hid (I2.out.step BB);replace ZW:=hid (ZW.out.step BB);replace X1:=hid (X1.out.step BB);replace L1:=hid (L1.out.step BB);replace B:=hid (Aa B.out BB);clear BB;clear hHeld;go_wp2_with fail;refine hK.out _ _ D (fun hHeld=>?_);clear hK K
            try simp only[Act.put,sx]
            refine tl 17 ?_ ?_ hHeld ?_;rotate_left
            . intro w hSw
              try dsimp only at hSw
              go_simp
              all_goals with_reducible rfl
            try simp only[Act.put,sx]
            refine tl 18 ?_ ?_ hHeld ?_;rotate_left
            . intro w hSw
              try dsimp only at hSw
              go_simp
              all_goals with_reducible rfl
            try simp only[Act.put,sx]
            refine wpAnyH_ready (rs:=[22]) (by kernel_rfl) (by simp) ?_;apply AllReadyH.cons rfl ?_ AllReadyH.nil;intro K hK;go_simp
            go_at_call 44
            refine(C4.out _ gx X1.out).mono ?_;rintro e wn ⟨rfl,BB⟩;replace D:=D.step BB;replace I2:=hid (I2.out.step BB);replace ZW:=hid (ZW.out.step BB);replace X1:=hid (X1.out.step BB);replace L1:=hid (L1.out.step BB);replace B:=hid (Aa B.out BB);clear BB;clear hHeld;go_wp2_with fail;refine hK.out _ _ D (fun hHeld=>?_);clear hK K
            try simp only[Act.put,sx]
            refine tl 23 ?_ ?_ hHeld ?_;rotate_left
            . intro w hSw
              try dsimp only at hSw
              go_simp
              all_goals with_reducible rfl
            try simp only[Act.put,sx]
            refine tl 24 ?_ ?_ hHeld ?_;rotate_left
            . intro w hSw
              try dsimp only at hSw
              go_simp
              all_goals with_reducible rfl
            try simp only[Act.put,sx]
            refine tl 25 ?_ ?_ hHeld ?_;rotate_left
            . intro w hSw
              try dsimp only at hSw
              go_simp
              all_goals with_reducible rfl
            try simp only[Act.put,sx]
            refine wpAnyH_done (by kernel_rfl) ?_ _;go_wp2;go_ret;exact⟨by rw[et.out]; rfl,B.out⟩
        . skip
          dsimp only[List.getElem_toArray,List.getElem_cons_succ,List.getElem_cons_zero];rw[if_pos (by rfl)];refine Cu (.tmp 49) rfl t rfl ?_;intro gx wn BB hgx X1;replace X1:=hid X1;replace D:=D.step BB;replace I2:=hid (I2.out.step BB);replace ZW:=hid (ZW.out.step BB);replace L1:=hid (L1.out.step BB);replace B:=hid (Aa B.out BB);clear BB;clear hHeld;refine hK.out _ _ D (fun hHeld=>?_);clear hK K
          try simp only[Act.put,sx]
          refine wpAnyH_ready (rs:=[11]) (by kernel_rfl) (by simp) ?_;apply AllReadyH.cons rfl ?_ AllReadyH.nil;intro K hK;go_simp
          go_at_call 44
          refine(C2.out _ I2.out).mono ?_;rintro e wn ⟨rfl,BB⟩;replace D:=D.step BB;replace I2:=hid (I2.out.step BB);replace ZW:=hid (ZW.out.step BB);replace X1:=hid (X1.out.step BB);replace L1:=hid (L1.out.step BB);replace B:=hid (Aa B.out BB);clear BB;clear hHeld;go_wp2_with fail;refine hK.out _ _ D (fun hHeld=>?_);clear hK K
          try simp only[Act.put,sx]
          refine tl 12 ?_ ?_ hHeld ?_;rotate_left
          . intro w hSw
            try dsimp only at hSw
            go_simp
            all_goals with_reducible rfl
          try simp only[Act.put,sx]
          refine tl 13 ?_ ?_ hHeld ?_;rotate_left
          . intro w hSw
            try dsimp only at hSw
            go_simp
            all_goals with_reducible rfl
          try simp only[Act.put,sx]
          refine wpAnyH_ready (rs:=[16]) (by kernel_rfl) (by simp) ?_;apply AllReadyH.cons rfl ?_ AllReadyH.nil;intro K hK;go_simp
          go_at_call 44
          refine(C3.out _ ZW.out).mono ?_;rintro e wn ⟨rfl,BB⟩;replace D:=D.step BB;replace I2:=hid (I2.out.step BB);replace ZW:=hid (ZW.out.step BB);replace X1:=hid (X1.out.step BB);replace L1:=hid (L1.out.step BB);replace B:=hid (Aa B.out BB);clear BB;clear hHeld;go_wp2_with fail;refine hK.out _ _ D (fun hHeld=>?_);clear hK K
          try simp only[Act.put,sx]
          refine tl 17 ?_ ?_ hHeld ?_;rotate_left
          . intro w hSw
            try dsimp only at hSw
            go_simp
            all_goals with_reducible rfl
          try simp only[Act.put,sx]
          refine tl 18 ?_ ?_ hHeld ?_;rotate_left
          . intro w hSw
            try dsimp only at hSw
            go_simp
            all_goals with_reducible rfl
          try simp only[Act.put,sx]
          refine wpAnyH_ready (rs:=[22]) (by kernel_rfl) (by simp) ?_;apply AllReadyH.cons rfl ?_ AllReadyH.nil;intro K hK;go_simp
          go_at_call 44
          refine(C4.out _ gx X1.out).mono ?_;rintro e wn ⟨rfl,BB⟩;replace D:=D.step BB;replace I2:=hid (I2.out.step BB);replace ZW:=hid (ZW.out.step BB);replace X1:=hid (X1.out.step BB);replace L1:=hid (L1.out.step BB);replace B:=hid (Aa B.out BB);clear BB;clear hHeld;go_wp2_with fail;refine hK.out _ _ D (fun hHeld=>?_);clear hK K
          try simp only[Act.put,sx]
          refine tl 23 ?_ ?_ hHeld ?_;rotate_left
          . intro w hSw
            try dsimp only at hSw
            go_simp
            all_goals with_reducible rfl
          try simp only[Act.put,sx]
          refine tl 24 ?_ ?_ hHeld ?_;rotate_left
          . intro w hSw
            try dsimp only at hSw
            go_simp
            all_goals with_reducible rfl
          try simp only[Act.put,sx]
          refine tl 25 ?_ ?_ hHeld ?_;rotate_left
          . intro w hSw
            try dsimp only at hSw
            go_simp
            all_goals with_reducible rfl
          try simp only[Act.put,sx]
          refine wpAnyH_done (by kernel_rfl) ?_ _;go_wp2;go_ret;exact⟨by rw[et.out]; rfl,B.out⟩
      . skip
        dsimp only[List.getElem_toArray,List.getElem_cons_succ,List.getElem_cons_zero];rw[if_pos (by rfl)];refine Cu (.tmp 49) rfl t rfl ?_;intro gx wn BB hgx X1;replace X1:=hid X1;replace D:=D.step BB;replace I2:=hid (I2.out.step BB);replace ZW:=hid (ZW.out.step BB);replace L1:=hid (L1.out.step BB);replace B:=hid (Aa B.out BB);clear BB;clear hHeld;refine hK.out _ _ D (fun hHeld=>?_);clear hK K
        try simp only[Act.put,sx]
        refine wpAnyH_ready (rs:=[7]) (by kernel_rfl) (by simp) ?_;apply AllReadyH.cons rfl ?_ AllReadyH.nil;intro K hK;go_simp
        go_at_call 44
        refine(C1.out _ g1 L1.out).mono ?_;rintro e wn ⟨rfl,BB⟩;replace D:=D.step BB;replace I2:=hid (I2.out.step BB);replace ZW:=hid (ZW.out.step BB);replace X1:=hid (X1.out.step BB);replace L1:=hid (L1.out.step BB);replace B:=hid (Aa B.out BB);clear BB;clear hHeld;go_wp2_with fail;refine hK.out _ _ D (fun hHeld=>?_);clear hK K
        try simp only[Act.put,sx]
        refine tl 8 ?_ ?_ hHeld ?_;rotate_left
        . intro w hSw
          try dsimp only at hSw
          go_simp
          all_goals with_reducible rfl
        try simp only[Act.put,sx]
        refine tl 9 ?_ ?_ hHeld ?_;rotate_left
        . intro w hSw
          try dsimp only at hSw
          go_simp
          all_goals with_reducible rfl
        try simp only[Act.put,sx]
        refine wpAnyH_ready (rs:=[11]) (by kernel_rfl) (by simp) ?_;apply AllReadyH.cons rfl ?_ AllReadyH.nil;intro K hK;go_simp
        go_at_call 44
        refine(C2.out _ I2.out).mono ?_;rintro e wn ⟨rfl,BB⟩;replace D:=D.step BB;replace I2:=hid (I2.out.step BB);replace ZW:=hid (ZW.out.step BB);replace X1:=hid (X1.out.step BB);replace L1:=hid (L1.out.step BB);replace B:=hid (Aa B.out BB);clear BB;clear hHeld;go_wp2_with fail;refine hK.out _ _ D (fun hHeld=>?_);clear hK K
        try simp only[Act.put,sx]
        refine tl 12 ?_ ?_ hHeld ?_;rotate_left
        . intro w hSw
          try dsimp only at hSw
          go_simp
          all_goals with_reducible rfl
        try simp only[Act.put,sx]
        refine tl 13 ?_ ?_ hHeld ?_;rotate_left
        . intro w hSw
          try dsimp only at hSw
          go_simp
          all_goals with_reducible rfl
        try simp only[Act.put,sx]
        refine wpAnyH_ready (rs:=[16]) (by kernel_rfl) (by simp) ?_;apply AllReadyH.cons rfl ?_ AllReadyH.nil;intro K hK;go_simp
        go_at_call 44
        refine(C3.out _ ZW.out).mono ?_;rintro e wn ⟨rfl,BB⟩;replace D:=D.step BB;replace I2:=hid (I2.out.step BB);replace ZW:=hid (ZW.out.step BB);replace X1:=hid (X1.out.step BB);replace L1:=hid (L1.out.step BB);replace B:=hid (Aa B.out BB);clear BB;clear hHeld;go_wp2_with fail;refine hK.out _ _ D (fun hHeld=>?_);clear hK K
        try simp only[Act.put,sx]
        refine tl 17 ?_ ?_ hHeld ?_;rotate_left
        . intro w hSw
          try dsimp only at hSw
          go_simp
          all_goals with_reducible rfl
        try simp only[Act.put,sx]
        refine tl 18 ?_ ?_ hHeld ?_;rotate_left
        . intro w hSw
          try dsimp only at hSw
          go_simp
          all_goals with_reducible rfl
        try simp only[Act.put,sx]
        refine wpAnyH_ready (rs:=[22]) (by kernel_rfl) (by simp) ?_;apply AllReadyH.cons rfl ?_ AllReadyH.nil;intro K hK;go_simp
        go_at_call 44
        refine(C4.out _ gx X1.out).mono ?_;rintro e wn ⟨rfl,BB⟩;replace D:=D.step BB;replace I2:=hid (I2.out.step BB);replace ZW:=hid (ZW.out.step BB);replace X1:=hid (X1.out.step BB);replace L1:=hid (L1.out.step BB);replace B:=hid (Aa B.out BB);clear BB;clear hHeld;go_wp2_with fail;refine hK.out _ _ D (fun hHeld=>?_);clear hK K
        try simp only[Act.put,sx]
        refine tl 23 ?_ ?_ hHeld ?_;rotate_left
        . intro w hSw
          try dsimp only at hSw
          go_simp
          all_goals with_reducible rfl
        try simp only[Act.put,sx]
        refine tl 24 ?_ ?_ hHeld ?_;rotate_left
        . intro w hSw
          try dsimp only at hSw
          go_simp
          all_goals with_reducible rfl
        try simp only[Act.put,sx]
        refine tl 25 ?_ ?_ hHeld ?_;rotate_left
        . intro w hSw
          try dsimp only at hSw
          go_simp
          all_goals with_reducible rfl
        try simp only[Act.put,sx]
        refine wpAnyH_done (by kernel_rfl) ?_ _;go_wp2;go_ret;exact⟨by rw[et.out]; rfl,B.out⟩
    . skip
      dsimp only[List.getElem_toArray,List.getElem_cons_succ,List.getElem_cons_zero];rw[if_pos (by rfl)];refine Cu (.tmp 49) rfl t rfl ?_;intro gx wn BB hgx X1;replace X1:=hid X1;replace D:=D.step BB;replace I2:=hid (I2.out.step BB);replace ZW:=hid (ZW.out.step BB);replace B:=hid (Aa B.out BB);clear BB;clear hHeld;refine hK.out _ _ D (fun hHeld=>?_);clear hK K
      try simp only[Act.put,sx]
      refine wpAnyH_ready (rs:=[6]) (by kernel_rfl) (by simp) ?_;apply AllReadyH.cons rfl ?_ AllReadyH.nil;intro K hK;dsimp only[List.getElem_toArray,List.getElem_cons_succ,List.getElem_cons_zero];rw[if_pos (by rfl)];refine Gn (.tmp 30) (.tmp 32) (.tmp 34) rfl l p s rfl rfl rfl ?_;intro g1 wn BB hg1 L1;replace L1:=hid L1;replace D:=D.step BB;replace I2:=hid (I2.out.step BB);replace ZW:=hid (ZW.out.step BB);replace X1:=hid (X1.out.step BB);replace B:=hid (Aa B.out BB);clear BB;clear hHeld;refine hK.out _ _ D (fun hHeld=>?_);clear hK K
      try simp only[Act.put,sx]
      refine wpAnyH_ready (rs:=[7]) (by kernel_rfl) (by simp) ?_;apply AllReadyH.cons rfl ?_ AllReadyH.nil;intro K hK;go_simp
      go_at_call 44
      refine(C1.out _ g1 L1.out).mono ?_;rintro e wn ⟨rfl,BB⟩;replace D:=D.step BB;replace I2:=hid (I2.out.step BB);replace ZW:=hid (ZW.out.step BB);replace X1:=hid (X1.out.step BB);replace L1:=hid (L1.out.step BB);replace B:=hid (Aa B.out BB);clear BB;clear hHeld;go_wp2_with fail;refine hK.out _ _ D (fun hHeld=>?_);clear hK K
      try simp only[Act.put,sx]
      refine tl 8 ?_ ?_ hHeld ?_;rotate_left
      . intro w hSw
        try dsimp only at hSw
        go_simp
        all_goals with_reducible rfl
      try simp only[Act.put,sx]
      refine tl 9 ?_ ?_ hHeld ?_;rotate_left
      . intro w hSw
        try dsimp only at hSw
        go_simp
        all_goals with_reducible rfl
      try simp only[Act.put,sx]
      refine wpAnyH_ready (rs:=[11]) (by kernel_rfl) (by simp) ?_;apply AllReadyH.cons rfl ?_ AllReadyH.nil;intro K hK;go_simp
      go_at_call 44
      refine(C2.out _ I2.out).mono ?_;rintro e wn ⟨rfl,BB⟩;replace D:=D.step BB;replace I2:=hid (I2.out.step BB);replace ZW:=hid (ZW.out.step BB);replace X1:=hid (X1.out.step BB);replace L1:=hid (L1.out.step BB);replace B:=hid (Aa B.out BB);clear BB;clear hHeld;go_wp2_with fail;refine hK.out _ _ D (fun hHeld=>?_);clear hK K
      try simp only[Act.put,sx]
      refine tl 12 ?_ ?_ hHeld ?_;rotate_left
      . intro w hSw
        try dsimp only at hSw
        go_simp
        all_goals with_reducible rfl
      try simp only[Act.put,sx]
      refine tl 13 ?_ ?_ hHeld ?_;rotate_left
      . intro w hSw
        try dsimp only at hSw
        go_simp
        all_goals with_reducible rfl
      try simp only[Act.put,sx]
      refine wpAnyH_ready (rs:=[16]) (by kernel_rfl) (by simp) ?_;apply AllReadyH.cons rfl ?_ AllReadyH.nil;intro K hK;go_simp
      go_at_call 44
      refine(C3.out _ ZW.out).mono ?_;rintro e wn ⟨rfl,BB⟩;replace D:=D.step BB;replace I2:=hid (I2.out.step BB);replace ZW:=hid (ZW.out.step BB);replace X1:=hid (X1.out.step BB);replace L1:=hid (L1.out.step BB);replace B:=hid (Aa B.out BB);clear BB;clear hHeld;go_wp2_with fail;refine hK.out _ _ D (fun hHeld=>?_);clear hK K
      try simp only[Act.put,sx]
      refine tl 17 ?_ ?_ hHeld ?_;rotate_left
      . intro w hSw
        try dsimp only at hSw
        go_simp
        all_goals with_reducible rfl
      try simp only[Act.put,sx]
      refine tl 18 ?_ ?_ hHeld ?_;rotate_left
      . intro w hSw
        try dsimp only at hSw
        go_simp
        all_goals with_reducible rfl
      try simp only[Act.put,sx]
      refine wpAnyH_ready (rs:=[22]) (by kernel_rfl) (by simp) ?_;apply AllReadyH.cons rfl ?_ AllReadyH.nil;intro K hK;go_simp
      go_at_call 44
      refine(C4.out _ gx X1.out).mono ?_;rintro e wn ⟨rfl,BB⟩;replace D:=D.step BB;replace I2:=hid (I2.out.step BB);replace ZW:=hid (ZW.out.step BB);replace X1:=hid (X1.out.step BB);replace L1:=hid (L1.out.step BB);replace B:=hid (Aa B.out BB);clear BB;clear hHeld;go_wp2_with fail;refine hK.out _ _ D (fun hHeld=>?_);clear hK K
      try simp only[Act.put,sx]
      refine tl 23 ?_ ?_ hHeld ?_;rotate_left
      . intro w hSw
        try dsimp only at hSw
        go_simp
        all_goals with_reducible rfl
      try simp only[Act.put,sx]
      refine tl 24 ?_ ?_ hHeld ?_;rotate_left
      . intro w hSw
        try dsimp only at hSw
        go_simp
        all_goals with_reducible rfl
      try simp only[Act.put,sx]
      refine tl 25 ?_ ?_ hHeld ?_;rotate_left
      . intro w hSw
        try dsimp only at hSw
        go_simp
        all_goals with_reducible rfl
      try simp only[Act.put,sx]
      refine wpAnyH_done (by kernel_rfl) ?_ _;go_wp2;go_ret;exact⟨by rw[et.out]; rfl,B.out⟩
def M.rtext(r:Rep):Tx:=if Bq r then E7 r else []
theorem Km(l p s:Int)(A:Option Addr)(n c:Nat)(H:Option Addr)(m d:Nat)(t:Int)(xs:List In)(hs:List Int)(w:World)(Y:Inputs w A n xs)(Z:Ints w H m hs)(hn:n<=281474976710656)(hm:m<=281474976710656) :
 Calls Tryz.prog 9 #[CH l p s A n c H m d t] w fun e w'=>e=.returned (.string (str (rtext ⟨l,p,s,xs,hs,t⟩)))/\Below w.heap.size w w':=by
 replace Y:=hid Y;replace Z:=hid Z;have D:CellsAt (w.alloc (.cells #[.int .i64 l,.int .i64 p,.int .i64 s,.slice A n c,.slice H m d,.int .i64 t] 26)) w.heap.size (AR l p s A n c H m d t):=CellsAt.new w _ _ _ rfl;have B:=Ab (Ac w) (.cells #[.int .i64 l,.int .i64 p,.int .i64 s,.slice A n c,.slice H m d,.int .i64 t] 26);have c0:=D.cell 0 _ rfl;have c1:=D.cell 1 _ rfl;have c2:=D.cell 2 _ rfl;have c3:=D.cell 3 _ rfl;have c4:=D.cell 4 _ rfl;have c5:=D.cell 5 _ rfl;replace D:=hid D;replace B:=hid B;go_enter Tryz.func9,Tryz.ntmps9;go_wp2_with fail;refine(Ic l p s A n c H m d t xs hs _ (Y.out.step B.out) (Z.out.step B.out) hn hm).mono ?_
 rintro e w1 ⟨rfl,B1⟩;replace D:=D.out.step B1;replace B:=hid (Aa B.out B1);clear B1 c0 c1 c2 c3 c4 c5;have c0:=D.cell 0 _ rfl;have c1:=D.cell 1 _ rfl;have c2:=D.cell 2 _ rfl;have c3:=D.cell 3 _ rfl;have c4:=D.cell 4 _ rfl;have c5:=D.cell 5 _ rfl;replace D:=hid D;cases ok:Bq ⟨l,p,s,xs,hs,t⟩
 . replace ok:=hid ok;go_wp2;go_ret;exact⟨by rw[rtext,ok.out]; rfl,B.out⟩
 . replace ok:=hid ok;go_wp2_with fail;refine(Kl l p s A n c H m d t xs hs _ (Y.out.step B.out) (Z.out.step B.out) ok.out).mono ?_;rintro e w2 ⟨rfl,B2⟩;replace B:=hid (Aa B.out B2);clear B2;go_wp2;go_ret;exact⟨by rw[rtext,ok.out]; rfl,B.out⟩
end Go.Proofs.YtgbiagonfbnooaaGreatDoor
