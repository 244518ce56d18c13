import Derived.Test.YtgbiagonfbnooaaGreatDoorZTxC
import Derived.Test.YtgbiagonfbnooaaGreatDoorZTxH
import Derived.Test.YtgbiagonfbnooaaGreatDoorZRepR
set_option linter.all false
set_option maxRecDepth 100000
set_option maxHeartbeats 8000000
open Go.Lib
namespace Go.Proofs.YtgbiagonfbnooaaGreatDoor
open Go.RowKit
open M
theorem M.lnsP_le{ws:List Tx}{N:Nat}(hN:∀ w∈ws,w.length<=N):∀{k:Nat} {ls:List (List Int)},lnsP ws k=some ls->∀ l∈ls,l.length<=N
 | 0,ls,h,l,hl=>by cases h; cases hl
 | k+1,ls,h,l,hl=>by
  rw[lnsP] at h;split at h
  . next ls' e =>
    obtain⟨x,hx,rfl⟩:=Option.map_eq_some_iff.1 h;rcases List.mem_append.1 hl with hl | hl
    . exact lnsP_le hN e l hl
    . rw[List.mem_singleton] at hl;subst hl;refine Nat.le_trans (KN hx) ?_;rw[List.getD_eq_getElem?_getD];rcases Nat.lt_or_ge k ws.length with q | q
      . rw[List.getElem?_eq_getElem q]; exact hN _ (List.getElem_mem q)
      . rw[List.getElem?_eq_none q]; exact Nat.zero_le _
  . cases h
theorem M.linesP_le{s:Tx}{ls:List (List Int)}(h:linesP s=some ls):ls.length=4/\∀ l∈ls,l.length<=s.length:=by
 unfold linesP at h;split at h
 . exact⟨lnsP_len h,lnsP_le (fun w hw=>pcs_le w hw) h⟩
 . cases h
theorem FX{lo:Nat}{W:World}{base g c:Nat}{vs:List Value}{ls:List (List Int)}{o:Option Nat}{n:Nat}(O:W.ownsRow base 24 1 (.slice (some ⟨g,0,none⟩) n c) n vs)(R:RowsAt lo W o vs ls)(k:Nat)(hk:k<ls.length)(hn:ls.length=n) :
 ∃ A ca,W.cell? ⟨g,k,none⟩=some (.slice A (ls.getD k []).length ca)/\Ints W A (ls.getD k []).length (ls.getD k [])/\(ls.getD k []).length<=ca/\∀ q off,A=some ⟨q,off,none⟩->lo<=q:=by
 obtain⟨A,ca,e,I,⟨h1,h2⟩,_⟩:=R.2 k hk;refine⟨A,ca,?_,I,h1,h2⟩;have hv:=R.1;have t:=O.cellAt k (by omega);rw[t];exact e
theorem KX(s:ByteArray)(w:World)(T:TabsD w)(hs:s.size<=2097152):Calls Tryz.prog 10 #[.string s] w (FP w (Nh (tx s))):=by
 have D:CellsAt (w.alloc (.cells #[.int .i64 0,.int .i64 0,.int .i64 0,.slice none 0 0,.slice none 0 0,.int .i64 0] 26)) w.heap.size Bp:=CellsAt.new w _ _ _ rfl;have B:=Ab (Ac w) (.cells #[.int .i64 0,.int .i64 0,.int .i64 0,.slice none 0 0,.slice none 0 0,.int .i64 0] 26);have e0:=dcd_lines (tx s);have hle:=fun ls h=>linesP_le (s:=tx s) (ls:=ls) h;rw[BV] at hle;have C:=GG s _ (T.alloc (.cells #[.int .i64 0,.int .i64 0,.int .i64 0,.slice none 0 0,.slice none 0 0,.int .i64 0] 26)) hs;clear T;generalize Nh (tx s)=R at *;generalize linesP (tx s)=o at *;replace C:=hid C;replace D:=hid D;replace B:=hid B;replace e0:=hid e0
 replace hle:=hid hle;go_enter Tryz.func10,Tryz.ntmps10;go_wp2_with fail;refine C.out.mono ?_;rintro e w1 ⟨v,rfl,hv,BB⟩;have hlow:=hid (show w.heap.size<(w.alloc (.cells #[.int .i64 0,.int .i64 0,.int .i64 0,.slice none 0 0,.slice none 0 0,.int .i64 0] 26)).heap.size by simp);replace D:=hid (D.out.step BB);replace B:=hid (Aa B.out BB);clear C BB;cases o with
 | none =>
  have E:=hid (show R=none from e0.out);clear hv hle e0;go_upto_region 3 with fail;refine wp_region_lit ?_
  iterate 3 go_step
  refine Av rfl 26 (.tmp 2) (.tmp 31) rfl w.heap.size rfl Bp rfl Bp D.out (by simp) Ae rfl ?_;go_wp2;exact bodyPost_ret (v:=.tuple #[CH 0 0 0 none 0 0 none 0 0 0,.bool false]) (Ay rfl w.heap.size rfl Bp (D.out.all Bp (by simp)) (.bool false) rfl Tryz.underlying26 rfl Ae) rfl (BG E.out (Bj B.out (Nat.le_refl _) _ _))
 | some ls =>
  obtain⟨hl4,hlb⟩:=hle.out ls rfl;obtain⟨base,vs,O,RR⟩:=hv ls rfl;have e1:R=repP ls:=e0.out;clear hle e0 hv;obtain⟨h,l,hh,t,rfl⟩:∃ h l hh t,ls=[h,l,hh,t]:=by
   match ls,hl4 with
   | [h,l,hh,t],_=>exact⟨h,l,hh,t,rfl⟩
  have b0:h.length<=s.size:=hlb h (by simp);have b1:l.length<=s.size:=hlb l (by simp);have b2:hh.length<=s.size:=hlb hh (by simp);have O4:w1.ownsRow base 24 1 v 4 vs:=O;obtain⟨g,cg,hv4⟩:∃ g cg,v=.slice (some ⟨g,0,none⟩) 4 cg:=by
   rcases O4.2 with⟨_,h0⟩ | ⟨g,cap,cur,h0,_⟩
   . omega
   . exact⟨g,cap,h0⟩
  subst hv4;obtain⟨A0,c0,q0,I0,k0,m0⟩:=FX O4 RR 0 (by simp) rfl;obtain⟨A1,c1,q1,I1,k1,m1⟩:=FX O4 RR 1 (by simp) rfl;obtain⟨A2,c2,q2,I2,k2,m2⟩:=FX O4 RR 2 (by simp) rfl;obtain⟨A3,c3,q3,I3,k3,m3⟩:=FX O4 RR 3 (by simp) rfl;simp only[List.getD_cons_zero,List.getD_cons_succ] at q0 q1 q2 q3 I0 I1 I2 I3 k0 k1 k2 k3;have hg:=(O4.lt g rfl).2;clear O O4 RR hlb hl4;replace m2:=hid m2;replace I0:=hid I0;replace I1:=hid I1;replace I2:=hid I2;replace I3:=hid I3;by_cases p3:h.length=3
  rotate_left
  . have E:=hid (show R=none by rw[e1,repP,if_neg (by simp[p3])]);have u1:((h.length:Int) != 3)=true:=by rw[bne_iff_ne]; omega
    clear e1 I0 I1 I2 I3 q1 q2 k0 k1 k2 k3 m0 m1 m2 m3;go_upto_region 3 with fail;refine wp_region_lit ?_
    iterate 3 go_step
    refine Av rfl 26 (.tmp 2) (.tmp 31) rfl w.heap.size rfl Bp rfl Bp D.out (by simp) Ae rfl ?_;go_wp2;exact bodyPost_ret (v:=.tuple #[CH 0 0 0 none 0 0 none 0 0 0,.bool false]) (Ay rfl w.heap.size rfl Bp (D.out.all Bp (by simp)) (.bool false) rfl Tryz.underlying26 rfl Ae) rfl (BG E.out (Bj B.out (Nat.le_refl _) _ _))
  have u1:((h.length:Int) != 3)=false:=by rw[p3]; rfl
  by_cases p1:t.length=1
  rotate_left
  . have E:=hid (show R=none by rw[e1,repP,if_neg (by simp[p1])]);have u2:((t.length:Int) != 1)=true:=by rw[bne_iff_ne]; omega
    clear e1 I0 I1 I2 I3 q1 q2 k0 k1 k2 k3 m0 m1 m2 m3;go_upto_region 3 with fail;refine wp_region_lit ?_
    iterate 3 go_step
    refine Av rfl 26 (.tmp 2) (.tmp 31) rfl w.heap.size rfl Bp rfl Bp D.out (by simp) Ae rfl ?_;go_wp2;exact bodyPost_ret (v:=.tuple #[CH 0 0 0 none 0 0 none 0 0 0,.bool false]) (Ay rfl w.heap.size rfl Bp (D.out.all Bp (by simp)) (.bool false) rfl Tryz.underlying26 rfl Ae) rfl (BG E.out (Bj B.out (Nat.le_refl _) _ _))
  have u2:((t.length:Int) != 1)=false:=by rw[p1]; rfl
  have e2:R=(pairsP l).bind fun ps=>(AH ps).bind fun xs=>if Bq ⟨h.getD 0 0,h.getD 1 0,h.getD 2 0,xs,hh,t.getD 0 0⟩ then some ⟨h.getD 0 0,h.getD 1 0,h.getD 2 0,xs,hh,t.getD 0 0⟩ else none:=by
   rw[e1,repP,if_pos (by simp[p3,p1])];unfold pairsP;by_cases hm:l.length % 2=0
   . rw[if_pos (by simp[hm]),if_pos hm];simp only[Option.bind_some];cases AH (C6 l)<;>rfl
   . rw[if_neg (by simp[hm]),if_neg hm];rfl
  clear e1;have hpl:∀ ps,pairsP l=some ps->ps.length<=4000000:=fun ps e=>by
   unfold pairsP at e;split at e
   . cases e
     have:=congrArg List.length (DF (l.length / 2) l (by omega));simp at this;omega
   . cases e
  have C1:=GJ A1 l.length c1 l;generalize pairsP l=op at *;replace e2:=hid e2;replace hpl:=hid hpl;go_wp2_with fail;refine(C1 _ I1.out k1 (by omega)).mono ?_;rintro e w2 ⟨v2,rfl,hp,B2⟩;replace D:=hid (D.out.step B2);replace B:=hid (Aa B.out B2);replace q0:=(B2.cell (p:=⟨g,0,none⟩) hg).trans q0;replace q2:=(B2.cell (p:=⟨g,2,none⟩) hg).trans q2;replace q3:=(B2.cell (p:=⟨g,3,none⟩) hg).trans q3;replace hg:=Nat.lt_of_lt_of_le hg B2.size;replace I0:=hid (I0.out.step B2);replace I2:=hid (I2.out.step B2);replace I3:=hid (I3.out.step B2);clear C1 B2 q1 I1 k1 m1;cases op with
  | none =>
   have E:=hid (show R=none from e2.out);clear e2 hp hpl I0 I2 I3 q0 q2 q3;go_upto_region 6 with fail;refine wp_region_lit ?_
   iterate 3 go_step
   refine Av rfl 26 (.tmp 2) (.tmp 41) rfl w.heap.size rfl Bp rfl Bp D.out (by simp) Ae rfl ?_;go_wp2;exact bodyPost_ret (v:=.tuple #[CH 0 0 0 none 0 0 none 0 0 0,.bool false]) (Ay rfl w.heap.size rfl Bp (D.out.all Bp (by simp)) (.bool false) rfl Tryz.underlying26 rfl Ae) rfl (BG E.out (Bj B.out (Nat.le_refl _) _ _))
  | some ps =>
   obtain⟨A5,c5,rfl,I5⟩:=hp ps rfl;have hps:=hpl.out ps rfl;have e3:R=(AH ps).bind fun xs=>if Bq ⟨h.getD 0 0,h.getD 1 0,h.getD 2 0,xs,hh,t.getD 0 0⟩ then some ⟨h.getD 0 0,h.getD 1 0,h.getD 2 0,xs,hh,t.getD 0 0⟩ else none:=e2.out;have C2:=Gz A5 ps.length c5 ps;have hxb:∀ xs,AH ps=some xs->xs.length<=60:=fun xs e=>(AO.1 (Dj e).1).2;generalize AH ps=oi at *;replace hxb:=hid hxb;clear hp hpl e2;replace e3:=hid e3;replace I5:=hid I5;go_wp2_with fail;refine(C2 _ I5.out (by omega)).mono ?_;rintro e w3 ⟨v3,rfl,O3,B3⟩;have hw2:=D.out.lt;replace D:=hid (D.out.step B3);replace B:=hid (Aa B.out B3)
   replace q0:=(B3.cell (p:=⟨g,0,none⟩) hg).trans q0;replace q2:=(B3.cell (p:=⟨g,2,none⟩) hg).trans q2;replace q3:=(B3.cell (p:=⟨g,3,none⟩) hg).trans q3;replace hg:=Nat.lt_of_lt_of_le hg B3.size;replace I0:=hid (I0.out.step B3);replace I2:=hid (I2.out.step B3);replace I3:=hid (I3.out.step B3);clear C2 B3 I5;cases oi with
   | none =>
    have E:=hid (show R=none from e3.out);clear e3 O3 I0 I2 I3 q0 q2 q3;go_upto_region 9 with fail;refine wp_region_lit ?_
    iterate 3 go_step
    refine Av rfl 26 (.tmp 2) (.tmp 49) rfl w.heap.size rfl Bp rfl Bp D.out (by simp) Ae rfl ?_;go_wp2;exact bodyPost_ret (v:=.tuple #[CH 0 0 0 none 0 0 none 0 0 0,.bool false]) (Ay rfl w.heap.size rfl Bp (D.out.all Bp (by simp)) (.bool false) rfl Tryz.underlying26 rfl Ae) rfl (BG E.out (Bj B.out (Nat.le_refl _) _ _))
   | some xs =>
    obtain⟨A6,c6,e6,I6,M6⟩:=Inputs.of_own (show w3.ownsRow w2.heap.size 89 3 v3 xs.length (AZ xs) from O3);subst e6;clear O3;replace M6:=hid (show ∀ k off,A6=some ⟨k,off,none⟩->w.heap.size<k from fun k off e=>Nat.lt_of_lt_of_le hw2 (M6 k off e));replace m2:=hid (show ∀ k off,A2=some ⟨k,off,none⟩->w.heap.size<k from fun k off e=>Nat.lt_of_lt_of_le hlow.out (m2.out k off e));obtain⟨b,o0,rfl,hb,hcc⟩:=I0.out.2 (by omega);have z0:=hcc 0 (by omega);have z1:=hcc 1 (by omega);have z2:=hcc 2 (by omega);obtain⟨b3,o3,rfl,hb3,hcc3⟩:=I3.out.2 (by omega);have z3:=hcc3 0 (by omega);rw[Nat.add_zero] at z0 z3;clear hcc hcc3 I0 I3;replace I6:=hid I6
    have hxl:=I6.out.1;have hhl:=I2.out.1;have hx60:=hxb.out xs rfl;clear hxb;generalize h.getD 0 0=r0 at *;generalize h.getD 1 0=r1 at *;generalize h.getD 2 0=r2 at *;generalize t.getD 0 0=r3 at *;have e4:R=if Bq ⟨r0,r1,r2,xs,hh,r3⟩ then some ⟨r0,r1,r2,xs,hh,r3⟩ else none:=e3.out;clear e3;have j3:(0:Int)<(h.length:Int):=by omega
    rw[p3] at q0;rw[p1] at q3;generalize hhn:hh.length=nh at *;generalize hxn:xs.length=nx at *;have V:=EL r0 r1 r2 A6 nx c6 A2 nh c2 r3 xs hh;generalize Bq ⟨r0,r1,r2,xs,hh,r3⟩=ok at *;replace e4:=hid e4;replace hhn:=hid hhn;replace hxn:=hid hxn;clear u1 u2 hxl hhl;go_upto_region 11 with fail
    refine wp_region_held_drew (S:=fun w'=>(w'.cell? ⟨b,o0,none⟩=some (.int .i64 r0)/\w'.cell? ⟨b,o0+1,none⟩=some (.int .i64 r1)/\w'.cell? ⟨b,o0+2,none⟩=some (.int .i64 r2))/\(w'.cell? ⟨g,2,none⟩=some (.slice A2 nh c2)/\w'.cell? ⟨g,3,none⟩=some (.slice (some ⟨b3,o3,none⟩) 1 c3))/\w'.cell? ⟨b3,o3,none⟩=some (.int .i64 r3)) (by kernel_rfl) ⟨⟨z0,z1,z2⟩,⟨q2,q3⟩,z3⟩ (fun hHeld=>?_);refine tl 0 ?_ ?_ hHeld ?_;rotate_left
    . intro w hSw
      try dsimp only at hSw
      go_simp
      all_goals with_reducible rfl
    try simp only[Act.put,sx]
    refine tl 1 ?_ ?_ hHeld ?_;rotate_left
    . intro w hSw
      try dsimp only at hSw
      go_simp
      all_goals with_reducible rfl
    try simp only[Act.put,sx]
    refine tl 2 ?_ ?_ hHeld ?_;rotate_left
    . intro w hSw;obtain⟨⟨s0,s1,s2⟩,⟨s3,s4⟩,s5⟩:=hSw;go_simp
      all_goals with_reducible rfl
    try simp only[Act.put,sx]
    refine tl 3 ?_ ?_ hHeld ?_;rotate_left
    . intro w hSw
      try dsimp only at hSw
      go_simp
      all_goals with_reducible rfl
    try simp only[Act.put,sx]
    refine tl 4 ?_ ?_ hHeld ?_;rotate_left
    . intro w hSw
      try dsimp only at hSw
      go_simp
      all_goals with_reducible rfl
    try simp only[Act.put,sx]
    refine tl 5 ?_ ?_ hHeld ?_;rotate_left
    . intro w hSw;obtain⟨⟨s0,s1,s2⟩,⟨s3,s4⟩,s5⟩:=hSw;go_simp
      all_goals with_reducible rfl
    try simp only[Act.put,sx]
    refine tl 6 ?_ ?_ hHeld ?_;rotate_left
    . intro w hSw
      try dsimp only at hSw
      go_simp
      all_goals with_reducible rfl
    try simp only[Act.put,sx]
    refine tl 7 ?_ ?_ hHeld ?_;rotate_left
    . intro w hSw
      try dsimp only at hSw
      go_simp
      all_goals with_reducible rfl
    try simp only[Act.put,sx]
    refine tl 8 ?_ ?_ hHeld ?_;rotate_left
    . intro w hSw;obtain⟨⟨s0,s1,s2⟩,⟨s3,s4⟩,s5⟩:=hSw;go_simp
      all_goals with_reducible rfl
    try simp only[Act.put,sx]
    refine tl 9 ?_ ?_ hHeld ?_;rotate_left
    . intro w hSw
      try dsimp only at hSw
      go_simp
      all_goals with_reducible rfl
    try simp only[Act.put,sx]
    refine tl 10 ?_ ?_ hHeld ?_;rotate_left
    . intro w hSw
      try dsimp only at hSw
      go_simp
      all_goals with_reducible rfl
    try simp only[Act.put,sx]
    refine tl 11 ?_ ?_ hHeld ?_;rotate_left
    . intro w hSw
      try dsimp only at hSw
      go_simp
      all_goals with_reducible rfl
    try simp only[Act.put,sx]
    refine tl 12 ?_ ?_ hHeld ?_;rotate_left
    . intro w hSw;obtain⟨⟨s0,s1,s2⟩,⟨s3,s4⟩,s5⟩:=hSw;go_simp
      all_goals with_reducible rfl
    try simp only[Act.put,sx]
    refine tl 13 ?_ ?_ hHeld ?_;rotate_left
    . intro w hSw
      try dsimp only at hSw
      go_simp
      all_goals with_reducible rfl
    try simp only[Act.put,sx]
    refine tl 14 ?_ ?_ hHeld ?_;rotate_left
    . intro w hSw
      try dsimp only at hSw
      go_simp
      all_goals with_reducible rfl
    try simp only[Act.put,sx]
    refine tl 15 ?_ ?_ hHeld ?_;rotate_left
    . intro w hSw;obtain⟨⟨s0,s1,s2⟩,⟨s3,s4⟩,s5⟩:=hSw;go_simp
      all_goals with_reducible rfl
    try simp only[Act.put,sx]
    refine tl 16 ?_ ?_ hHeld ?_;rotate_left
    . intro w hSw
      try dsimp only at hSw
      go_simp
      all_goals with_reducible rfl
    try simp only[Act.put,sx]
    refine tl 17 ?_ ?_ hHeld ?_;rotate_left
    . intro w hSw;obtain⟨⟨s0,s1,s2⟩,⟨s3,s4⟩,s5⟩:=hSw;go_simp
      all_goals with_reducible rfl
    try simp only[Act.put,sx]
    refine tl 18 ?_ ?_ hHeld ?_;rotate_left
    . intro w hSw
      try dsimp only at hSw
      go_simp
      all_goals with_reducible rfl
    try simp only[Act.put,sx]
    refine wpAnyH_ready (rs:=[19]) (by kernel_rfl) (by simp) ?_;apply AllReadyH.cons rfl ?_ AllReadyH.nil;intro K hK;dsimp only[List.getElem_toArray,List.getElem_cons_succ,List.getElem_cons_zero];rw[if_pos (by rfl)];refine AG rfl ?_;intro g8 wn BB hg8 X8;have hsz:w3.drew.heap.size=w3.heap.size:=rfl;have hDl:=D.out.lt;have h8A:0<nx->∀ q off,A6=some ⟨q,off,none⟩->q≠g8:=fun h0 q off e=>by have:=I6.out.lt h0 q off e; omega
    have h8H:0<nh->∀ q off,A2=some ⟨q,off,none⟩->q≠g8:=fun h0 q off e=>by
     obtain⟨b9,f9,e9,h9,_⟩:=I2.out.2 h0;rw[e9] at e; cases e; omega
    have n1:b≠g8:=by omega
    have n2:g≠g8:=by omega
    have n3:b3≠g8:=by omega
    have n4:w.heap.size≠g8:=by omega
    replace z0:=(BB.cell (p:=⟨b,o0,none⟩) hb).trans z0;replace z1:=(BB.cell (p:=⟨b,o0+1,none⟩) hb).trans z1;replace z2:=(BB.cell (p:=⟨b,o0+2,none⟩) hb).trans z2;replace q2:=(BB.cell (p:=⟨g,2,none⟩) hg).trans q2;replace q3:=(BB.cell (p:=⟨g,3,none⟩) hg).trans q3;replace z3:=(BB.cell (p:=⟨b3,o3,none⟩) hb3).trans z3;replace D:=hid (D.out.drew.step BB);replace I6:=hid (I6.out.drew.step BB);replace I2:=hid ((Ints.drew I2.out).step BB);replace B:=hid (Aa (AY B.out 1) BB);replace hb:=Nat.lt_of_lt_of_le hb BB.size;replace hg:=Nat.lt_of_lt_of_le hg BB.size;replace hb3:=Nat.lt_of_lt_of_le hb3 BB.size;replace X8:=hid X8
    have hg8l:=hid (show w.heap.size<g8 by omega);clear BB hHeld hg8 hsz hDl;refine hK.out _ _ ⟨⟨z0,z1,z2⟩,⟨q2,q3⟩,z3⟩ (fun hHeld=>?_);clear hK K
    try simp only[Act.put,sx]
    refine wpAnyH_ready (rs:=[20]) (by kernel_rfl) (by simp) ?_;apply AllReadyH.cons rfl ?_ AllReadyH.nil;intro K hK;dsimp only[List.getElem_toArray,List.getElem_cons_succ,List.getElem_cons_zero];rw[if_pos (by rfl)];refine Ao 26 (.tmp 9) (.tmp 71) rfl g8 rfl ((AR r0 r1 r2 A6 nx c6 A2 nh c2 r3)) rfl _ X8.out (by simp) Ae rfl ?_;intro wZ KZ XZ;replace z0:=(KZ.cell (p:=⟨b,o0,none⟩) hb n1).trans z0;replace z1:=(KZ.cell (p:=⟨b,o0+1,none⟩) hb n1).trans z1;replace z2:=(KZ.cell (p:=⟨b,o0+2,none⟩) hb n1).trans z2;replace q2:=(KZ.cell (p:=⟨g,2,none⟩) hg n2).trans q2;replace q3:=(KZ.cell (p:=⟨g,3,none⟩) hg n2).trans q3
    replace z3:=(KZ.cell (p:=⟨b3,o3,none⟩) hb3 n3).trans z3;replace D:=hid (D.out.kept KZ n4);replace I6:=hid (I6.out.kept KZ h8A);replace I2:=hid (Ints.keptX I2.out KZ h8H);have hKb:=KZ.below B.out.size (Nat.le_of_lt hg8l.out);replace B:=hid (B.out.trans hKb);clear KZ hHeld hKb X8;refine hK.out _ _ ⟨⟨z0,z1,z2⟩,⟨q2,q3⟩,z3⟩ (fun hHeld=>?_);clear hK K
    try simp only[Act.put,sx]
    refine wpAnyH_done (by kernel_rfl) ?_ _;clear z0 z1 z2 q2 q3 z3 h8A h8H;have Xc0:=XZ.cell 0 _ rfl;have Xc1:=XZ.cell 1 _ rfl;have Xc2:=XZ.cell 2 _ rfl;have Xc3:=XZ.cell 3 _ rfl;have Xc4:=XZ.cell 4 _ rfl;have Xc5:=XZ.cell 5 _ rfl;have Xl:=XZ.lt;replace XZ:=hid XZ;go_wp2_with fail;refine(V _ I6.out I2.out (by omega) (by omega)).mono ?_;rintro e w5 ⟨rfl,B5⟩;clear Xc0 Xc1 Xc2 Xc3 Xc4 Xc5 Xl;replace D:=hid (D.out.step B5);replace XZ:=hid (XZ.out.step B5);replace I6:=hid (I6.out.step B5);replace I2:=hid (I2.out.step B5);replace B:=hid (Aa B.out B5);clear B5 V;cases ok with
    | false =>
     have E:=hid (show R=none from e4.out);clear e4;go_upto_region 13 with fail;refine wp_region_lit ?_
     iterate 3 go_step
     refine Av rfl 26 (.tmp 2) (.tmp 75) rfl w.heap.size rfl Bp rfl Bp D.out (by simp) Ae rfl ?_;go_wp2;exact bodyPost_ret (v:=.tuple #[CH 0 0 0 none 0 0 none 0 0 0,.bool false]) (Ay rfl w.heap.size rfl Bp (D.out.all Bp (by simp)) (.bool false) rfl Tryz.underlying26 rfl Ae) rfl (BG E.out (Bj B.out (Nat.le_refl _) _ _))
    | true =>
     have E:=hid (show R=some ⟨r0,r1,r2,xs,hh,r3⟩ from e4.out);clear e4;go_upto_region 14 with fail;refine wp_region_lit ?_;refine Ag rfl 26 (.tmp 9) rfl g8 rfl (AR r0 r1 r2 A6 nx c6 A2 nh c2 r3) XZ.out Tryz.underlying26 rfl Ae ?_;refine Ah rfl 26 (.tmp 2) (.tmp 76) rfl w.heap.size rfl (AR r0 r1 r2 A6 nx c6 A2 nh c2 r3) rfl Bp D.out (by simp) Ae rfl ?_;intro w6 K6 D6;have hB:=K6.below B.out.size (Nat.le_refl _);have I7:=I6.out.kept K6 (fun h0 k off e=>by have:=M6.out k off e; omega);have J7:=Ints.keptX I2.out K6 (fun h0 k off e=>by have:=m2.out k off e; omega);go_wp2
     exact bodyPost_ret (v:=.tuple #[CH r0 r1 r2 A6 nx c6 A2 nh c2 r3,.bool true]) (Ay rfl w.heap.size rfl (AR r0 r1 r2 A6 nx c6 A2 nh c2 r3) D6 (.bool true) rfl Tryz.underlying26 rfl Ae) rfl ⟨A6,nx,c6,A2,nh,c2,by rw[E.out]; rfl,⟨(fun k off e=>by have:=M6.out k off e; omega),(fun k off e=>by have:=m2.out k off e; omega)⟩,by rw[E.out]; exact I7,by rw[E.out]; exact J7,B.out.trans hB⟩
end Go.Proofs.YtgbiagonfbnooaaGreatDoor
