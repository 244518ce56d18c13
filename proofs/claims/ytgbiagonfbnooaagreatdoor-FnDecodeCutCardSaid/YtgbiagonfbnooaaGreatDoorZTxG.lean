import Derived.Test.YtgbiagonfbnooaaGreatDoorZRepP
import Derived.Test.YtgbiagonfbnooaaGreatDoorZTxC
set_option linter.all false
set_option maxRecDepth 100000
set_option maxHeartbeats 8000000
open Go.Lib
namespace Go.Proofs.YtgbiagonfbnooaaGreatDoor
open Go.RowKit
open M
theorem Ints.three'(w:World)(a b c:Int)(t:TypeId):Ints (w.alloc (.cells #[.int .i64 a,.int .i64 b,.int .i64 c] t)) (some ⟨w.heap.size,0,none⟩) 3 [a,b,c] :=
 ⟨rfl,fun _=>⟨w.heap.size,0,rfl,by simp,fun k hk=>by
  match k,hk with
  | 0,_=>simp
  | 1,_=>simp
  | 2,_=>simp⟩⟩
theorem BP{w:World}{o:Oper}{a:Act}{K:Act->World->Prop}{Q:Exit->Act->World->Prop}(x:Operand)(hop:o.op=.buildSlice 24 1 #[(0,x)])(p:Int)(hx:a.eval x=.int .i64 p)
 (h:∀(g:Nat) (w':World),Below w.heap.size w w'->w.heap.size<=g->Ints w' (some ⟨g,0,none⟩) 1 [p]->K (a.put o.dst (.slice (some ⟨g,0,none⟩) 1 1)) w'):o.wp Tryz.prog a w K Q:=by
 obtain⟨i0,hi,hz0,hz1,hz2⟩:=info_parts BO;refine wp_buildSlice 24 3 1 _ hop #[.int .i64 p] i0 (.int .i64 0) Tryz.underlying24 hi hz0 (by rw[hz1]; decide) (by rw[hz1]; decide) ?_ (h _ _ (Ab (Ac w) _) (Nat.le_refl _) (Ints.one w _ _));rw[hz1];simp only[List.map_toArray,List.map_cons,List.map_nil,hx]
 first | kernel_rfl | (simp[Instr.fill,Array.range,Value.cells]; done) | go_simp
theorem GH{w:World}{o:Oper}{a:Act}{K:Act->World->Prop}{Q:Exit->Act->World->Prop}(x y z:Operand)(hop:o.op=.buildSlice 24 3 #[(0,x),(1,y),(2,z)])(p q r:Int)(hx:a.eval x=.int .i64 p)(hy:a.eval y=.int .i64 q)(hz:a.eval z=.int .i64 r)
 (h:∀(g:Nat) (w':World),Below w.heap.size w w'->w.heap.size<=g->Ints w' (some ⟨g,0,none⟩) 3 [p,q,r]->K (a.put o.dst (.slice (some ⟨g,0,none⟩) 3 3)) w'):o.wp Tryz.prog a w K Q:=by
 obtain⟨i0,hi,hz0,hz1,hz2⟩:=info_parts BO;refine wp_buildSlice 24 3 3 _ hop #[.int .i64 p,.int .i64 q,.int .i64 r] i0 (.int .i64 0) Tryz.underlying24 hi hz0 (by rw[hz1]; decide) (by rw[hz1]; decide) ?_ (h _ _ (Ab (Ac w) _) (Nat.le_refl _) (Ints.three' w _ _ _ _));rw[hz1];simp only[List.map_toArray,List.map_cons,List.map_nil,hx,hy,hz]
 first | kernel_rfl | (simp[Instr.fill,Array.range,Value.cells]; done) | go_simp
theorem Hp{w a:World}(h:Below w.heap.size w a):Below w.heap.size w a.drew:=AY h 1
def M.rtxt(r:Rep):Tx:=if Bq r then E7 r else []
theorem KV(l p s:Int)(A:Option Addr)(n c:Nat)(H:Option Addr)(m d:Nat)(t:Int)(xs:List In)(hs:List Int)(w:World)(T:Tabs w)(Y:Inputs w A n xs)(Z:Ints w H m hs)(hn:n<=281474976710656)(hm:m<=281474976710656) :
 Calls Tryz.prog 8 #[CH l p s A n c H m d t] w fun e w'=>e=.returned (.string (str (rtxt ⟨l,p,s,xs,hs,t⟩)))/\Below w.heap.size w w':=by
 replace Y:=hid Y;replace Z:=hid Z;replace T:=hid T;have D:CellsAt (w.alloc (.cells #[.int .i64 l,.int .i64 p,.int .i64 s,.slice A n c,.slice H m d,.int .i64 t] 26)) w.heap.size (AR l p s A n c H m d t):=CellsAt.new w _ _ _ rfl;have B:=Ab (Ac w) (.cells #[.int .i64 l,.int .i64 p,.int .i64 s,.slice A n c,.slice H m d,.int .i64 t] 26);have c0:=D.cell 0 _ rfl;have c1:=D.cell 1 _ rfl;have c2:=D.cell 2 _ rfl;have c3:=D.cell 3 _ rfl;have c4:=D.cell 4 _ rfl;have c5:=D.cell 5 _ rfl;replace D:=hid D;replace B:=hid B;go_enter Tryz.func8,Tryz.ntmps8;go_wp2_with fail
 refine(EL l p s A n c H m d t xs hs _ (Y.out.step B.out) (Z.out.step B.out) hn hm).mono ?_;rintro e w1 ⟨rfl,B1⟩;replace D:=D.out.step B1;replace B:=hid (Aa B.out B1);clear B1 c0 c1 c2 c3 c4 c5;cases ok:Bq ⟨l,p,s,xs,hs,t⟩
 . replace ok:=hid ok;replace D:=hid D;go_wp2;go_ret;exact⟨by rw[rtxt,ok.out]; rfl,B.out⟩
 have hl:=Y.out.1;have hk:=Z.out.1;obtain⟨r1,r2,r3,r4,r5,r6,r7⟩:=DC ok;dsimp only at r1 r2 r3 r4 r5 r6 r7;have hfin:=BM r5;have hx60:=(AO.1 r5).2;have hfo:=Dk hfin;have hlp:=pts_len (An xs);simp only[An,List.length_map] at hlp;rw[show List.map IZ xs=An xs from rfl] at hlp;have hpr:EK xs=Ba (An xs):=by rw[EK,if_pos r5]
 have hm12:m<=12:=by omega
 have R1:F7 [l,p,s]:=by
  intro x hx;simp only[List.mem_cons,List.not_mem_nil,or_false] at hx;rcases hx with rfl | rfl | rfl<;>omega
 have R2:F7 (Aq (Ba (An xs))):=by intro x hx; have:=hfo x hx; omega
 have R3:F7 hs:=by intro x hx; have:=r1 x hx; omega
 have R4:F7 [t]:=by intro x hx; rw[List.mem_singleton.1 hx]; omega
 have hfl:=BI (Ba (An xs));have hl1:=nums_le' _ R1;have hl2:=nums_le' _ R2;have hl3:=nums_le' _ R3;have hl4:=nums_le' _ R4;simp only[List.length_cons,List.length_nil] at hl1 hl4;have C0:=fun(W:World) (I:Inputs W A n xs)=>Ja A n c xs W I hn;rw[hpr] at C0;have hpl:(Ba (An xs)).length<=60:=by omega
 generalize hpt:Ba (An xs)=ps at *;have C1:=fun(W:World) (TW:Tabs W) (g:Nat) (I:Ints W (some ⟨g,0,none⟩) 3 [l,p,s])=>Ch kR (some ⟨g,0,none⟩) 3 3 [l,p,s] W TW I (by decide) (by omega) R1;have C5:=fun(W:World) (Ap:Option Addr) (cp:Nat) (I:Parts W Ap ps.length ps)=>DZ Ap ps.length cp ps W I (by omega);have C2:=fun(W:World) (TW:Tabs W) (A2:Option Addr) (ca2:Nat) (I:Ints W A2 (Aq ps).length (Aq ps))=>Ch kI A2 (Aq ps).length ca2 (Aq ps) W TW I (by decide) (by omega) R2;have C3:=fun(W:World) (TW:Tabs W) (I:Ints W H m hs)=>Ch kH H m d hs W TW I (by decide) (by omega) R3
 have C4:=fun(W:World) (TW:Tabs W) (g:Nat) (I:Ints W (some ⟨g,0,none⟩) 1 [t])=>Ch kT (some ⟨g,0,none⟩) 1 1 [t] W TW I (by decide) (by omega) R4;have hps:E7 ⟨l,p,s,xs,hs,t⟩=(kR++nums [l,p,s]++[10])++(kI++nums (Aq ps)++[10])++(kH++nums hs++[10])++(kT++nums [t]++[10]):=by
  simp only[E7,LV,Nc,Nf,Ng];rw[hpt];simp
 have q1:(kR++nums [l,p,s]++[10]).length<=100:=by simp only[List.length_append,kR,List.length_cons,List.length_nil]; omega
 have q2:(kI++nums (Aq ps)++[10]).length<=1000:=by simp only[List.length_append,kI,List.length_cons,List.length_nil]; omega
 have q3:(kH++nums hs++[10]).length<=1000:=by simp only[List.length_append,kH,List.length_cons,List.length_nil]; omega
 have q4:(kT++nums [t]++[10]).length<=100:=by simp only[List.length_append,kT,List.length_cons,List.length_nil]; omega
 generalize kR++nums [l,p,s]++[10]=a1 at *;generalize kI++nums (Aq ps)++[10]=a2 at *;generalize kH++nums hs++[10]=a3 at *;generalize kT++nums [t]++[10]=a4 at *;have et:str a1++str a2++str a3++str a4=str (rtxt ⟨l,p,s,xs,hs,t⟩):=by
  rw[rtxt,if_pos ok,hps,CO,CO,CO]
 have no0:¬ 9223372036854775807<a1.length+a2.length:=by omega
 have no1:¬ 9223372036854775807<a1.length+a2.length+a3.length:=by omega
 have no2:¬ 9223372036854775807<a1.length+a2.length+a3.length+a4.length:=by omega
 have YW:=hid (Y.out.step B.out);have ZW:=hid (Z.out.step B.out);have TW:=T.out.step B.out;replace et:=hid et;replace ok:=hid ok;replace C0:=hid C0;replace C1:=hid C1;replace C2:=hid C2;replace C3:=hid C3;replace C4:=hid C4;replace C5:=hid C5;clear hl hk r1 r2 r3 r4 r5 r6 r7 hfin hx60 hfo hlp hpr hm12 R1 R2 R3 R4 hfl hl1 hl2 hl3 hl4 hpl hps q1 q2 q3 q4 Y Z T hpt hn hm;have c0:=D.cell 0 _ rfl;have c1:=D.cell 1 _ rfl;have c2:=D.cell 2 _ rfl;have c3:=D.cell 3 _ rfl;have c4:=D.cell 4 _ rfl;have c5:=D.cell 5 _ rfl;replace TW:=hid TW;go_upto_region 3 with fail;clear c0 c1 c2 c3 c4 c5;replace TW:=TW.out
 refine wp_region_held_drew (S:=fun w'=>CellsAt w' w.heap.size (AR l p s A n c H m d t)/\Tabs w') (by kernel_rfl) ⟨D.drew,TW.drew⟩ (fun hHeld=>?_);replace D:=D.drew;replace TW:=TW.drew;replace YW:=hid (YW.out.step (Hp (Ac _)));replace ZW:=hid (ZW.out.step (Hp (Ac _)));replace B:=hid (Hp B.out);generalize w1.drew=w3 at *;refine tl 0 ?_ ?_ hHeld ?_;rotate_left
 . intro w hSw
   try dsimp only at hSw
   go_simp
   all_goals with_reducible rfl
 try simp only[Act.put,sx]
 refine tl 1 ?_ ?_ hHeld ?_;rotate_left
 . intro w hSw;have cj:=hSw.2.l0;go_simp
   all_goals with_reducible rfl
 try simp only[Act.put,sx]
 refine tl 2 ?_ ?_ hHeld ?_;rotate_left
 . intro w hSw
   try dsimp only at hSw
   go_simp
   all_goals with_reducible rfl
 try simp only[Act.put,sx]
 refine tl 3 ?_ ?_ hHeld ?_;rotate_left
 . intro w hSw;have cj:=hSw.1.cell 0 _ rfl;go_simp
   all_goals with_reducible rfl
 try simp only[Act.put,sx]
 refine tl 4 ?_ ?_ hHeld ?_;rotate_left
 . intro w hSw
   try dsimp only at hSw
   go_simp
   all_goals with_reducible rfl
 try simp only[Act.put,sx]
 refine tl 5 ?_ ?_ hHeld ?_;rotate_left
 . intro w hSw;have cj:=hSw.1.cell 1 _ rfl;go_simp
   all_goals with_reducible rfl
 try simp only[Act.put,sx]
 refine tl 6 ?_ ?_ hHeld ?_;rotate_left
 . intro w hSw
   try dsimp only at hSw
   go_simp
   all_goals with_reducible rfl
 try simp only[Act.put,sx]
 refine tl 7 ?_ ?_ hHeld ?_;rotate_left
 . intro w hSw;have cj:=hSw.1.cell 2 _ rfl;go_simp
   all_goals with_reducible rfl
 try simp only[Act.put,sx]
 refine tl 10 ?_ ?_ hHeld ?_;rotate_left
 . intro w hSw
   try dsimp only at hSw
   go_simp
   all_goals with_reducible rfl
 try simp only[Act.put,sx]
 refine tl 11 ?_ ?_ hHeld ?_;rotate_left
 . intro w hSw;have cj:=hSw.2.l1;go_simp
   all_goals with_reducible rfl
 try simp only[Act.put,sx]
 refine tl 12 ?_ ?_ hHeld ?_;rotate_left
 . intro w hSw
   try dsimp only at hSw
   go_simp
   all_goals with_reducible rfl
 try simp only[Act.put,sx]
 refine tl 13 ?_ ?_ hHeld ?_;rotate_left
 . intro w hSw;have cj:=hSw.1.cell 3 _ rfl;go_simp
   all_goals with_reducible rfl
 try simp only[Act.put,sx]
 refine tl 18 ?_ ?_ hHeld ?_;rotate_left
 . intro w hSw
   try dsimp only at hSw
   go_simp
   all_goals with_reducible rfl
 try simp only[Act.put,sx]
 refine tl 19 ?_ ?_ hHeld ?_;rotate_left
 . intro w hSw;have cj:=hSw.2.l2;go_simp
   all_goals with_reducible rfl
 try simp only[Act.put,sx]
 refine tl 20 ?_ ?_ hHeld ?_;rotate_left
 . intro w hSw
   try dsimp only at hSw
   go_simp
   all_goals with_reducible rfl
 try simp only[Act.put,sx]
 refine tl 21 ?_ ?_ hHeld ?_;rotate_left
 . intro w hSw;have cj:=hSw.1.cell 4 _ rfl;go_simp
   all_goals with_reducible rfl
 try simp only[Act.put,sx]
 refine tl 24 ?_ ?_ hHeld ?_;rotate_left
 . intro w hSw
   try dsimp only at hSw
   go_simp
   all_goals with_reducible rfl
 try simp only[Act.put,sx]
 refine tl 25 ?_ ?_ hHeld ?_;rotate_left
 . intro w hSw;have cj:=hSw.2.l3;go_simp
   all_goals with_reducible rfl
 try simp only[Act.put,sx]
 refine tl 26 ?_ ?_ hHeld ?_;rotate_left
 . intro w hSw
   try dsimp only at hSw
   go_simp
   all_goals with_reducible rfl
 try simp only[Act.put,sx]
 refine tl 27 ?_ ?_ hHeld ?_;rotate_left
 . intro w hSw;have cj:=hSw.1.cell 5 _ rfl;go_simp
   all_goals with_reducible rfl
 try simp only[Act.put,sx]
 refine wpAnyH_ready (rs:=[8,28]) (by kernel_rfl) (by simp) ?_;refine(AllReadyH.cons (o:=_) rfl (fun K hK=>?_) (AllReadyH.cons (o:=_) rfl (fun K hK=>?_) AllReadyH.nil))
 . skip
   dsimp only[List.getElem_toArray,List.getElem_cons_succ,List.getElem_cons_zero];rw[if_pos (by rfl)];refine GH (.tmp 9) (.tmp 11) (.tmp 13) rfl l p s rfl rfl rfl ?_;intro g1 wn BB hg1 L1;replace L1:=hid L1;replace D:=D.step BB;replace TW:=TW.step BB;replace YW:=hid (YW.out.step BB);replace ZW:=hid (ZW.out.step BB);replace B:=hid (Aa B.out BB);clear BB;clear hHeld;refine hK.out _ _ ⟨D,TW⟩ (fun hHeld=>?_);clear hK K
   try simp only[Act.put,sx]
   refine wpAnyH_ready (rs:=[9,28]) (by kernel_rfl) (by simp) ?_;refine(AllReadyH.cons (o:=_) rfl (fun K hK=>?_) (AllReadyH.cons (o:=_) rfl (fun K hK=>?_) AllReadyH.nil))
   . skip
     go_simp
     go_at_call 16
     refine(C1.out _ TW g1 L1.out).mono ?_;rintro e wn ⟨rfl,BB⟩;clear L1;replace D:=D.step BB;replace TW:=TW.step BB;replace YW:=hid (YW.out.step BB);replace ZW:=hid (ZW.out.step BB);replace B:=hid (Aa B.out BB);clear BB;clear hHeld;go_wp2_with fail;refine hK.out _ _ ⟨D,TW⟩ (fun hHeld=>?_);clear hK K
     try simp only[Act.put,sx]
     refine wpAnyH_ready (rs:=[14,28]) (by kernel_rfl) (by simp) ?_;refine(AllReadyH.cons (o:=_) rfl (fun K hK=>?_) (AllReadyH.cons (o:=_) rfl (fun K hK=>?_) AllReadyH.nil))
     . skip
       go_simp
       go_at_call 18
       refine(C0.out _ YW.out).mono ?_;rintro e wn ⟨vp,rfl,O1,BB⟩;obtain⟨Ap,cp,rfl,P1,_⟩:=Parts.of_own O1;clear O1;replace D:=D.step BB;replace TW:=TW.step BB;replace YW:=hid (YW.out.step BB);replace ZW:=hid (ZW.out.step BB);replace B:=hid (Aa B.out BB);clear BB;replace P1:=hid P1;clear hHeld;go_wp2_with fail;refine hK.out _ _ ⟨D,TW⟩ (fun hHeld=>?_);clear hK K
       try simp only[Act.put,sx]
       refine wpAnyH_ready (rs:=[15,28]) (by kernel_rfl) (by simp) ?_;refine(AllReadyH.cons (o:=_) rfl (fun K hK=>?_) (AllReadyH.cons (o:=_) rfl (fun K hK=>?_) AllReadyH.nil))
       . skip
         go_simp
         go_at_call 17
         refine(C5.out _ Ap cp P1.out).mono ?_;rintro e wn ⟨vq,rfl,O2,BB⟩;obtain⟨A2,ca2,rfl,I2⟩:=Ints.of_own O2;clear O2 P1;replace D:=D.step BB;replace TW:=TW.step BB;replace YW:=hid (YW.out.step BB);replace ZW:=hid (ZW.out.step BB);replace B:=hid (Aa B.out BB);clear BB;replace I2:=hid I2;clear hHeld;go_wp2_with fail;refine hK.out _ _ ⟨D,TW⟩ (fun hHeld=>?_);clear hK K
         try simp only[Act.put,sx]
         refine wpAnyH_ready (rs:=[16,28]) (by kernel_rfl) (by simp) ?_;refine(AllReadyH.cons (o:=_) rfl (fun K hK=>?_) (AllReadyH.cons (o:=_) rfl (fun K hK=>?_) AllReadyH.nil))
         . skip
           go_simp
           go_at_call 16
           refine(C2.out _ TW A2 ca2 I2.out).mono ?_;rintro e wn ⟨rfl,BB⟩;clear I2;replace D:=D.step BB;replace TW:=TW.step BB;replace YW:=hid (YW.out.step BB);replace ZW:=hid (ZW.out.step BB);replace B:=hid (Aa B.out BB);clear BB;clear hHeld;go_wp2_with fail;refine hK.out _ _ ⟨D,TW⟩ (fun hHeld=>?_);clear hK K
           try simp only[Act.put,sx]
           refine tl 17 ?_ ?_ hHeld ?_;rotate_left
           . intro w hSw
             try dsimp only at hSw
             go_simp
             all_goals with_reducible rfl
           try simp only[Act.put,sx]
           refine wpAnyH_ready (rs:=[22,28]) (by kernel_rfl) (by simp) ?_;refine(AllReadyH.cons (o:=_) rfl (fun K hK=>?_) (AllReadyH.cons (o:=_) rfl (fun K hK=>?_) AllReadyH.nil))
           . skip
             go_simp
             go_at_call 16
             refine(C3.out _ TW ZW.out).mono ?_;rintro e wn ⟨rfl,BB⟩;replace D:=D.step BB;replace TW:=TW.step BB;replace YW:=hid (YW.out.step BB);replace ZW:=hid (ZW.out.step BB);replace B:=hid (Aa B.out BB);clear BB;clear hHeld;go_wp2_with fail;refine hK.out _ _ ⟨D,TW⟩ (fun hHeld=>?_);clear hK K
             try simp only[Act.put,sx]
             refine tl 23 ?_ ?_ hHeld ?_;rotate_left
             . intro w hSw
               try dsimp only at hSw
               go_simp
               all_goals with_reducible rfl
             try simp only[Act.put,sx]
             refine wpAnyH_ready (rs:=[28]) (by kernel_rfl) (by simp) ?_;apply AllReadyH.cons rfl ?_ AllReadyH.nil;intro K hK;dsimp only[List.getElem_toArray,List.getElem_cons_succ,List.getElem_cons_zero];rw[if_pos (by rfl)];refine BP (.tmp 33) rfl t rfl ?_;intro gx wn BB hgx X1;replace X1:=hid X1;replace D:=D.step BB;replace TW:=TW.step BB;replace YW:=hid (YW.out.step BB);replace ZW:=hid (ZW.out.step BB);replace B:=hid (Aa B.out BB);clear BB;clear hHeld;refine hK.out _ _ ⟨D,TW⟩ (fun hHeld=>?_);clear hK K
             try simp only[Act.put,sx]
             refine wpAnyH_ready (rs:=[29]) (by kernel_rfl) (by simp) ?_;apply AllReadyH.cons rfl ?_ AllReadyH.nil;intro K hK;go_simp
             go_at_call 16
             refine(C4.out _ TW gx X1.out).mono ?_;rintro e wn ⟨rfl,BB⟩;clear X1;replace D:=D.step BB;replace TW:=TW.step BB;replace YW:=hid (YW.out.step BB);replace ZW:=hid (ZW.out.step BB);replace B:=hid (Aa B.out BB);clear BB;clear hHeld;go_wp2_with fail;refine hK.out _ _ ⟨D,TW⟩ (fun hHeld=>?_);clear hK K
             try simp only[Act.put,sx]
             refine tl 30 ?_ ?_ hHeld ?_;rotate_left
             . intro w hSw
               try dsimp only at hSw
               go_simp
               all_goals with_reducible rfl
             try simp only[Act.put,sx]
             refine tl 31 ?_ ?_ hHeld ?_;rotate_left
             . intro w hSw
               try dsimp only at hSw
               go_simp
               all_goals with_reducible rfl
             try simp only[Act.put,sx]
             refine wpAnyH_done (by kernel_rfl) ?_ _;go_wp2;go_ret;exact⟨by rw[<- et.out]; rfl,B.out⟩
           . skip
             dsimp only[List.getElem_toArray,List.getElem_cons_succ,List.getElem_cons_zero];rw[if_pos (by rfl)];refine BP (.tmp 33) rfl t rfl ?_;intro gx wn BB hgx X1;replace X1:=hid X1;replace D:=D.step BB;replace TW:=TW.step BB;replace YW:=hid (YW.out.step BB);replace ZW:=hid (ZW.out.step BB);replace B:=hid (Aa B.out BB);clear BB;clear hHeld;refine hK.out _ _ ⟨D,TW⟩ (fun hHeld=>?_);clear hK K
             try simp only[Act.put,sx]
             refine wpAnyH_ready (rs:=[22]) (by kernel_rfl) (by simp) ?_;apply AllReadyH.cons rfl ?_ AllReadyH.nil;intro K hK;go_simp
             go_at_call 16
             refine(C3.out _ TW ZW.out).mono ?_;rintro e wn ⟨rfl,BB⟩;replace D:=D.step BB;replace TW:=TW.step BB;replace YW:=hid (YW.out.step BB);replace ZW:=hid (ZW.out.step BB);replace X1:=hid (X1.out.step BB);replace B:=hid (Aa B.out BB);clear BB;clear hHeld;go_wp2_with fail;refine hK.out _ _ ⟨D,TW⟩ (fun hHeld=>?_);clear hK K
             try simp only[Act.put,sx]
             refine tl 23 ?_ ?_ hHeld ?_;rotate_left
             . intro w hSw
               try dsimp only at hSw
               go_simp
               all_goals with_reducible rfl
             try simp only[Act.put,sx]
             refine wpAnyH_ready (rs:=[29]) (by kernel_rfl) (by simp) ?_;apply AllReadyH.cons rfl ?_ AllReadyH.nil;intro K hK;go_simp
             go_at_call 16
             refine(C4.out _ TW gx X1.out).mono ?_;rintro e wn ⟨rfl,BB⟩;clear X1;replace D:=D.step BB;replace TW:=TW.step BB;replace YW:=hid (YW.out.step BB);replace ZW:=hid (ZW.out.step BB);replace B:=hid (Aa B.out BB);clear BB;clear hHeld;go_wp2_with fail;refine hK.out _ _ ⟨D,TW⟩ (fun hHeld=>?_);clear hK K
             try simp only[Act.put,sx]
             refine tl 30 ?_ ?_ hHeld ?_;rotate_left
             . intro w hSw
               try dsimp only at hSw
               go_simp
               all_goals with_reducible rfl
             try simp only[Act.put,sx]
             refine tl 31 ?_ ?_ hHeld ?_;rotate_left
             . intro w hSw
               try dsimp only at hSw
               go_simp
               all_goals with_reducible rfl
             try simp only[Act.put,sx]
             refine wpAnyH_done (by kernel_rfl) ?_ _;go_wp2;go_ret;exact⟨by rw[<- et.out]; rfl,B.out⟩
         . skip
           dsimp only[List.getElem_toArray,List.getElem_cons_succ,List.getElem_cons_zero];rw[if_pos (by rfl)];refine BP (.tmp 33) rfl t rfl ?_;intro gx wn BB hgx X1;replace X1:=hid X1;replace D:=D.step BB;replace TW:=TW.step BB;replace YW:=hid (YW.out.step BB);replace ZW:=hid (ZW.out.step BB);replace I2:=hid (I2.out.step BB);replace B:=hid (Aa B.out BB);clear BB;clear hHeld;refine hK.out _ _ ⟨D,TW⟩ (fun hHeld=>?_);clear hK K
           try simp only[Act.put,sx]
           refine wpAnyH_ready (rs:=[16]) (by kernel_rfl) (by simp) ?_;apply AllReadyH.cons rfl ?_ AllReadyH.nil;intro K hK;go_simp
           go_at_call 16
           refine(C2.out _ TW A2 ca2 I2.out).mono ?_;rintro e wn ⟨rfl,BB⟩;clear I2;replace D:=D.step BB;replace TW:=TW.step BB;replace YW:=hid (YW.out.step BB);replace ZW:=hid (ZW.out.step BB);replace X1:=hid (X1.out.step BB);replace B:=hid (Aa B.out BB);clear BB;clear hHeld;go_wp2_with fail;refine hK.out _ _ ⟨D,TW⟩ (fun hHeld=>?_);clear hK K
           try simp only[Act.put,sx]
           refine tl 17 ?_ ?_ hHeld ?_;rotate_left
           . intro w hSw
             try dsimp only at hSw
             go_simp
             all_goals with_reducible rfl
           try simp only[Act.put,sx]
           refine wpAnyH_ready (rs:=[22]) (by kernel_rfl) (by simp) ?_;apply AllReadyH.cons rfl ?_ AllReadyH.nil;intro K hK;go_simp
           go_at_call 16
           refine(C3.out _ TW ZW.out).mono ?_;rintro e wn ⟨rfl,BB⟩;replace D:=D.step BB;replace TW:=TW.step BB;replace YW:=hid (YW.out.step BB);replace ZW:=hid (ZW.out.step BB);replace X1:=hid (X1.out.step BB);replace B:=hid (Aa B.out BB);clear BB;clear hHeld;go_wp2_with fail;refine hK.out _ _ ⟨D,TW⟩ (fun hHeld=>?_);clear hK K
           try simp only[Act.put,sx]
           refine tl 23 ?_ ?_ hHeld ?_;rotate_left
           . intro w hSw
             try dsimp only at hSw
             go_simp
             all_goals with_reducible rfl
           try simp only[Act.put,sx]
           refine wpAnyH_ready (rs:=[29]) (by kernel_rfl) (by simp) ?_;apply AllReadyH.cons rfl ?_ AllReadyH.nil;intro K hK;go_simp
           go_at_call 16
           refine(C4.out _ TW gx X1.out).mono ?_;rintro e wn ⟨rfl,BB⟩;clear X1;replace D:=D.step BB;replace TW:=TW.step BB;replace YW:=hid (YW.out.step BB);replace ZW:=hid (ZW.out.step BB);replace B:=hid (Aa B.out BB);clear BB;clear hHeld;go_wp2_with fail;refine hK.out _ _ ⟨D,TW⟩ (fun hHeld=>?_);clear hK K
           try simp only[Act.put,sx]
           refine tl 30 ?_ ?_ hHeld ?_;rotate_left
           . intro w hSw
             try dsimp only at hSw
             go_simp
             all_goals with_reducible rfl
           try simp only[Act.put,sx]
           refine tl 31 ?_ ?_ hHeld ?_;rotate_left
           . intro w hSw
             try dsimp only at hSw
             go_simp
             all_goals with_reducible rfl
           try simp only[Act.put,sx]
           refine wpAnyH_done (by kernel_rfl) ?_ _;go_wp2;go_ret;exact⟨by rw[<- et.out]; rfl,B.out⟩
       . skip
         dsimp only[List.getElem_toArray,List.getElem_cons_succ,List.getElem_cons_zero];rw[if_pos (by rfl)];refine BP (.tmp 33) rfl t rfl ?_;intro gx wn BB hgx X1;replace X1:=hid X1;replace D:=D.step BB;replace TW:=TW.step BB;replace YW:=hid (YW.out.step BB);replace ZW:=hid (ZW.out.step BB);replace P1:=hid (P1.out.step BB);replace B:=hid (Aa B.out BB);clear BB;clear hHeld;refine hK.out _ _ ⟨D,TW⟩ (fun hHeld=>?_);clear hK K
         try simp only[Act.put,sx]
         refine wpAnyH_ready (rs:=[15]) (by kernel_rfl) (by simp) ?_;apply AllReadyH.cons rfl ?_ AllReadyH.nil;intro K hK;go_simp
         go_at_call 17
         refine(C5.out _ Ap cp P1.out).mono ?_;rintro e wn ⟨vq,rfl,O2,BB⟩;obtain⟨A2,ca2,rfl,I2⟩:=Ints.of_own O2;clear O2 P1;replace D:=D.step BB;replace TW:=TW.step BB;replace YW:=hid (YW.out.step BB);replace ZW:=hid (ZW.out.step BB);replace X1:=hid (X1.out.step BB);replace B:=hid (Aa B.out BB);clear BB;replace I2:=hid I2;clear hHeld;go_wp2_with fail;refine hK.out _ _ ⟨D,TW⟩ (fun hHeld=>?_);clear hK K
         try simp only[Act.put,sx]
         refine wpAnyH_ready (rs:=[16]) (by kernel_rfl) (by simp) ?_;apply AllReadyH.cons rfl ?_ AllReadyH.nil;intro K hK;go_simp
         go_at_call 16
         refine(C2.out _ TW A2 ca2 I2.out).mono ?_;rintro e wn ⟨rfl,BB⟩;clear I2;replace D:=D.step BB;replace TW:=TW.step BB;replace YW:=hid (YW.out.step BB);replace ZW:=hid (ZW.out.step BB);replace X1:=hid (X1.out.step BB);replace B:=hid (Aa B.out BB);clear BB;clear hHeld;go_wp2_with fail;refine hK.out _ _ ⟨D,TW⟩ (fun hHeld=>?_);clear hK K
         try simp only[Act.put,sx]
         refine tl 17 ?_ ?_ hHeld ?_;rotate_left
         . intro w hSw
           try dsimp only at hSw
           go_simp
           all_goals with_reducible rfl
         try simp only[Act.put,sx]
         refine wpAnyH_ready (rs:=[22]) (by kernel_rfl) (by simp) ?_;apply AllReadyH.cons rfl ?_ AllReadyH.nil;intro K hK;go_simp
         go_at_call 16
         refine(C3.out _ TW ZW.out).mono ?_;rintro e wn ⟨rfl,BB⟩;replace D:=D.step BB;replace TW:=TW.step BB;replace YW:=hid (YW.out.step BB);replace ZW:=hid (ZW.out.step BB);replace X1:=hid (X1.out.step BB);replace B:=hid (Aa B.out BB);clear BB;clear hHeld;go_wp2_with fail;refine hK.out _ _ ⟨D,TW⟩ (fun hHeld=>?_);clear hK K
         try simp only[Act.put,sx]
         refine tl 23 ?_ ?_ hHeld ?_;rotate_left
         . intro w hSw
           try dsimp only at hSw
           go_simp
           all_goals with_reducible rfl
         try simp only[Act.put,sx]
         refine wpAnyH_ready (rs:=[29]) (by kernel_rfl) (by simp) ?_;apply AllReadyH.cons rfl ?_ AllReadyH.nil;intro K hK;go_simp
         go_at_call 16
         refine(C4.out _ TW gx X1.out).mono ?_;rintro e wn ⟨rfl,BB⟩;clear X1;replace D:=D.step BB;replace TW:=TW.step BB;replace YW:=hid (YW.out.step BB);replace ZW:=hid (ZW.out.step BB);replace B:=hid (Aa B.out BB);clear BB;clear hHeld;go_wp2_with fail;refine hK.out _ _ ⟨D,TW⟩ (fun hHeld=>?_);clear hK K
         try simp only[Act.put,sx]
         refine tl 30 ?_ ?_ hHeld ?_;rotate_left
         . intro w hSw
           try dsimp only at hSw
           go_simp
           all_goals with_reducible rfl
         try simp only[Act.put,sx]
         refine tl 31 ?_ ?_ hHeld ?_;rotate_left
         . intro w hSw
           try dsimp only at hSw
           go_simp
           all_goals with_reducible rfl
         try simp only[Act.put,sx]
         refine wpAnyH_done (by kernel_rfl) ?_ _;go_wp2;go_ret;exact⟨by rw[<- et.out]; rfl,B.out⟩
     . skip
       dsimp only[List.getElem_toArray,List.getElem_cons_succ,List.getElem_cons_zero];rw[if_pos (by rfl)];refine BP (.tmp 33) rfl t rfl ?_;intro gx wn BB hgx X1;replace X1:=hid X1;replace D:=D.step BB;replace TW:=TW.step BB;replace YW:=hid (YW.out.step BB);replace ZW:=hid (ZW.out.step BB);replace B:=hid (Aa B.out BB);clear BB;clear hHeld;refine hK.out _ _ ⟨D,TW⟩ (fun hHeld=>?_);clear hK K
       try simp only[Act.put,sx]
       refine wpAnyH_ready (rs:=[14]) (by kernel_rfl) (by simp) ?_;apply AllReadyH.cons rfl ?_ AllReadyH.nil;intro K hK;go_simp
       go_at_call 18
       refine(C0.out _ YW.out).mono ?_;rintro e wn ⟨vp,rfl,O1,BB⟩;obtain⟨Ap,cp,rfl,P1,_⟩:=Parts.of_own O1;clear O1;replace D:=D.step BB;replace TW:=TW.step BB;replace YW:=hid (YW.out.step BB);replace ZW:=hid (ZW.out.step BB);replace X1:=hid (X1.out.step BB);replace B:=hid (Aa B.out BB);clear BB;replace P1:=hid P1;clear hHeld;go_wp2_with fail;refine hK.out _ _ ⟨D,TW⟩ (fun hHeld=>?_);clear hK K
       try simp only[Act.put,sx]
       refine wpAnyH_ready (rs:=[15]) (by kernel_rfl) (by simp) ?_;apply AllReadyH.cons rfl ?_ AllReadyH.nil;intro K hK;go_simp
       go_at_call 17
       refine(C5.out _ Ap cp P1.out).mono ?_;rintro e wn ⟨vq,rfl,O2,BB⟩;obtain⟨A2,ca2,rfl,I2⟩:=Ints.of_own O2;clear O2 P1;replace D:=D.step BB;replace TW:=TW.step BB;replace YW:=hid (YW.out.step BB);replace ZW:=hid (ZW.out.step BB);replace X1:=hid (X1.out.step BB);replace B:=hid (Aa B.out BB);clear BB;replace I2:=hid I2;clear hHeld;go_wp2_with fail;refine hK.out _ _ ⟨D,TW⟩ (fun hHeld=>?_);clear hK K
       try simp only[Act.put,sx]
       refine wpAnyH_ready (rs:=[16]) (by kernel_rfl) (by simp) ?_;apply AllReadyH.cons rfl ?_ AllReadyH.nil;intro K hK;go_simp
       go_at_call 16
       refine(C2.out _ TW A2 ca2 I2.out).mono ?_;rintro e wn ⟨rfl,BB⟩;clear I2;replace D:=D.step BB;replace TW:=TW.step BB;replace YW:=hid (YW.out.step BB);replace ZW:=hid (ZW.out.step BB);replace X1:=hid (X1.out.step BB);replace B:=hid (Aa B.out BB);clear BB;clear hHeld;go_wp2_with fail;refine hK.out _ _ ⟨D,TW⟩ (fun hHeld=>?_);clear hK K
       try simp only[Act.put,sx]
       refine tl 17 ?_ ?_ hHeld ?_;rotate_left
       . intro w hSw
         try dsimp only at hSw
         go_simp
         all_goals with_reducible rfl
       try simp only[Act.put,sx]
       refine wpAnyH_ready (rs:=[22]) (by kernel_rfl) (by simp) ?_;apply AllReadyH.cons rfl ?_ AllReadyH.nil;intro K hK;go_simp
       go_at_call 16
       refine(C3.out _ TW ZW.out).mono ?_;rintro e wn ⟨rfl,BB⟩;replace D:=D.step BB;replace TW:=TW.step BB;replace YW:=hid (YW.out.step BB);replace ZW:=hid (ZW.out.step BB);replace X1:=hid (X1.out.step BB);replace B:=hid (Aa B.out BB);clear BB;clear hHeld;go_wp2_with fail;refine hK.out _ _ ⟨D,TW⟩ (fun hHeld=>?_);clear hK K
       try simp only[Act.put,sx]
       refine tl 23 ?_ ?_ hHeld ?_;rotate_left
       . intro w hSw
         try dsimp only at hSw
         go_simp
         all_goals with_reducible rfl
       try simp only[Act.put,sx]
       refine wpAnyH_ready (rs:=[29]) (by kernel_rfl) (by simp) ?_;apply AllReadyH.cons rfl ?_ AllReadyH.nil;intro K hK;go_simp
       go_at_call 16
       refine(C4.out _ TW gx X1.out).mono ?_;rintro e wn ⟨rfl,BB⟩;clear X1;replace D:=D.step BB;replace TW:=TW.step BB;replace YW:=hid (YW.out.step BB);replace ZW:=hid (ZW.out.step BB);replace B:=hid (Aa B.out BB);clear BB;clear hHeld;go_wp2_with fail;refine hK.out _ _ ⟨D,TW⟩ (fun hHeld=>?_);clear hK K
       try simp only[Act.put,sx]
       refine tl 30 ?_ ?_ hHeld ?_;rotate_left
       . intro w hSw
         try dsimp only at hSw
         go_simp
         all_goals with_reducible rfl
       try simp only[Act.put,sx]
       refine tl 31 ?_ ?_ hHeld ?_;rotate_left
       . intro w hSw
         try dsimp only at hSw
         go_simp
         all_goals with_reducible rfl
       try simp only[Act.put,sx]
       refine wpAnyH_done (by kernel_rfl) ?_ _;go_wp2;go_ret;exact⟨by rw[<- et.out]; rfl,B.out⟩
   . skip
     dsimp only[List.getElem_toArray,List.getElem_cons_succ,List.getElem_cons_zero];rw[if_pos (by rfl)];refine BP (.tmp 33) rfl t rfl ?_;intro gx wn BB hgx X1;replace X1:=hid X1;replace D:=D.step BB;replace TW:=TW.step BB;replace YW:=hid (YW.out.step BB);replace ZW:=hid (ZW.out.step BB);replace L1:=hid (L1.out.step BB);replace B:=hid (Aa B.out BB);clear BB;clear hHeld;refine hK.out _ _ ⟨D,TW⟩ (fun hHeld=>?_);clear hK K
     try simp only[Act.put,sx]
     refine wpAnyH_ready (rs:=[9]) (by kernel_rfl) (by simp) ?_;apply AllReadyH.cons rfl ?_ AllReadyH.nil;intro K hK;go_simp
     go_at_call 16
     refine(C1.out _ TW g1 L1.out).mono ?_;rintro e wn ⟨rfl,BB⟩;clear L1;replace D:=D.step BB;replace TW:=TW.step BB;replace YW:=hid (YW.out.step BB);replace ZW:=hid (ZW.out.step BB);replace X1:=hid (X1.out.step BB);replace B:=hid (Aa B.out BB);clear BB;clear hHeld;go_wp2_with fail;refine hK.out _ _ ⟨D,TW⟩ (fun hHeld=>?_);clear hK K
     try simp only[Act.put,sx]
     refine wpAnyH_ready (rs:=[14]) (by kernel_rfl) (by simp) ?_;apply AllReadyH.cons rfl ?_ AllReadyH.nil;intro K hK;go_simp
     go_at_call 18
     refine(C0.out _ YW.out).mono ?_;rintro e wn ⟨vp,rfl,O1,BB⟩;obtain⟨Ap,cp,rfl,P1,_⟩:=Parts.of_own O1;clear O1;replace D:=D.step BB;replace TW:=TW.step BB;replace YW:=hid (YW.out.step BB);replace ZW:=hid (ZW.out.step BB);replace X1:=hid (X1.out.step BB);replace B:=hid (Aa B.out BB);clear BB;replace P1:=hid P1;clear hHeld;go_wp2_with fail;refine hK.out _ _ ⟨D,TW⟩ (fun hHeld=>?_);clear hK K
     try simp only[Act.put,sx]
     refine wpAnyH_ready (rs:=[15]) (by kernel_rfl) (by simp) ?_;apply AllReadyH.cons rfl ?_ AllReadyH.nil;intro K hK;go_simp
     go_at_call 17
     refine(C5.out _ Ap cp P1.out).mono ?_;rintro e wn ⟨vq,rfl,O2,BB⟩;obtain⟨A2,ca2,rfl,I2⟩:=Ints.of_own O2;clear O2 P1;replace D:=D.step BB;replace TW:=TW.step BB;replace YW:=hid (YW.out.step BB);replace ZW:=hid (ZW.out.step BB);replace X1:=hid (X1.out.step BB);replace B:=hid (Aa B.out BB);clear BB;replace I2:=hid I2;clear hHeld;go_wp2_with fail;refine hK.out _ _ ⟨D,TW⟩ (fun hHeld=>?_);clear hK K
     try simp only[Act.put,sx]
     refine wpAnyH_ready (rs:=[16]) (by kernel_rfl) (by simp) ?_;apply AllReadyH.cons rfl ?_ AllReadyH.nil;intro K hK;go_simp
     go_at_call 16
     refine(C2.out _ TW A2 ca2 I2.out).mono ?_;rintro e wn ⟨rfl,BB⟩;clear I2;replace D:=D.step BB;replace TW:=TW.step BB;replace YW:=hid (YW.out.step BB);replace ZW:=hid (ZW.out.step BB);replace X1:=hid (X1.out.step BB);replace B:=hid (Aa B.out BB);clear BB;clear hHeld;go_wp2_with fail;refine hK.out _ _ ⟨D,TW⟩ (fun hHeld=>?_);clear hK K
     try simp only[Act.put,sx]
     refine tl 17 ?_ ?_ hHeld ?_;rotate_left
     . intro w hSw
       try dsimp only at hSw
       go_simp
       all_goals with_reducible rfl
     try simp only[Act.put,sx]
     refine wpAnyH_ready (rs:=[22]) (by kernel_rfl) (by simp) ?_;apply AllReadyH.cons rfl ?_ AllReadyH.nil;intro K hK;go_simp
     go_at_call 16
     refine(C3.out _ TW ZW.out).mono ?_;rintro e wn ⟨rfl,BB⟩;replace D:=D.step BB;replace TW:=TW.step BB;replace YW:=hid (YW.out.step BB);replace ZW:=hid (ZW.out.step BB);replace X1:=hid (X1.out.step BB);replace B:=hid (Aa B.out BB);clear BB;clear hHeld;go_wp2_with fail;refine hK.out _ _ ⟨D,TW⟩ (fun hHeld=>?_);clear hK K
     try simp only[Act.put,sx]
     refine tl 23 ?_ ?_ hHeld ?_;rotate_left
     . intro w hSw
       try dsimp only at hSw
       go_simp
       all_goals with_reducible rfl
     try simp only[Act.put,sx]
     refine wpAnyH_ready (rs:=[29]) (by kernel_rfl) (by simp) ?_;apply AllReadyH.cons rfl ?_ AllReadyH.nil;intro K hK;go_simp
     go_at_call 16
     refine(C4.out _ TW gx X1.out).mono ?_;rintro e wn ⟨rfl,BB⟩;clear X1;replace D:=D.step BB;replace TW:=TW.step BB;replace YW:=hid (YW.out.step BB);replace ZW:=hid (ZW.out.step BB);replace B:=hid (Aa B.out BB);clear BB;clear hHeld;go_wp2_with fail;refine hK.out _ _ ⟨D,TW⟩ (fun hHeld=>?_);clear hK K
     try simp only[Act.put,sx]
     refine tl 30 ?_ ?_ hHeld ?_;rotate_left
     . intro w hSw
       try dsimp only at hSw
       go_simp
       all_goals with_reducible rfl
     try simp only[Act.put,sx]
     refine tl 31 ?_ ?_ hHeld ?_;rotate_left
     . intro w hSw
       try dsimp only at hSw
       go_simp
       all_goals with_reducible rfl
     try simp only[Act.put,sx]
     refine wpAnyH_done (by kernel_rfl) ?_ _;go_wp2;go_ret;exact⟨by rw[<- et.out]; rfl,B.out⟩
 . skip
   dsimp only[List.getElem_toArray,List.getElem_cons_succ,List.getElem_cons_zero];rw[if_pos (by rfl)];refine BP (.tmp 33) rfl t rfl ?_;intro gx wn BB hgx X1;replace X1:=hid X1;replace D:=D.step BB;replace TW:=TW.step BB;replace YW:=hid (YW.out.step BB);replace ZW:=hid (ZW.out.step BB);replace B:=hid (Aa B.out BB);clear BB;clear hHeld;refine hK.out _ _ ⟨D,TW⟩ (fun hHeld=>?_);clear hK K
   try simp only[Act.put,sx]
   refine wpAnyH_ready (rs:=[8]) (by kernel_rfl) (by simp) ?_;apply AllReadyH.cons rfl ?_ AllReadyH.nil;intro K hK;dsimp only[List.getElem_toArray,List.getElem_cons_succ,List.getElem_cons_zero];rw[if_pos (by rfl)];refine GH (.tmp 9) (.tmp 11) (.tmp 13) rfl l p s rfl rfl rfl ?_;intro g1 wn BB hg1 L1;replace L1:=hid L1;replace D:=D.step BB;replace TW:=TW.step BB;replace YW:=hid (YW.out.step BB);replace ZW:=hid (ZW.out.step BB);replace X1:=hid (X1.out.step BB);replace B:=hid (Aa B.out BB);clear BB;clear hHeld;refine hK.out _ _ ⟨D,TW⟩ (fun hHeld=>?_);clear hK K
   try simp only[Act.put,sx]
   refine wpAnyH_ready (rs:=[9]) (by kernel_rfl) (by simp) ?_;apply AllReadyH.cons rfl ?_ AllReadyH.nil;intro K hK;go_simp
   go_at_call 16
   refine(C1.out _ TW g1 L1.out).mono ?_;rintro e wn ⟨rfl,BB⟩;clear L1;replace D:=D.step BB;replace TW:=TW.step BB;replace YW:=hid (YW.out.step BB);replace ZW:=hid (ZW.out.step BB);replace X1:=hid (X1.out.step BB);replace B:=hid (Aa B.out BB);clear BB;clear hHeld;go_wp2_with fail;refine hK.out _ _ ⟨D,TW⟩ (fun hHeld=>?_);clear hK K
   try simp only[Act.put,sx]
   refine wpAnyH_ready (rs:=[14]) (by kernel_rfl) (by simp) ?_;apply AllReadyH.cons rfl ?_ AllReadyH.nil;intro K hK;go_simp
   go_at_call 18
   refine(C0.out _ YW.out).mono ?_;rintro e wn ⟨vp,rfl,O1,BB⟩;obtain⟨Ap,cp,rfl,P1,_⟩:=Parts.of_own O1;clear O1;replace D:=D.step BB;replace TW:=TW.step BB;replace YW:=hid (YW.out.step BB);replace ZW:=hid (ZW.out.step BB);replace X1:=hid (X1.out.step BB);replace B:=hid (Aa B.out BB);clear BB;replace P1:=hid P1;clear hHeld;go_wp2_with fail;refine hK.out _ _ ⟨D,TW⟩ (fun hHeld=>?_);clear hK K
   try simp only[Act.put,sx]
   refine wpAnyH_ready (rs:=[15]) (by kernel_rfl) (by simp) ?_;apply AllReadyH.cons rfl ?_ AllReadyH.nil;intro K hK;go_simp
   go_at_call 17
   refine(C5.out _ Ap cp P1.out).mono ?_;rintro e wn ⟨vq,rfl,O2,BB⟩;obtain⟨A2,ca2,rfl,I2⟩:=Ints.of_own O2;clear O2 P1;replace D:=D.step BB;replace TW:=TW.step BB;replace YW:=hid (YW.out.step BB);replace ZW:=hid (ZW.out.step BB);replace X1:=hid (X1.out.step BB);replace B:=hid (Aa B.out BB);clear BB;replace I2:=hid I2;clear hHeld;go_wp2_with fail;refine hK.out _ _ ⟨D,TW⟩ (fun hHeld=>?_);clear hK K
   try simp only[Act.put,sx]
   refine wpAnyH_ready (rs:=[16]) (by kernel_rfl) (by simp) ?_;apply AllReadyH.cons rfl ?_ AllReadyH.nil;intro K hK;go_simp
   go_at_call 16
   refine(C2.out _ TW A2 ca2 I2.out).mono ?_;rintro e wn ⟨rfl,BB⟩;clear I2;replace D:=D.step BB;replace TW:=TW.step BB;replace YW:=hid (YW.out.step BB);replace ZW:=hid (ZW.out.step BB);replace X1:=hid (X1.out.step BB);replace B:=hid (Aa B.out BB);clear BB;clear hHeld;go_wp2_with fail;refine hK.out _ _ ⟨D,TW⟩ (fun hHeld=>?_);clear hK K
   try simp only[Act.put,sx]
   refine tl 17 ?_ ?_ hHeld ?_;rotate_left
   . intro w hSw
     try dsimp only at hSw
     go_simp
     all_goals with_reducible rfl
   try simp only[Act.put,sx]
   refine wpAnyH_ready (rs:=[22]) (by kernel_rfl) (by simp) ?_;apply AllReadyH.cons rfl ?_ AllReadyH.nil;intro K hK;go_simp
   go_at_call 16
   refine(C3.out _ TW ZW.out).mono ?_;rintro e wn ⟨rfl,BB⟩;replace D:=D.step BB;replace TW:=TW.step BB;replace YW:=hid (YW.out.step BB);replace ZW:=hid (ZW.out.step BB);replace X1:=hid (X1.out.step BB);replace B:=hid (Aa B.out BB);clear BB;clear hHeld;go_wp2_with fail;refine hK.out _ _ ⟨D,TW⟩ (fun hHeld=>?_);clear hK K
   try simp only[Act.put,sx]
   refine tl 23 ?_ ?_ hHeld ?_;rotate_left
   . intro w hSw
     try dsimp only at hSw
     go_simp
     all_goals with_reducible rfl
   try simp only[Act.put,sx]
   refine wpAnyH_ready (rs:=[29]) (by kernel_rfl) (by simp) ?_;apply AllReadyH.cons rfl ?_ AllReadyH.nil;intro K hK;go_simp
   go_at_call 16
   refine(C4.out _ TW gx X1.out).mono ?_;rintro e wn ⟨rfl,BB⟩;clear X1;replace D:=D.step BB;replace TW:=TW.step BB;replace YW:=hid (YW.out.step BB);replace ZW:=hid (ZW.out.step BB);replace B:=hid (Aa B.out BB);clear BB;clear hHeld;go_wp2_with fail;refine hK.out _ _ ⟨D,TW⟩ (fun hHeld=>?_);clear hK K
   try simp only[Act.put,sx]
   refine tl 30 ?_ ?_ hHeld ?_;rotate_left
   . intro w hSw
     try dsimp only at hSw
     go_simp
     all_goals with_reducible rfl
   try simp only[Act.put,sx]
   refine tl 31 ?_ ?_ hHeld ?_;rotate_left
   . intro w hSw
     try dsimp only at hSw
     go_simp
     all_goals with_reducible rfl
   try simp only[Act.put,sx]
   refine wpAnyH_done (by kernel_rfl) ?_ _;go_wp2;go_ret;exact⟨by rw[<- et.out]; rfl,B.out⟩
end Go.Proofs.YtgbiagonfbnooaaGreatDoor
