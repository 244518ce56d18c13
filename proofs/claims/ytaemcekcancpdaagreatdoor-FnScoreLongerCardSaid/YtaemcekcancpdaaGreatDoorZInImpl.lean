import Derived.Test.YtaemcekcancpdaaGreatDoorZBans
import Derived.Test.YtaemcekcancpdaaGreatDoorZInRow
import Derived.Test.YtaemcekcancpdaaGreatDoorZLevImpl
import Derived.Test.YtaemcekcancpdaaGreatDoorZ0
set_option linter.all false
set_option maxRecDepth 100000
set_option maxHeartbeats 8000000
open Go.Lib
namespace Go.Proofs.YtaemcekcancpdaaGreatDoor
open Go.RowKit
open Go.Maps
open M
theorem HJ(s p:Int)(z:Bool)(w:World):Calls Tryz.prog 69 #[DZ s p z] w fun e w'=>e=.returned (.bool (DY s p z))/\Below w.heap.size w w':=by
 cases z
 . by_cases s0:s< -1
   . have ds:decide ((-1:Int)<=s)=false:=decide_eq_false (by omega);have E:=hid (show DY s p false=false by simp[DY,Gs s0]);go_enter Tryz.func69,Tryz.ntmps69;go_wp2;go_ret;exact⟨Aq (by rw[E.out]),Aa (Ac w) _⟩
   have s0:-1<=s:=by omega
   by_cases s1:1<s
   . have ds:decide (s<=(1:Int))=false:=decide_eq_false (by omega);have E:=hid (show DY s p false=false by simp[DY,EU s1]);go_enter Tryz.func69,Tryz.ntmps69;go_wp2;go_ret;exact⟨Aq (by rw[E.out]),Aa (Ac w) _⟩
   have s1:s<=1:=by omega
   by_cases p0:p<0
   . have dp:decide ((0:Int)<=p)=false:=decide_eq_false (by omega);have E:=hid (show DY s p false=false by simp[DY,Gs p0]);go_enter Tryz.func69,Tryz.ntmps69;go_wp2;go_ret;exact⟨Aq (by rw[E.out]),Aa (Ac w) _⟩
   have p0:0<=p:=by omega
   by_cases p1:2<p
   . have dp:decide (p<=(2:Int))=false:=decide_eq_false (by omega);have E:=hid (show DY s p false=false by simp[DY,EU p1]);go_enter Tryz.func69,Tryz.ntmps69;go_wp2;go_ret;exact⟨Aq (by rw[E.out]),Aa (Ac w) _⟩
   have p1:p<=2:=by omega
   have E:=hid (show DY s p false=true by simp[DY,BR (n:=s) (lo:=-1) (hi:=1) ⟨s0,s1⟩,BR (n:=p) (lo:=0) (hi:=2) ⟨p0,p1⟩]);go_enter Tryz.func69,Tryz.ntmps69;go_wp2;go_ret;exact⟨Aq (by rw[E.out]),Aa (Ac w) _⟩
 . by_cases hs:s=0
   . subst hs;by_cases hp:p=0
     . subst hp;have E:=hid (show DY 0 0 true=true by decide);go_enter Tryz.func69,Tryz.ntmps69;go_wp2;go_ret;exact⟨Aq (by rw[E.out]),Aa (Ac w) _⟩
     . have dp:(p==0)=false:=beq_eq_false_iff_ne.2 hp;have E:=hid (show DY 0 p true=false by simp[DY,hp]);clear hp;go_enter Tryz.func69,Tryz.ntmps69;go_wp2;go_ret;exact⟨Aq (by rw[E.out]),Aa (Ac w) _⟩
   . have ds:(s==0)=false:=beq_eq_false_iff_ne.2 hs;have E:=hid (show DY s p true=false by simp[DY,hs]);clear hs;go_enter Tryz.func69,Tryz.ntmps69;go_wp2;go_ret;exact⟨Aq (by rw[E.out]),Aa (Ac w) _⟩
theorem AN{H:Type}{P:Program}{w:World}{o:Oper}{a:Act}{K':Act->World->Prop}{Q:Exit->Act->World->Prop}(t:TypeId)(m x v:Operand)(hop:o.op=Op.insert t m x v)
 {k e:TypeId} (K:Keyed P k) (ht:P.underlying t=some (.map k e)) (R:Value->Option (DataW H × List MemPlace)) (b n:Nat) (D:DataW H)
 (hm:a.eval m=.map (some b)) (hown:w.ownsMap P k R b n D) (hn:n<maxLen) (key val:Value) (kl:Lit) (hx:a.eval x=key) (hv:a.eval v=val) (hkey:keyOf P k key=some kl)
 (d:DataW H) (ps:List MemPlace) (hval:R val=some (d,ps))
 (hK:∀ w',w'.ownsMap P k R b (n+1) (D.put kl d)->w.grownBy w' (some b)->K' (a.put o.dst undef) w'):o.wp P a w K' Q:=by
 obtain⟨w',hrun,r1,r2⟩:=hown.update K ht hn hkey hval;unfold Oper.wp;simp[execOp,hop,hm,hx,hv,hrun,Result.andThen];exact hK w' r1 r2
abbrev MapAt(w:World)(b n:Nat)(D:DataW Unit):Prop:=w.ownsMap (H:=Unit) Tryz.prog 3 (plainElem Tryz.prog 4) b n D
theorem MapAt.step{w w':World}{b n:Nat}{D:DataW Unit}(h:MapAt w b n D)(B:Below w.heap.size w w'):MapAt w' b n D:=by
 have hl:=World.ownsMap.lt h;obtain⟨es,clock,hb,F,hs,hD⟩:=h;exact⟨es,clock,(B.block b hl).trans hb,F,hs,hD⟩
theorem JM{w:World}{o:Oper}{a:Act}{K:Act->World->Prop}{Q:Exit->Act->World->Prop}(t:TypeId)(hop:o.op=Op.makeMap t none)
 (h:∀(b:Nat) (w':World),Below w.heap.size w w'->w.heap.size<=b->MapAt w' b 0 (.map [])->K (a.put o.dst (.map (some b))) w'):o.wp Tryz.prog a w K Q:=by
 unfold Oper.wp;simp[execOp,hop,run_makeMap,Result.andThen];exact h _ _ (Aa (Ac w) _) (Nat.le_refl _) (World.ownsMap_made w _ _ _)
theorem GU(x y:Bool):((DataW.map []:DataW Unit).put (.int .i64 1) (.lit (.bool x))).put (.int .i64 2) (.lit (.bool y))=Ud x y:=rfl
theorem GV(x y:Bool):((DataW.map []:DataW Unit).put (.int .i64 2) (.lit (.bool y))).put (.int .i64 1) (.lit (.bool x))=Ud x y:=rfl
theorem Ps(i t x y:Int)(A:Option Addr)(n c:Nat)(G:Option Addr)(m kk:Nat)(fp fq fs fz b:Int)(ws gs:List Bx)(w:World)(I:Boxes w A n ws)(J:Boxes w G m gs)(hn:n<=281474976710656)(hm:m<=281474976710656) :
 Calls Tryz.prog 54 #[CX i t x y A n c G m kk fp fq fs fz b] w fun e w'=>∃ bm,e=.returned (.map (some bm))/\Bans w' bm (L5 i t x y ws gs fp fq fs fz b 1) (L5 i t x y ws gs fp fq fs fz b 2)/\Below w.heap.size w w':=by
 have C1:=fun(W:World) (Z:Boxes W A n ws) (Y:Boxes W G m gs)=>HV i t x y A n c G m kk fp fq fs fz b ws gs 1 W Z Y hn hm;have C2:=fun(W:World) (Z:Boxes W A n ws) (Y:Boxes W G m gs)=>HV i t x y A n c G m kk fp fq fs fz b ws gs 2 W Z Y hn hm;generalize L5 i t x y ws gs fp fq fs fz b 1=f1 at *;generalize L5 i t x y ws gs fp fq fs fz b 2=f2 at *;have C1:=hid C1;have C2:=hid C2;have L:CellsAt (w.alloc (.cells #[.int .i64 i,.int .i64 t,.int .i64 x,.int .i64 y,.slice A n c,.slice G m kk,.int .i64 fp,.int .i64 fq,.int .i64 fs,.int .i64 fz,.int .i64 b] 29)) w.heap.size (AX i t x y A n c G m kk fp fq fs fz b):=CellsAt.new w _ _ _ rfl
 have Hb:=hid (Aa (Ac w) (.cells #[.int .i64 i,.int .i64 t,.int .i64 x,.int .i64 y,.slice A n c,.slice G m kk,.int .i64 fp,.int .i64 fq,.int .i64 fs,.int .i64 fz,.int .i64 b] 29));have I:=hid I;have J:=hid J;go_enter Tryz.func54,Tryz.ntmps54;go_upto_region 1 with fail;refine wp_region_held_drew (S:=fun w'=>CellsAt w' w.heap.size (AX i t x y A n c G m kk fp fq fs fz b)) (by kernel_rfl) L.drew (fun hHeld=>?_);replace L:=L.drew;replace Hb:=hid (AE Hb.out)
 refine wpAnyH_take (i:=1) (oi:=_) (v:=.agg (AX i t x y A n c G m kk fp fq fs fz b).toArray) rfl (by kernel_rfl) (by kernel_rfl) (by kernel_rfl) (fun _ _ _ h=>h) (yieldsIf_load_mid (by rfl) 29 (.tmp 1) rfl w.heap.size 0 rfl (AX i t x y A n c G m kk fp fq fs fz b) _ (fun W hS=>hS.range) Tryz.underlying29 rfl Ad) hHeld ?_
 try simp only[Act.put,sx]
 refine wpAnyH_take (i:=4) (oi:=_) (v:=.agg (AX i t x y A n c G m kk fp fq fs fz b).toArray) rfl (by kernel_rfl) (by kernel_rfl) (by kernel_rfl) (fun _ _ _ h=>h) (yieldsIf_load_mid (by rfl) 29 (.tmp 1) rfl w.heap.size 0 rfl (AX i t x y A n c G m kk fp fq fs fz b) _ (fun W hS=>hS.range) Tryz.underlying29 rfl Ad) hHeld ?_
 try simp only[Act.put,sx]
 refine wpAnyH_ready (rs:=[0,2]) (by kernel_rfl) (by simp) ?_;refine(AllReadyH.cons (o:=_) rfl (fun K hK=>?_) (AllReadyH.cons (o:=_) rfl (fun K hK=>?_) AllReadyH.nil))
 . skip
   dsimp only[List.getElem_toArray,List.getElem_cons_succ,List.getElem_cons_zero];rw[if_pos (by rfl)];refine JM 89 rfl ?_;intro bm wn B hbm MP;replace hbm:=Nat.lt_of_lt_of_le L.lt hbm;replace L:=L.step B;replace Hb:=hid (Ab Hb.out B);clear B hHeld;refine hK.out _ _ L (fun hHeld=>?_);clear hK K
   try simp only[Act.put,sx]
   refine wpAnyH_ready (rs:=[2]) (by kernel_rfl) (by simp) ?_;apply AllReadyH.cons rfl ?_ AllReadyH.nil;intro K hK;go_simp
   go_at_call 68
   refine(C1.out _ (I.out.step Hb.out) (J.out.step Hb.out)).mono ?_;rintro e wn ⟨rfl,B⟩;replace L:=L.step B;replace Hb:=hid (Ab Hb.out B);replace MP:=MapAt.step MP B;clear B;clear hHeld;go_wp2_with fail;refine hK.out _ _ L (fun hHeld=>?_);clear hK K
   try simp only[Act.put,sx]
   refine wpAnyH_ready (rs:=[3,5]) (by kernel_rfl) (by simp) ?_;refine(AllReadyH.cons (o:=_) rfl (fun K hK=>?_) (AllReadyH.cons (o:=_) rfl (fun K hK=>?_) AllReadyH.nil))
   . skip
     dsimp only[List.getElem_toArray,List.getElem_cons_succ,List.getElem_cons_zero];rw[if_pos (by rfl)];refine AN 89 (.tmp 3) (.const (.int .i64 1)) (.tmp 5) rfl BJ Tryz.underlying89 _ bm 0 _ rfl MP (by unfold maxLen; omega) (.int .i64 1) (.bool f1) (.int .i64 1) rfl rfl (keyOf_int_mk Tryz.underlying3 (by decide)) (.lit (.bool f1)) [] (plainElem_bool Tryz.underlying4 _) ?_;intro wn MN GN;replace L:=L.grown GN (by intro e; cases e; omega);replace Hb:=hid (Hb.out.grown GN Hb.out.size (fun k e=>by cases e; omega));replace MP:=MN;clear MN GN hHeld;refine hK.out _ _ L (fun hHeld=>?_);clear hK K
     try simp only[Act.put,sx]
     refine wpAnyH_ready (rs:=[5]) (by kernel_rfl) (by simp) ?_;apply AllReadyH.cons rfl ?_ AllReadyH.nil;intro K hK;go_simp
     go_at_call 68
     refine(C2.out _ (I.out.step Hb.out) (J.out.step Hb.out)).mono ?_;rintro e wn ⟨rfl,B⟩;replace L:=L.step B;replace Hb:=hid (Ab Hb.out B);replace MP:=MapAt.step MP B;clear B;clear hHeld;go_wp2_with fail;refine hK.out _ _ L (fun hHeld=>?_);clear hK K
     try simp only[Act.put,sx]
     refine wpAnyH_ready (rs:=[6]) (by kernel_rfl) (by simp) ?_;apply AllReadyH.cons rfl ?_ AllReadyH.nil;intro K hK;dsimp only[List.getElem_toArray,List.getElem_cons_succ,List.getElem_cons_zero];rw[if_pos (by rfl)];refine AN 89 (.tmp 3) (.const (.int .i64 2)) (.tmp 7) rfl BJ Tryz.underlying89 _ bm (0+1) _ rfl MP (by unfold maxLen; omega) (.int .i64 2) (.bool f2) (.int .i64 2) rfl rfl (keyOf_int_mk Tryz.underlying3 (by decide)) (.lit (.bool f2)) [] (plainElem_bool Tryz.underlying4 _) ?_;intro wn MN GN;replace L:=L.grown GN (by intro e; cases e; omega);replace Hb:=hid (Hb.out.grown GN Hb.out.size (fun k e=>by cases e; omega));replace MP:=MN;clear MN GN hHeld
     refine hK.out _ _ L (fun hHeld=>?_);clear hK K
     try simp only[Act.put,sx]
     refine tl 7 ?_ ?_ hHeld ?_;rotate_left
     . intro w hSw
       try dsimp only at hSw
       go_simp
       all_goals with_reducible rfl
     try simp only[Act.put,sx]
     refine tl 8 ?_ ?_ hHeld ?_;rotate_left
     . intro w hSw
       try dsimp only at hSw
       go_simp
       all_goals with_reducible rfl
     try simp only[Act.put,sx]
     refine wpAnyH_done (by kernel_rfl) ?_ _;go_wp2;go_ret;exact⟨bm,rfl,(by first | (rw[GU] at MP; exact MP) | (rw[GV] at MP; exact MP)),Hb.out⟩
   . skip
     go_simp
     go_at_call 68
     refine(C2.out _ (I.out.step Hb.out) (J.out.step Hb.out)).mono ?_;rintro e wn ⟨rfl,B⟩;replace L:=L.step B;replace Hb:=hid (Ab Hb.out B);replace MP:=MapAt.step MP B;clear B;clear hHeld;go_wp2_with fail;refine hK.out _ _ L (fun hHeld=>?_);clear hK K
     try simp only[Act.put,sx]
     refine wpAnyH_ready (rs:=[3,6]) (by kernel_rfl) (by simp) ?_;refine(AllReadyH.cons (o:=_) rfl (fun K hK=>?_) (AllReadyH.cons (o:=_) rfl (fun K hK=>?_) AllReadyH.nil))
     . skip
       dsimp only[List.getElem_toArray,List.getElem_cons_succ,List.getElem_cons_zero];rw[if_pos (by rfl)];refine AN 89 (.tmp 3) (.const (.int .i64 1)) (.tmp 5) rfl BJ Tryz.underlying89 _ bm 0 _ rfl MP (by unfold maxLen; omega) (.int .i64 1) (.bool f1) (.int .i64 1) rfl rfl (keyOf_int_mk Tryz.underlying3 (by decide)) (.lit (.bool f1)) [] (plainElem_bool Tryz.underlying4 _) ?_;intro wn MN GN;replace L:=L.grown GN (by intro e; cases e; omega);replace Hb:=hid (Hb.out.grown GN Hb.out.size (fun k e=>by cases e; omega));replace MP:=MN;clear MN GN hHeld;refine hK.out _ _ L (fun hHeld=>?_);clear hK K
       try simp only[Act.put,sx]
       refine wpAnyH_ready (rs:=[6]) (by kernel_rfl) (by simp) ?_;apply AllReadyH.cons rfl ?_ AllReadyH.nil;intro K hK;dsimp only[List.getElem_toArray,List.getElem_cons_succ,List.getElem_cons_zero];rw[if_pos (by rfl)];refine AN 89 (.tmp 3) (.const (.int .i64 2)) (.tmp 7) rfl BJ Tryz.underlying89 _ bm (0+1) _ rfl MP (by unfold maxLen; omega) (.int .i64 2) (.bool f2) (.int .i64 2) rfl rfl (keyOf_int_mk Tryz.underlying3 (by decide)) (.lit (.bool f2)) [] (plainElem_bool Tryz.underlying4 _) ?_;intro wn MN GN;replace L:=L.grown GN (by intro e; cases e; omega);replace Hb:=hid (Hb.out.grown GN Hb.out.size (fun k e=>by cases e; omega));replace MP:=MN;clear MN GN hHeld
       refine hK.out _ _ L (fun hHeld=>?_);clear hK K
       try simp only[Act.put,sx]
       refine tl 7 ?_ ?_ hHeld ?_;rotate_left
       . intro w hSw
         try dsimp only at hSw
         go_simp
         all_goals with_reducible rfl
       try simp only[Act.put,sx]
       refine tl 8 ?_ ?_ hHeld ?_;rotate_left
       . intro w hSw
         try dsimp only at hSw
         go_simp
         all_goals with_reducible rfl
       try simp only[Act.put,sx]
       refine wpAnyH_done (by kernel_rfl) ?_ _;go_wp2;go_ret;exact⟨bm,rfl,(by first | (rw[GU] at MP; exact MP) | (rw[GV] at MP; exact MP)),Hb.out⟩
     . skip
       dsimp only[List.getElem_toArray,List.getElem_cons_succ,List.getElem_cons_zero];rw[if_pos (by rfl)];refine AN 89 (.tmp 3) (.const (.int .i64 2)) (.tmp 7) rfl BJ Tryz.underlying89 _ bm 0 _ rfl MP (by unfold maxLen; omega) (.int .i64 2) (.bool f2) (.int .i64 2) rfl rfl (keyOf_int_mk Tryz.underlying3 (by decide)) (.lit (.bool f2)) [] (plainElem_bool Tryz.underlying4 _) ?_;intro wn MN GN;replace L:=L.grown GN (by intro e; cases e; omega);replace Hb:=hid (Hb.out.grown GN Hb.out.size (fun k e=>by cases e; omega));replace MP:=MN;clear MN GN hHeld;refine hK.out _ _ L (fun hHeld=>?_);clear hK K
       try simp only[Act.put,sx]
       refine wpAnyH_ready (rs:=[3]) (by kernel_rfl) (by simp) ?_;apply AllReadyH.cons rfl ?_ AllReadyH.nil;intro K hK;dsimp only[List.getElem_toArray,List.getElem_cons_succ,List.getElem_cons_zero];rw[if_pos (by rfl)];refine AN 89 (.tmp 3) (.const (.int .i64 1)) (.tmp 5) rfl BJ Tryz.underlying89 _ bm (0+1) _ rfl MP (by unfold maxLen; omega) (.int .i64 1) (.bool f1) (.int .i64 1) rfl rfl (keyOf_int_mk Tryz.underlying3 (by decide)) (.lit (.bool f1)) [] (plainElem_bool Tryz.underlying4 _) ?_;intro wn MN GN;replace L:=L.grown GN (by intro e; cases e; omega);replace Hb:=hid (Hb.out.grown GN Hb.out.size (fun k e=>by cases e; omega));replace MP:=MN;clear MN GN hHeld
       refine hK.out _ _ L (fun hHeld=>?_);clear hK K
       try simp only[Act.put,sx]
       refine tl 7 ?_ ?_ hHeld ?_;rotate_left
       . intro w hSw
         try dsimp only at hSw
         go_simp
         all_goals with_reducible rfl
       try simp only[Act.put,sx]
       refine tl 8 ?_ ?_ hHeld ?_;rotate_left
       . intro w hSw
         try dsimp only at hSw
         go_simp
         all_goals with_reducible rfl
       try simp only[Act.put,sx]
       refine wpAnyH_done (by kernel_rfl) ?_ _;go_wp2;go_ret;exact⟨bm,rfl,(by first | (rw[GU] at MP; exact MP) | (rw[GV] at MP; exact MP)),Hb.out⟩
 . skip
   go_simp
   go_at_call 68
   refine(C1.out _ (I.out.step Hb.out) (J.out.step Hb.out)).mono ?_;rintro e wn ⟨rfl,B⟩;replace L:=L.step B;replace Hb:=hid (Ab Hb.out B);clear B;clear hHeld;go_wp2_with fail;refine hK.out _ _ L (fun hHeld=>?_);clear hK K
   try simp only[Act.put,sx]
   refine wpAnyH_ready (rs:=[0,5]) (by kernel_rfl) (by simp) ?_;refine(AllReadyH.cons (o:=_) rfl (fun K hK=>?_) (AllReadyH.cons (o:=_) rfl (fun K hK=>?_) AllReadyH.nil))
   . skip
     dsimp only[List.getElem_toArray,List.getElem_cons_succ,List.getElem_cons_zero];rw[if_pos (by rfl)];refine JM 89 rfl ?_;intro bm wn B hbm MP;replace hbm:=Nat.lt_of_lt_of_le L.lt hbm;replace L:=L.step B;replace Hb:=hid (Ab Hb.out B);clear B hHeld;refine hK.out _ _ L (fun hHeld=>?_);clear hK K
     try simp only[Act.put,sx]
     refine wpAnyH_ready (rs:=[3,5]) (by kernel_rfl) (by simp) ?_;refine(AllReadyH.cons (o:=_) rfl (fun K hK=>?_) (AllReadyH.cons (o:=_) rfl (fun K hK=>?_) AllReadyH.nil))
     . skip
       dsimp only[List.getElem_toArray,List.getElem_cons_succ,List.getElem_cons_zero];rw[if_pos (by rfl)];refine AN 89 (.tmp 3) (.const (.int .i64 1)) (.tmp 5) rfl BJ Tryz.underlying89 _ bm 0 _ rfl MP (by unfold maxLen; omega) (.int .i64 1) (.bool f1) (.int .i64 1) rfl rfl (keyOf_int_mk Tryz.underlying3 (by decide)) (.lit (.bool f1)) [] (plainElem_bool Tryz.underlying4 _) ?_;intro wn MN GN;replace L:=L.grown GN (by intro e; cases e; omega);replace Hb:=hid (Hb.out.grown GN Hb.out.size (fun k e=>by cases e; omega));replace MP:=MN;clear MN GN hHeld;refine hK.out _ _ L (fun hHeld=>?_);clear hK K
       try simp only[Act.put,sx]
       refine wpAnyH_ready (rs:=[5]) (by kernel_rfl) (by simp) ?_;apply AllReadyH.cons rfl ?_ AllReadyH.nil;intro K hK;go_simp
       go_at_call 68
       refine(C2.out _ (I.out.step Hb.out) (J.out.step Hb.out)).mono ?_;rintro e wn ⟨rfl,B⟩;replace L:=L.step B;replace Hb:=hid (Ab Hb.out B);replace MP:=MapAt.step MP B;clear B;clear hHeld;go_wp2_with fail;refine hK.out _ _ L (fun hHeld=>?_);clear hK K
       try simp only[Act.put,sx]
       refine wpAnyH_ready (rs:=[6]) (by kernel_rfl) (by simp) ?_;apply AllReadyH.cons rfl ?_ AllReadyH.nil;intro K hK;dsimp only[List.getElem_toArray,List.getElem_cons_succ,List.getElem_cons_zero];rw[if_pos (by rfl)];refine AN 89 (.tmp 3) (.const (.int .i64 2)) (.tmp 7) rfl BJ Tryz.underlying89 _ bm (0+1) _ rfl MP (by unfold maxLen; omega) (.int .i64 2) (.bool f2) (.int .i64 2) rfl rfl (keyOf_int_mk Tryz.underlying3 (by decide)) (.lit (.bool f2)) [] (plainElem_bool Tryz.underlying4 _) ?_;intro wn MN GN;replace L:=L.grown GN (by intro e; cases e; omega);replace Hb:=hid (Hb.out.grown GN Hb.out.size (fun k e=>by cases e; omega));replace MP:=MN;clear MN GN hHeld
       refine hK.out _ _ L (fun hHeld=>?_);clear hK K
       try simp only[Act.put,sx]
       refine tl 7 ?_ ?_ hHeld ?_;rotate_left
       . intro w hSw
         try dsimp only at hSw
         go_simp
         all_goals with_reducible rfl
       try simp only[Act.put,sx]
       refine tl 8 ?_ ?_ hHeld ?_;rotate_left
       . intro w hSw
         try dsimp only at hSw
         go_simp
         all_goals with_reducible rfl
       try simp only[Act.put,sx]
       refine wpAnyH_done (by kernel_rfl) ?_ _;go_wp2;go_ret;exact⟨bm,rfl,(by first | (rw[GU] at MP; exact MP) | (rw[GV] at MP; exact MP)),Hb.out⟩
     . skip
       go_simp
       go_at_call 68
       refine(C2.out _ (I.out.step Hb.out) (J.out.step Hb.out)).mono ?_;rintro e wn ⟨rfl,B⟩;replace L:=L.step B;replace Hb:=hid (Ab Hb.out B);replace MP:=MapAt.step MP B;clear B;clear hHeld;go_wp2_with fail;refine hK.out _ _ L (fun hHeld=>?_);clear hK K
       try simp only[Act.put,sx]
       refine wpAnyH_ready (rs:=[3,6]) (by kernel_rfl) (by simp) ?_;refine(AllReadyH.cons (o:=_) rfl (fun K hK=>?_) (AllReadyH.cons (o:=_) rfl (fun K hK=>?_) AllReadyH.nil))
       . skip
         dsimp only[List.getElem_toArray,List.getElem_cons_succ,List.getElem_cons_zero];rw[if_pos (by rfl)];refine AN 89 (.tmp 3) (.const (.int .i64 1)) (.tmp 5) rfl BJ Tryz.underlying89 _ bm 0 _ rfl MP (by unfold maxLen; omega) (.int .i64 1) (.bool f1) (.int .i64 1) rfl rfl (keyOf_int_mk Tryz.underlying3 (by decide)) (.lit (.bool f1)) [] (plainElem_bool Tryz.underlying4 _) ?_;intro wn MN GN;replace L:=L.grown GN (by intro e; cases e; omega);replace Hb:=hid (Hb.out.grown GN Hb.out.size (fun k e=>by cases e; omega));replace MP:=MN;clear MN GN hHeld;refine hK.out _ _ L (fun hHeld=>?_);clear hK K
         try simp only[Act.put,sx]
         refine wpAnyH_ready (rs:=[6]) (by kernel_rfl) (by simp) ?_;apply AllReadyH.cons rfl ?_ AllReadyH.nil;intro K hK;dsimp only[List.getElem_toArray,List.getElem_cons_succ,List.getElem_cons_zero];rw[if_pos (by rfl)];refine AN 89 (.tmp 3) (.const (.int .i64 2)) (.tmp 7) rfl BJ Tryz.underlying89 _ bm (0+1) _ rfl MP (by unfold maxLen; omega) (.int .i64 2) (.bool f2) (.int .i64 2) rfl rfl (keyOf_int_mk Tryz.underlying3 (by decide)) (.lit (.bool f2)) [] (plainElem_bool Tryz.underlying4 _) ?_;intro wn MN GN;replace L:=L.grown GN (by intro e; cases e; omega);replace Hb:=hid (Hb.out.grown GN Hb.out.size (fun k e=>by cases e; omega));replace MP:=MN
         clear MN GN hHeld;refine hK.out _ _ L (fun hHeld=>?_);clear hK K
         try simp only[Act.put,sx]
         refine tl 7 ?_ ?_ hHeld ?_;rotate_left
         . intro w hSw
           try dsimp only at hSw
           go_simp
           all_goals with_reducible rfl
         try simp only[Act.put,sx]
         refine tl 8 ?_ ?_ hHeld ?_;rotate_left
         . intro w hSw
           try dsimp only at hSw
           go_simp
           all_goals with_reducible rfl
         try simp only[Act.put,sx]
         refine wpAnyH_done (by kernel_rfl) ?_ _;go_wp2;go_ret;exact⟨bm,rfl,(by first | (rw[GU] at MP; exact MP) | (rw[GV] at MP; exact MP)),Hb.out⟩
       . skip
         dsimp only[List.getElem_toArray,List.getElem_cons_succ,List.getElem_cons_zero];rw[if_pos (by rfl)];refine AN 89 (.tmp 3) (.const (.int .i64 2)) (.tmp 7) rfl BJ Tryz.underlying89 _ bm 0 _ rfl MP (by unfold maxLen; omega) (.int .i64 2) (.bool f2) (.int .i64 2) rfl rfl (keyOf_int_mk Tryz.underlying3 (by decide)) (.lit (.bool f2)) [] (plainElem_bool Tryz.underlying4 _) ?_;intro wn MN GN;replace L:=L.grown GN (by intro e; cases e; omega);replace Hb:=hid (Hb.out.grown GN Hb.out.size (fun k e=>by cases e; omega));replace MP:=MN;clear MN GN hHeld;refine hK.out _ _ L (fun hHeld=>?_);clear hK K
         try simp only[Act.put,sx]
         refine wpAnyH_ready (rs:=[3]) (by kernel_rfl) (by simp) ?_;apply AllReadyH.cons rfl ?_ AllReadyH.nil;intro K hK;dsimp only[List.getElem_toArray,List.getElem_cons_succ,List.getElem_cons_zero];rw[if_pos (by rfl)];refine AN 89 (.tmp 3) (.const (.int .i64 1)) (.tmp 5) rfl BJ Tryz.underlying89 _ bm (0+1) _ rfl MP (by unfold maxLen; omega) (.int .i64 1) (.bool f1) (.int .i64 1) rfl rfl (keyOf_int_mk Tryz.underlying3 (by decide)) (.lit (.bool f1)) [] (plainElem_bool Tryz.underlying4 _) ?_;intro wn MN GN;replace L:=L.grown GN (by intro e; cases e; omega);replace Hb:=hid (Hb.out.grown GN Hb.out.size (fun k e=>by cases e; omega));replace MP:=MN
         clear MN GN hHeld;refine hK.out _ _ L (fun hHeld=>?_);clear hK K
         try simp only[Act.put,sx]
         refine tl 7 ?_ ?_ hHeld ?_;rotate_left
         . intro w hSw
           try dsimp only at hSw
           go_simp
           all_goals with_reducible rfl
         try simp only[Act.put,sx]
         refine tl 8 ?_ ?_ hHeld ?_;rotate_left
         . intro w hSw
           try dsimp only at hSw
           go_simp
           all_goals with_reducible rfl
         try simp only[Act.put,sx]
         refine wpAnyH_done (by kernel_rfl) ?_ _;go_wp2;go_ret;exact⟨bm,rfl,(by first | (rw[GU] at MP; exact MP) | (rw[GV] at MP; exact MP)),Hb.out⟩
   . skip
     go_simp
     go_at_call 68
     refine(C2.out _ (I.out.step Hb.out) (J.out.step Hb.out)).mono ?_;rintro e wn ⟨rfl,B⟩;replace L:=L.step B;replace Hb:=hid (Ab Hb.out B);clear B;clear hHeld;go_wp2_with fail;refine hK.out _ _ L (fun hHeld=>?_);clear hK K
     try simp only[Act.put,sx]
     refine wpAnyH_ready (rs:=[0]) (by kernel_rfl) (by simp) ?_;apply AllReadyH.cons rfl ?_ AllReadyH.nil;intro K hK;dsimp only[List.getElem_toArray,List.getElem_cons_succ,List.getElem_cons_zero];rw[if_pos (by rfl)];refine JM 89 rfl ?_;intro bm wn B hbm MP;replace hbm:=Nat.lt_of_lt_of_le L.lt hbm;replace L:=L.step B;replace Hb:=hid (Ab Hb.out B);clear B hHeld;refine hK.out _ _ L (fun hHeld=>?_);clear hK K
     try simp only[Act.put,sx]
     refine wpAnyH_ready (rs:=[3,6]) (by kernel_rfl) (by simp) ?_;refine(AllReadyH.cons (o:=_) rfl (fun K hK=>?_) (AllReadyH.cons (o:=_) rfl (fun K hK=>?_) AllReadyH.nil))
     . skip
       dsimp only[List.getElem_toArray,List.getElem_cons_succ,List.getElem_cons_zero];rw[if_pos (by rfl)];refine AN 89 (.tmp 3) (.const (.int .i64 1)) (.tmp 5) rfl BJ Tryz.underlying89 _ bm 0 _ rfl MP (by unfold maxLen; omega) (.int .i64 1) (.bool f1) (.int .i64 1) rfl rfl (keyOf_int_mk Tryz.underlying3 (by decide)) (.lit (.bool f1)) [] (plainElem_bool Tryz.underlying4 _) ?_;intro wn MN GN;replace L:=L.grown GN (by intro e; cases e; omega);replace Hb:=hid (Hb.out.grown GN Hb.out.size (fun k e=>by cases e; omega));replace MP:=MN;clear MN GN hHeld;refine hK.out _ _ L (fun hHeld=>?_);clear hK K
       try simp only[Act.put,sx]
       refine wpAnyH_ready (rs:=[6]) (by kernel_rfl) (by simp) ?_;apply AllReadyH.cons rfl ?_ AllReadyH.nil;intro K hK;dsimp only[List.getElem_toArray,List.getElem_cons_succ,List.getElem_cons_zero];rw[if_pos (by rfl)];refine AN 89 (.tmp 3) (.const (.int .i64 2)) (.tmp 7) rfl BJ Tryz.underlying89 _ bm (0+1) _ rfl MP (by unfold maxLen; omega) (.int .i64 2) (.bool f2) (.int .i64 2) rfl rfl (keyOf_int_mk Tryz.underlying3 (by decide)) (.lit (.bool f2)) [] (plainElem_bool Tryz.underlying4 _) ?_;intro wn MN GN;replace L:=L.grown GN (by intro e; cases e; omega);replace Hb:=hid (Hb.out.grown GN Hb.out.size (fun k e=>by cases e; omega));replace MP:=MN;clear MN GN hHeld
       refine hK.out _ _ L (fun hHeld=>?_);clear hK K
       try simp only[Act.put,sx]
       refine tl 7 ?_ ?_ hHeld ?_;rotate_left
       . intro w hSw
         try dsimp only at hSw
         go_simp
         all_goals with_reducible rfl
       try simp only[Act.put,sx]
       refine tl 8 ?_ ?_ hHeld ?_;rotate_left
       . intro w hSw
         try dsimp only at hSw
         go_simp
         all_goals with_reducible rfl
       try simp only[Act.put,sx]
       refine wpAnyH_done (by kernel_rfl) ?_ _;go_wp2;go_ret;exact⟨bm,rfl,(by first | (rw[GU] at MP; exact MP) | (rw[GV] at MP; exact MP)),Hb.out⟩
     . skip
       dsimp only[List.getElem_toArray,List.getElem_cons_succ,List.getElem_cons_zero];rw[if_pos (by rfl)];refine AN 89 (.tmp 3) (.const (.int .i64 2)) (.tmp 7) rfl BJ Tryz.underlying89 _ bm 0 _ rfl MP (by unfold maxLen; omega) (.int .i64 2) (.bool f2) (.int .i64 2) rfl rfl (keyOf_int_mk Tryz.underlying3 (by decide)) (.lit (.bool f2)) [] (plainElem_bool Tryz.underlying4 _) ?_;intro wn MN GN;replace L:=L.grown GN (by intro e; cases e; omega);replace Hb:=hid (Hb.out.grown GN Hb.out.size (fun k e=>by cases e; omega));replace MP:=MN;clear MN GN hHeld;refine hK.out _ _ L (fun hHeld=>?_);clear hK K
       try simp only[Act.put,sx]
       refine wpAnyH_ready (rs:=[3]) (by kernel_rfl) (by simp) ?_;apply AllReadyH.cons rfl ?_ AllReadyH.nil;intro K hK;dsimp only[List.getElem_toArray,List.getElem_cons_succ,List.getElem_cons_zero];rw[if_pos (by rfl)];refine AN 89 (.tmp 3) (.const (.int .i64 1)) (.tmp 5) rfl BJ Tryz.underlying89 _ bm (0+1) _ rfl MP (by unfold maxLen; omega) (.int .i64 1) (.bool f1) (.int .i64 1) rfl rfl (keyOf_int_mk Tryz.underlying3 (by decide)) (.lit (.bool f1)) [] (plainElem_bool Tryz.underlying4 _) ?_;intro wn MN GN;replace L:=L.grown GN (by intro e; cases e; omega);replace Hb:=hid (Hb.out.grown GN Hb.out.size (fun k e=>by cases e; omega));replace MP:=MN;clear MN GN hHeld
       refine hK.out _ _ L (fun hHeld=>?_);clear hK K
       try simp only[Act.put,sx]
       refine tl 7 ?_ ?_ hHeld ?_;rotate_left
       . intro w hSw
         try dsimp only at hSw
         go_simp
         all_goals with_reducible rfl
       try simp only[Act.put,sx]
       refine tl 8 ?_ ?_ hHeld ?_;rotate_left
       . intro w hSw
         try dsimp only at hSw
         go_simp
         all_goals with_reducible rfl
       try simp only[Act.put,sx]
       refine wpAnyH_done (by kernel_rfl) ?_ _;go_wp2;go_ret;exact⟨bm,rfl,(by first | (rw[GU] at MP; exact MP) | (rw[GV] at MP; exact MP)),Hb.out⟩
theorem Rm(bm:Nat)(f1 f2:Bool)(s p:Int)(z:Bool)(w:World)(h:Bans w bm f1 f2) :
 Calls Tryz.prog 70 #[.map (some bm),DZ s p z] w fun e w'=>e=.returned (.bool (decide (p=2)&&f1||z&&f2))/\Below w.heap.size w w':=by
 obtain⟨l1,l2⟩:=(h.alloc (.cells #[.int .i64 s,.int .i64 p,.bool z] 65)).look;clear h;by_cases hp:p=2
 . subst hp;cases z<;>cases f1<;>cases f2
   all_goals
    go_enter Tryz.func70,Tryz.ntmps70;go_wp2;go_ret;exact⟨rfl,Aa (Ac w) _⟩
 . have dp:(p==2)=false:=beq_eq_false_iff_ne.2 hp;have E:=hid (show decide (p=2)=false from decide_eq_false hp);rw[E.out];clear hp;cases z<;>cases f2
   all_goals
    go_enter Tryz.func70,Tryz.ntmps70;go_wp2;go_ret;exact⟨rfl,Aa (Ac w) _⟩
def M.flF(f1 f2:Bool)(s0 s p:Int)(z:Bool):Bool:=DY s p z&&!(decide (p=2)&&f1||z&&f2)&&Bc (s-s0) (-1) 1
theorem M.flF_of(b s0 s p:Int)(z:Bool):flF (I3 b 1) (I3 b 2) s0 s p z=Gk b s0 s p z:=by
 unfold flF Gk;cases DY s p z<;>cases decide (p=2)<;>cases I3 b 1<;>cases z<;>cases I3 b 2<;>cases Bc (s-s0) (-1) 1<;>rfl
theorem Pu(bm:Nat)(f1 f2:Bool)(s0 p0:Int)(z0:Bool)(s p:Int)(z:Bool)(w:World)(h:Bans w bm f1 f2)(q1:-1<=s0)(q2:s0<=1) :
 Calls Tryz.prog 55 #[.map (some bm),DZ s0 p0 z0,DZ s p z] w fun e w'=>e=.returned (.bool (flF f1 f2 s0 s p z))/\Below w.heap.size w w':=by
 have V:=fun W=>HJ s p z W;have U:=fun(W:World) (Z:Bans W bm f1 f2)=>Rm bm f1 f2 s p z W Z;have h:=hid h;cases hv:DY s p z
 . rw[hv] at V;have E:=hid (show flF f1 f2 s0 s p z=false by simp[flF,hv]);have V:=hid V;clear U hv;go_enter Tryz.func55,Tryz.ntmps55;go_wp2_with fail;refine(V.out _).mono ?_;rintro e w1 ⟨rfl,B⟩;have P:CellsAt w1 w.heap.size (ins s0 p0 z0):=((CellsAt.new w _ _ _ rfl).alloc _).step B;have X:CellsAt w1 (w.heap.size+1) (ins s p z):=(CellsAt.new _ _ _ _ (by simp)).step B;have H:=hid (Ab (Aa (Aa (Ac w) _) _) B);have M1:=hid (h.out.step H.out);clear B;obtain⟨Pc0,Pc1,Pc2⟩:=BQ P;obtain⟨Xc0,Xc1,Xc2⟩:=BQ X;have Pl:=P.lt;have Xl:=X.lt;go_wp2;go_ret;exact⟨Aq (by rw[E.out]),H.out⟩
 obtain⟨⟨s1,s2⟩,⟨p1,p2⟩,hz⟩:=E4 hv;clear hz;rw[hv] at V;cases hh:(decide (p=2)&&f1||z&&f2)
 rotate_left
 . rw[hh] at U;have E:=hid (show flF f1 f2 s0 s p z=false by simp only[flF,hh,hv]; rfl);have V:=hid V;have U:=hid U;clear hv hh;go_enter Tryz.func55,Tryz.ntmps55;go_wp2_with fail;refine(V.out _).mono ?_;rintro e w1 ⟨rfl,B⟩;have P:CellsAt w1 w.heap.size (ins s0 p0 z0):=((CellsAt.new w _ _ _ rfl).alloc _).step B;have X:CellsAt w1 (w.heap.size+1) (ins s p z):=(CellsAt.new _ _ _ _ (by simp)).step B;have H:=hid (Ab (Aa (Aa (Ac w) _) _) B);have M1:=hid (h.out.step H.out);clear B;obtain⟨Pc0,Pc1,Pc2⟩:=BQ P;obtain⟨Xc0,Xc1,Xc2⟩:=BQ X;have Pl:=P.lt;have Xl:=X.lt;go_wp2_with fail;refine(U.out _ M1.out).mono ?_;rintro e w2 ⟨rfl,B⟩
   replace P:=P.step B;replace X:=X.step B;replace H:=hid (Ab H.out B);clear B;clear Pc0 Pc1 Pc2 Xc0 Xc1 Xc2 Pl Xl;obtain⟨Pc0,Pc1,Pc2⟩:=BQ P;obtain⟨Xc0,Xc1,Xc2⟩:=BQ X;have Pl:=P.lt;have Xl:=X.lt;go_wp2;go_ret;exact⟨Aq (by rw[E.out]),H.out⟩
 have E0:flF f1 f2 s0 s p z=Bc (s-s0) (-1) 1:=by simp only[flF,hh,hv]; rfl
 rw[hh] at U;have V:=hid V;have U:=hid U;clear hv hh;by_cases t1:s-s0< -1
 . have d1:decide (-1<=s-s0)=false:=decide_eq_false (by omega);have E:=hid (E0.trans (Gs t1));clear E0;go_enter Tryz.func55,Tryz.ntmps55;go_wp2_with fail;refine(V.out _).mono ?_;rintro e w1 ⟨rfl,B⟩;have P:CellsAt w1 w.heap.size (ins s0 p0 z0):=((CellsAt.new w _ _ _ rfl).alloc _).step B;have X:CellsAt w1 (w.heap.size+1) (ins s p z):=(CellsAt.new _ _ _ _ (by simp)).step B;have H:=hid (Ab (Aa (Aa (Ac w) _) _) B);have M1:=hid (h.out.step H.out);clear B;obtain⟨Pc0,Pc1,Pc2⟩:=BQ P;obtain⟨Xc0,Xc1,Xc2⟩:=BQ X;have Pl:=P.lt;have Xl:=X.lt;go_wp2_with fail;refine(U.out _ M1.out).mono ?_;rintro e w2 ⟨rfl,B⟩;replace P:=P.step B
   replace X:=X.step B;replace H:=hid (Ab H.out B);clear B;clear Pc0 Pc1 Pc2 Xc0 Xc1 Xc2 Pl Xl;obtain⟨Pc0,Pc1,Pc2⟩:=BQ P;obtain⟨Xc0,Xc1,Xc2⟩:=BQ X;have Pl:=P.lt;have Xl:=X.lt;go_wp2;go_ret;exact⟨Aq (by rw[E.out]),H.out⟩
 by_cases t2:1<s-s0
 . have d1:-1<=s-s0:=by omega
   have d2:decide (s-s0<=1)=false:=decide_eq_false (by omega);have E:=hid (E0.trans (EU t2));clear E0;go_enter Tryz.func55,Tryz.ntmps55;go_wp2_with fail;refine(V.out _).mono ?_;rintro e w1 ⟨rfl,B⟩;have P:CellsAt w1 w.heap.size (ins s0 p0 z0):=((CellsAt.new w _ _ _ rfl).alloc _).step B;have X:CellsAt w1 (w.heap.size+1) (ins s p z):=(CellsAt.new _ _ _ _ (by simp)).step B;have H:=hid (Ab (Aa (Aa (Ac w) _) _) B);have M1:=hid (h.out.step H.out);clear B;obtain⟨Pc0,Pc1,Pc2⟩:=BQ P;obtain⟨Xc0,Xc1,Xc2⟩:=BQ X;have Pl:=P.lt;have Xl:=X.lt;go_wp2_with fail;refine(U.out _ M1.out).mono ?_;rintro e w2 ⟨rfl,B⟩;replace P:=P.step B
   replace X:=X.step B;replace H:=hid (Ab H.out B);clear B;clear Pc0 Pc1 Pc2 Xc0 Xc1 Xc2 Pl Xl;obtain⟨Pc0,Pc1,Pc2⟩:=BQ P;obtain⟨Xc0,Xc1,Xc2⟩:=BQ X;have Pl:=P.lt;have Xl:=X.lt;go_wp2;go_ret;exact⟨Aq (by rw[E.out]),H.out⟩
 have d1:-1<=s-s0:=by omega
 have d2:s-s0<=1:=by omega
 have E:=hid (E0.trans (BR ⟨d1,d2⟩));clear E0 t1 t2;go_enter Tryz.func55,Tryz.ntmps55;go_wp2_with fail;refine(V.out _).mono ?_;rintro e w1 ⟨rfl,B⟩;have P:CellsAt w1 w.heap.size (ins s0 p0 z0):=((CellsAt.new w _ _ _ rfl).alloc _).step B;have X:CellsAt w1 (w.heap.size+1) (ins s p z):=(CellsAt.new _ _ _ _ (by simp)).step B;have H:=hid (Ab (Aa (Aa (Ac w) _) _) B);have M1:=hid (h.out.step H.out);clear B;obtain⟨Pc0,Pc1,Pc2⟩:=BQ P;obtain⟨Xc0,Xc1,Xc2⟩:=BQ X;have Pl:=P.lt;have Xl:=X.lt;go_wp2_with fail;refine(U.out _ M1.out).mono ?_;rintro e w2 ⟨rfl,B⟩;replace P:=P.step B;replace X:=X.step B;replace H:=hid (Ab H.out B)
 clear B;clear Pc0 Pc1 Pc2 Xc0 Xc1 Xc2 Pl Xl;obtain⟨Pc0,Pc1,Pc2⟩:=BQ P;obtain⟨Xc0,Xc1,Xc2⟩:=BQ X;have Pl:=P.lt;have Xl:=X.lt;go_wp2;go_ret;exact⟨Aq (by rw[E.out]),H.out⟩
end Go.Proofs.YtaemcekcancpdaaGreatDoor
