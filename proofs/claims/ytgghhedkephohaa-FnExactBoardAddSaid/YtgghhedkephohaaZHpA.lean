import Derived.Test.YtgghhedkephohaaZHpM
import Derived.Test.YtgghhedkephohaaZ0
set_option linter.all false
set_option maxRecDepth 100000
set_option maxHeartbeats 8000000
open Go.Lib
namespace Go.Proofs.Ytgghhedkephohaa
open Go.RowKit
open M
theorem DN(A:Option Addr)(n c:Nat)(w:World):Calls Try.prog 78 #[.slice A n c] w fun e w'=>e=.returned (.int .i64 n)/\w=w':=by
 go_enter Try.func78,Try.ntmps78;go_wp2;go_ret;exact⟨rfl,rfl⟩
theorem M.lsA_at{cs:List Ct}{i j:Nat}(hi:i<cs.length)(hj:j<cs.length):Ds AA cs i j=AA (cs.getD i cz) (cs.getD j cz):=by
 simp[Ds,List.getD_eq_getElem?_getD,hi,hj]
theorem Bf(A:Option Addr)(n c:Nat)(cs:List Ct)(i j:Nat)(w:World)(I:Conts w A n cs)(hi:i<n)(hj:j<n)(hn:n<=1000) :
 Calls Try.prog 79 #[.slice A n c,.int .i64 i,.int .i64 j] w fun e w'=>e=.returned (.bool (Ds AA cs i j))/\Below w.heap.size w w':=by
 have E:=hid (lsA_at (cs:=cs) (i:=i) (j:=j) (by have:=I.1; omega) (by have:=I.1; omega));obtain⟨b,off,rfl,hb,hc⟩:=I.2 (by omega);have k1:=hc i hi;have k2:=hc j hj;generalize cs.getD i cz=q at *;generalize cs.getD j cz=r at *;obtain⟨qp,qs,qt⟩:=q;obtain⟨rp,rs,rt⟩:=r;obtain⟨a0,a1,a2⟩:=k1;obtain⟨b0,b1,b2⟩:=k2;dsimp only at a0 a1 a2 b0 b1 b2;have hi2:(i:Int)<(n:Int):=by omega
 have hj2:(j:Int)<(n:Int):=by omega
 clear hc I;by_cases h:qs=rs
 . have d0:(qs != rs)=false:=by simp[h]
   have F:=hid (show AA ⟨qp,qs,qt⟩ ⟨rp,rs,rt⟩=decide (qt<rt) by simp[AA,h]);clear h;go_enter Try.func79,Try.ntmps79;go_wp2_with fail
   go_quiet (fail)
   go_wp2_with fail
   go_quiet (fail)
   go_wp2;go_ret;exact⟨Av (by rw[E.out,F.out]),by repeat (first | exact Ac _ | refine Ai ?_ _)⟩
 . have d0:(qs != rs)=true:=by simp[h]
   have F:=hid (show AA ⟨qp,qs,qt⟩ ⟨rp,rs,rt⟩=decide (qs<rs) by simp[AA,h]);clear h;go_enter Try.func79,Try.ntmps79;go_wp2_with fail
   go_quiet (fail)
   go_wp2_with fail
   go_quiet (fail)
   go_wp2;go_ret;exact⟨Av (by rw[E.out,F.out]),by repeat (first | exact Ac _ | refine Ai ?_ _)⟩
theorem M.ccl_set:∀(xs:List Ct) (i:Nat) (q:Ct),i<xs.length->(((AS xs).set (i*3) (.int .i64 q.p)).set (i*3+1) (.int .i64 q.s)).set (i*3+2) (.int .i64 q.t)=AS (xs.set i q)
 | [],i,q,h=>absurd h (by simp)
 | a::xs,0,q,_=>rfl
 | a::xs,i+1,q,h=>by
  have e:(i+1)*3=i*3+1+1+1:=by omega
  have t:=ccl_set xs i q (by simpa using h);rw[e];simp only[AS,List.set_cons_succ];rw[t]
theorem M.swp_at{cs:List Ct}{i j:Nat}(hi:i<cs.length)(hj:j<cs.length):swp cs i j=(cs.set i (cs.getD j cz)).set j (cs.getD i cz):=by
 simp[swp,List.getD_eq_getElem?_getD,hi,hj]
theorem EI{lo g n c:Nat}{cs:List Ct}{w:World}(O:w.ownsRow lo 66 3 (.slice (some ⟨g,0,none⟩) n c) n (AS cs)){i:Nat}(hi:i<n):w.there g (i*3) 3:=fun j hj=>by
 refine⟨?_,O.frozenAt _⟩;have hl:=O.1;rw[O.cellAt (i*3+j) (by omega),List.getElem?_eq_getElem (by omega)];rfl
theorem AQ{lo g n c:Nat}{cs:List Ct}{w:World}{o:Oper}{a:Act}{K:Act->World->Prop}{Q:Exit->Act->World->Prop}(x y:Operand)(ho:o.op=.store 66 x y)(i:Nat)(q:Ct)
 (O:w.ownsRow lo 66 3 (.slice (some ⟨g,0,none⟩) n c) n (AS cs)) (hi:i<n) (hx:a.eval x=.pointer (some ⟨g,i*3,none⟩)) (hy:a.eval y=.agg #[.int .i64 q.p,.int .i64 q.s,.int .i64 q.t])
 (h:∀ w',w'.ownsRow lo 66 3 (.slice (some ⟨g,0,none⟩) n c) n (AS (cs.set i q))->Kept g w w'->K (a.put o.dst undef) w'):o.wp Try.prog a w K Q:=by
 have hl:=O.1;rw[AZ] at hl;refine wp_store_mid 66 x y ho g (i*3) #[.int .i64 q.p,.int .i64 q.s,.int .i64 q.t] hx hy (EI O hi) DF (by simp[Value.oneCell']) (h _ ?_ ?_)
 . rw[<- ccl_set cs i q (by omega)];exact(((O.stored (i*3) _).1.stored (i*3+1) _).1.stored (i*3+2) _).1
 . exact DC _ _ (Kept.refl g w)
theorem Bg(lo g n c:Nat)(cs:List Ct)(i j:Nat)(w:World)(O:w.ownsRow lo 66 3 (.slice (some ⟨g,0,none⟩) n c) n (AS cs))(hi:i<n)(hj:j<n)(hn:n<=1000) :
 Calls Try.prog 80 #[.slice (some ⟨g,0,none⟩) n c,.int .i64 i,.int .i64 j] w fun e w'=>e=.returned (.tuple #[])/\w'.ownsRow lo 66 3 (.slice (some ⟨g,0,none⟩) n c) n (AS (swp cs i j))/\Kept g w w':=by
 obtain⟨A,c',e,I,_⟩:=Conts.of_own O;cases e
 have hl:=I.1;obtain⟨b,off,e,hb,hc⟩:=I.2 (by omega);cases e
 have k1:=hc i hi;have k2:=hc j hj;rw[Nat.zero_add] at k1 k2;have Od:w.drew.ownsRow lo 66 3 (.slice (some ⟨g,0,none⟩) n c) n (AS cs):=Ak O (Ac w).drew;have E:=hid (swp_at (cs:=cs) (i:=i) (j:=j) (by omega) (by omega));generalize cs.getD i cz=q at *;generalize cs.getD j cz=r at *;obtain⟨qp,qs,qt⟩:=q;obtain⟨rp,rs,rt⟩:=r;obtain⟨a0,a1,a2⟩:=k1;obtain⟨b0,b1,b2⟩:=k2;dsimp only at a0 a1 a2 b0 b1 b2;have hi2:(i:Int)<(n:Int):=by omega
 have hj2:(j:Int)<(n:Int):=by omega
 clear hc I O;go_enter Try.func80,Try.ntmps80;go_wp2_with fail;refine wp_region_held_drew (S:=fun w'=>True) (by kernel_rfl) trivial (fun hHeld=>?_);refine tl 0 ?_ ?_ hHeld ?_;rotate_left
 . intro w hSw
   try dsimp only at hSw
   go_simp
   all_goals with_reducible rfl
 try simp only[Act.put,sx]
 refine tl 1 ?_ ?_ hHeld ?_;rotate_left
 . intro w hSw
   try dsimp only at hSw
   go_simp
   all_goals with_reducible rfl
 try simp only[Act.put,sx]
 refine tl 2 ?_ ?_ hHeld ?_;rotate_left
 . intro w hSw
   try dsimp only at hSw
   go_simp
   all_goals with_reducible rfl
 try simp only[Act.put,sx]
 refine tl 3 ?_ ?_ hHeld ?_;rotate_left
 . intro w hSw
   try dsimp only at hSw
   go_simp
   all_goals with_reducible rfl
 try simp only[Act.put,sx]
 refine tl 4 ?_ ?_ hHeld ?_;rotate_left
 . intro w hSw
   try dsimp only at hSw
   go_simp
   all_goals with_reducible rfl
 try simp only[Act.put,sx]
 refine tl 5 ?_ ?_ hHeld ?_;rotate_left
 . intro w hSw
   try dsimp only at hSw
   go_simp
   all_goals with_reducible rfl
 try simp only[Act.put,sx]
 refine tl 6 ?_ ?_ hHeld ?_;rotate_left
 . intro w hSw
   try dsimp only at hSw
   go_simp
   all_goals with_reducible rfl
 try simp only[Act.put,sx]
 refine tl 8 ?_ ?_ hHeld ?_;rotate_left
 . intro w hSw
   try dsimp only at hSw
   go_simp
   all_goals with_reducible rfl
 try simp only[Act.put,sx]
 refine tl 9 ?_ ?_ hHeld ?_;rotate_left
 . intro w hSw
   try dsimp only at hSw
   go_simp
   all_goals with_reducible rfl
 try simp only[Act.put,sx]
 refine tl 10 ?_ ?_ hHeld ?_;rotate_left
 . intro w hSw
   try dsimp only at hSw
   go_simp
   all_goals with_reducible rfl
 try simp only[Act.put,sx]
 refine wpAnyH_ready (rs:=[7,11]) (by kernel_rfl) (by simp) ?_;refine(AllReadyH.cons (o:=_) rfl (fun K hK=>?_) (AllReadyH.cons (o:=_) rfl (fun K hK=>?_) AllReadyH.nil))
 . skip
   go_simp;refine hK.out _ _ trivial (fun hHeld=>?_);clear hK K
   try simp only[Act.put,sx]
   refine wpAnyH_ready (rs:=[11]) (by kernel_rfl) (by simp) ?_;apply AllReadyH.cons rfl ?_ AllReadyH.nil;intro K hK;go_simp;refine hK.out _ _ trivial (fun hHeld=>?_);clear hK K
   try simp only[Act.put,sx]
   refine tl 12 ?_ ?_ hHeld ?_;rotate_left
   . intro w hSw
     try dsimp only at hSw
     go_simp
     all_goals with_reducible rfl
   try simp only[Act.put,sx]
   refine wpAnyH_ready (rs:=[13]) (by kernel_rfl) (by simp) ?_;apply AllReadyH.cons rfl ?_ AllReadyH.nil;intro K hK;dsimp only[List.getElem_toArray,List.getElem_cons_succ,List.getElem_cons_zero];rw[if_pos (by rfl)];refine AQ (.tmp 18) (.tmp 13) rfl i ⟨rp,rs,rt⟩ Od hi rfl rfl ?_;intro w5 O5 K5;clear hHeld;refine hK.out _ _ trivial (fun hHeld=>?_);clear hK K
   try simp only[Act.put,sx]
   refine tl 14 ?_ ?_ hHeld ?_;rotate_left
   . intro w hSw
     try dsimp only at hSw
     go_simp
     all_goals with_reducible rfl
   try simp only[Act.put,sx]
   refine wpAnyH_ready (rs:=[15]) (by kernel_rfl) (by simp) ?_;apply AllReadyH.cons rfl ?_ AllReadyH.nil;intro K hK;dsimp only[List.getElem_toArray,List.getElem_cons_succ,List.getElem_cons_zero];rw[if_pos (by rfl)];refine AQ (.tmp 19) (.tmp 17) rfl j ⟨qp,qs,qt⟩ O5 hj rfl rfl ?_;intro w6 O6 K6;clear hHeld;refine hK.out _ _ trivial (fun hHeld=>?_);clear hK K
   try simp only[Act.put,sx]
   refine wpAnyH_done (by kernel_rfl) ?_ _;go_wp2
   try simp only[Exit.inBlock,Exit.then]
   refine bodyPost_end (results_none rfl _ _ _) rfl ?_;exact⟨rfl,by rw[E.out]; exact O6,((Kept.refl g w).drew1.trans K5).trans K6⟩
 . skip
   go_simp;refine hK.out _ _ trivial (fun hHeld=>?_);clear hK K
   try simp only[Act.put,sx]
   refine wpAnyH_ready (rs:=[7]) (by kernel_rfl) (by simp) ?_;apply AllReadyH.cons rfl ?_ AllReadyH.nil;intro K hK;go_simp;refine hK.out _ _ trivial (fun hHeld=>?_);clear hK K
   try simp only[Act.put,sx]
   refine tl 12 ?_ ?_ hHeld ?_;rotate_left
   . intro w hSw
     try dsimp only at hSw
     go_simp
     all_goals with_reducible rfl
   try simp only[Act.put,sx]
   refine wpAnyH_ready (rs:=[13]) (by kernel_rfl) (by simp) ?_;apply AllReadyH.cons rfl ?_ AllReadyH.nil;intro K hK;dsimp only[List.getElem_toArray,List.getElem_cons_succ,List.getElem_cons_zero];rw[if_pos (by rfl)];refine AQ (.tmp 18) (.tmp 13) rfl i ⟨rp,rs,rt⟩ Od hi rfl rfl ?_;intro w5 O5 K5;clear hHeld;refine hK.out _ _ trivial (fun hHeld=>?_);clear hK K
   try simp only[Act.put,sx]
   refine tl 14 ?_ ?_ hHeld ?_;rotate_left
   . intro w hSw
     try dsimp only at hSw
     go_simp
     all_goals with_reducible rfl
   try simp only[Act.put,sx]
   refine wpAnyH_ready (rs:=[15]) (by kernel_rfl) (by simp) ?_;apply AllReadyH.cons rfl ?_ AllReadyH.nil;intro K hK;dsimp only[List.getElem_toArray,List.getElem_cons_succ,List.getElem_cons_zero];rw[if_pos (by rfl)];refine AQ (.tmp 19) (.tmp 17) rfl j ⟨qp,qs,qt⟩ O5 hj rfl rfl ?_;intro w6 O6 K6;clear hHeld;refine hK.out _ _ trivial (fun hHeld=>?_);clear hK K
   try simp only[Act.put,sx]
   refine wpAnyH_done (by kernel_rfl) ?_ _;go_wp2
   try simp only[Exit.inBlock,Exit.then]
   refine bodyPost_end (results_none rfl _ _ _) rfl ?_;exact⟨rfl,by rw[E.out]; exact O6,((Kept.refl g w).drew1.trans K5).trans K6⟩
end Go.Proofs.Ytgghhedkephohaa
