import Derived.Test.YtgghhedkephohaaZHpA
import Derived.Test.YtgghhedkephohaaZCtBuild
set_option linter.all false
set_option maxRecDepth 100000
set_option maxHeartbeats 8000000
open Go.Lib
namespace Go.Proofs.Ytgghhedkephohaa
open Go.RowKit
open M
def Hp(lo hb:Nat)(cs:List Ct)(W:World):Prop :=
 ∃ v,CellsAt W hb [v]/\W.ownsRow lo 66 3 v cs.length (AS cs)/\v.ownBlock≠some hb/\lo<=hb
structure Fg(hb g:Nat)(w w':World):Prop where
 os:w'.os=w.os
 tape:w'.tape=w.tape
 output:w'.output=w.output
 size:w.heap.size<=w'.heap.size
 block:∀ k,k<w.heap.size->k≠hb->k≠g->w'.heap[k]?=w.heap[k]?
theorem Fg.refl(hb g:Nat)(w:World):Fg hb g w w:=⟨rfl,rfl,rfl,Nat.le_refl _,fun _ _ _ _=>rfl⟩
theorem Fg.trans{hb g:Nat}{w a b:World}(h:Fg hb g w a)(k:Fg hb g a b):Fg hb g w b :=
 ⟨k.os.trans h.os,k.tape.trans h.tape,k.output.trans h.output,Nat.le_trans h.size k.size,fun j hj h1 h2=>(k.block j (Nat.lt_of_lt_of_le hj h.size) h1 h2).trans (h.block j hj h1 h2)⟩
theorem Fg.of_below{hb g:Nat}{w w':World}(B:Below w.heap.size w w'):Fg hb g w w':=⟨B.os,B.tape,B.output,B.size,fun k hk _ _=>B.block k hk⟩
theorem Fg.of_kept{hb g:Nat}{w w':World}(K:Kept g w w'):Fg hb g w w':=⟨K.os,K.tape,K.output,K.size,fun k hk _ h=>K.block k hk h⟩
theorem Fg.of_var{hb g:Nat}{w w':World}(K:Kept hb w w'):Fg hb g w w':=⟨K.os,K.tape,K.output,K.size,fun k hk h _=>K.block k hk h⟩
theorem Fg.below{hb g lo:Nat}{w w':World}(F:Fg hb g w w')(h0:lo<=w.heap.size)(h1:lo<=hb)(h2:lo<=g):Below lo w w':=⟨F.os,F.tape,F.output,F.size,fun k hk=>F.block k (by omega) (by omega) (by omega)⟩
def Hg(lo hb g:Nat)(cs:List Ct)(W:World):Prop :=
 ∃ c,CellsAt W hb [.slice (some ⟨g,0,none⟩) cs.length c]/\W.ownsRow lo 66 3 (.slice (some ⟨g,0,none⟩) cs.length c) cs.length (AS cs)/\g≠hb/\lo<=hb
theorem Hg.hp{lo hb g:Nat}{cs:List Ct}{W:World}(H:Hg lo hb g cs W):Hp lo hb cs W:=by
 obtain⟨c,D,O,hg,hlo⟩:=H;exact⟨_,D,O,fun e=>hg (Option.some.inj e),hlo⟩
theorem Hp.hg{lo hb:Nat}{cs:List Ct}{W:World}(H:Hp lo hb cs W)(h0:0<cs.length):∃ g,Hg lo hb g cs W:=by
 obtain⟨v,D,O,hv,hlo⟩:=H;rcases O.2 with⟨rfl,h⟩ | ⟨g,c,cur,rfl,hg,_⟩
 . omega
 . exact⟨g,c,D,O,fun e=>hv (by rw[e]; rfl),hlo⟩
theorem Hg.lt{lo hb g:Nat}{cs:List Ct}{W:World}(H:Hg lo hb g cs W):lo<=g/\g<W.heap.size:=by
 obtain⟨c,D,O,hg,hlo⟩:=H;exact O.lt g rfl
theorem AX{lo:Nat}{w a b:World}(h:Below lo w a)(k:Below lo a b):Below lo w b:=h.trans k
theorem Ee(lo hb:Nat)(cs:List Ct)(p s t:Int)(w:World)(H:Hp lo hb cs w)(hlw:lo<=w.heap.size)(hn:cs.length<=1000) :
 Calls Try.prog 82 #[.pointer (some ⟨hb,0,none⟩),.iface 66 (.agg #[.int .i64 p,.int .i64 s,.int .i64 t])] w fun e w'=>e=.returned (.tuple #[])/\Hp lo hb (cs++[⟨p,s,t⟩]) w'/\Below lo w w':=by
 have ta0:∀ W:World,(Instr.typeAssert (.iface 66 (.agg #[.int .i64 p,.int .i64 s,.int .i64 t])) 20 66 true).run Try.prog W=.ok (.tuple #[.agg #[.int .i64 p,.int .i64 s,.int .i64 t],.bool true]) W:=fun _=>by kernel_rfl
 obtain⟨v,D,O,hvb,hlo⟩:=H;have hbw:=D.lt;have hvw:v.ownBlock≠some w.heap.size:=fun e=>by have:=(O.lt _ e).2; omega
 have X:CellsAt (w.alloc (.cells #[.int .i64 p,.int .i64 s,.int .i64 t] 66)) w.heap.size [.int .i64 p,.int .i64 s,.int .i64 t]:=CellsAt.new w _ _ _ rfl;have D:=hid (D.alloc (.cells #[.int .i64 p,.int .i64 s,.int .i64 t] 66));have O:=hid (O.alloc (.cells #[.int .i64 p,.int .i64 s,.int .i64 t] 66));have Hb:=hid (show Below lo w (w.alloc (.cells #[.int .i64 p,.int .i64 s,.int .i64 t] 66)) from(Below.refl lo w).alloc hlw _);go_enter Try.func82,Try.ntmps82;go_wp2_with fail;refine wp_region_held_drew (S:=fun w'=>CellsAt w' w.heap.size [.int .i64 p,.int .i64 s,.int .i64 t]) (by kernel_rfl) X.drew (fun hHeld=>?_);replace X:=X.drew;replace D:=hid (D.out.drew)
 replace O:=hid (Ak O.out (Ac _).drew);replace Hb:=hid (Hb.out.drew);generalize World.drew _=w1 at *;refine tl 0 ?_ ?_ hHeld ?_;rotate_left
 . intro w hSw
   try dsimp only at hSw
   go_simp
   all_goals with_reducible rfl
 try simp only[Act.put,sx]
 refine tl 1 ?_ ?_ hHeld ?_;rotate_left
 . intro w hSw
   try dsimp only at hSw
   go_simp
   all_goals with_reducible rfl
 try simp only[Act.put,sx]
 refine tl 2 ?_ ?_ hHeld ?_;rotate_left
 . intro w hSw
   try dsimp only at hSw
   go_simp
   all_goals with_reducible rfl
 try simp only[Act.put,sx]
 refine wpAnyH_take (i:=4) (oi:=_) (v:=.agg ([.int .i64 p,.int .i64 s,.int .i64 t]).toArray) rfl (by kernel_rfl) (by kernel_rfl) (by kernel_rfl) (fun _ _ _ h=>h) (yieldsIf_load_mid (by rfl) 66 (.tmp 4) rfl w.heap.size 0 rfl ([.int .i64 p,.int .i64 s,.int .i64 t]) _ (fun W hS=>hS.range) Try.underlying66 rfl DF) hHeld ?_
 try simp only[Act.put,sx]
 refine wpAnyH_ready (rs:=[3,5]) (by kernel_rfl) (by simp) ?_;refine(AllReadyH.cons (o:=_) rfl (fun K hK=>?_) (AllReadyH.cons (o:=_) rfl (fun K hK=>?_) AllReadyH.nil))
 . skip
   have c0:=D.out.cell 0 _ rfl;go_simp;refine hK.out _ _ X (fun hHeld=>?_);clear hK K
   try simp only[Act.put,sx]
   clear c0;refine wpAnyH_ready (rs:=[5]) (by kernel_rfl) (by simp) ?_;apply AllReadyH.cons rfl ?_ AllReadyH.nil;intro K hK;dsimp only[List.getElem_toArray,List.getElem_cons_succ,List.getElem_cons_zero];rw[if_pos (by rfl)];refine Cn (.tmp 16) rfl p s t rfl ?_;intro g1 wn S hg1 I1;replace X:=X.step S;replace D:=hid (D.out.step S);replace O:=hid (Ak O.out S);replace Hb:=hid (Hb.out.trans (S.mono (Nat.le_trans hlw Hb.out.size)));clear S hg1 hHeld;refine hK.out _ _ X (fun hHeld=>?_);clear hK K
   try simp only[Act.put,sx]
   refine wpAnyH_ready (rs:=[6]) (by kernel_rfl) (by simp) ?_;apply AllReadyH.cons rfl ?_ AllReadyH.nil;intro K hK;dsimp only[List.getElem_toArray,List.getElem_cons_succ,List.getElem_cons_zero];rw[if_pos (by rfl)];refine BJ (.tmp 15) (.tmp 17) rfl lo _ _ cs rfl O.out _ 1 1 [⟨p,s,t⟩] rfl I1 (by omega) (Nat.le_trans hlw Hb.out.size) ?_;intro v1 wn E1 GN hown;have hne:v1.ownBlock≠some hb:=fun h=>by
    have hlt:=D.out.lt;rcases hown with e | e
    . exact hvb (e▸h)
    . rw[e] at h; have:=Option.some.inj h; omega
   replace X:=X.grown GN (fun e=>hvw e);replace D:=hid (D.out.grown GN (fun e=>hvb e));replace Hb:=hid (Hb.out.grown GN (Nat.le_trans hlw Hb.out.size) (fun q e=>(O.out.lt q e).1));replace E1:=hid E1;clear GN I1 O hHeld hown;refine hK.out _ _ X (fun hHeld=>?_);clear hK K
   try simp only[Act.put,sx]
   refine tl 7 ?_ ?_ hHeld ?_;rotate_left
   . intro w hSw
     try dsimp only at hSw
     go_simp
     all_goals with_reducible rfl
   try simp only[Act.put,sx]
   obtain⟨A9,n9,c9,rfl⟩:∃ A9 n9 c9,v1=.slice A9 n9 c9:=by obtain⟨A9,c9,e,_,_⟩:=Conts.of_own E1.out; exact⟨_,_,_,e⟩
   refine wpAnyH_ready (rs:=[8]) (by kernel_rfl) (by simp) ?_;apply AllReadyH.cons rfl ?_ AllReadyH.nil;intro K hK;have c0:=D.out.cell 0 _ rfl;have f0:=D.out.fr 0;have X8:=X.kept (Cm (Kept.refl hb _) 0 (.slice A9 n9 c9)) (by omega);have D8:=hid (D.out.set 0 (by simp) (.slice A9 n9 c9));have O8:=hid (E1.out.kept (Cm (Kept.refl hb _) 0 (.slice A9 n9 c9)).grows (.inr fun h=>hne h));have H8:=hid (Hb.out.trans ((Cm (Kept.refl hb _) 0 (.slice A9 n9 c9)).below (Nat.le_trans hlw Hb.out.size) hlo));replace X:=X8;go_simp;refine hK.out _ _ X (fun hHeld=>?_);clear hK K
   try simp only[Act.put,sx]
   refine wpAnyH_done (by kernel_rfl) ?_ _;go_wp2
   try simp only[Exit.inBlock,Exit.then]
   refine bodyPost_end (results_none rfl _ _ _) rfl ?_;exact⟨rfl,⟨_,D8.out,by simpa using O8.out,fun h=>hne h,hlo⟩,H8.out⟩
 . skip
   dsimp only[List.getElem_toArray,List.getElem_cons_succ,List.getElem_cons_zero];rw[if_pos (by rfl)];refine Cn (.tmp 16) rfl p s t rfl ?_;intro g1 wn S hg1 I1;replace X:=X.step S;replace D:=hid (D.out.step S);replace O:=hid (Ak O.out S);replace Hb:=hid (Hb.out.trans (S.mono (Nat.le_trans hlw Hb.out.size)));clear S hg1 hHeld;refine hK.out _ _ X (fun hHeld=>?_);clear hK K
   try simp only[Act.put,sx]
   refine wpAnyH_ready (rs:=[3]) (by kernel_rfl) (by simp) ?_;apply AllReadyH.cons rfl ?_ AllReadyH.nil;intro K hK;have c0:=D.out.cell 0 _ rfl;go_simp;refine hK.out _ _ X (fun hHeld=>?_);clear hK K
   try simp only[Act.put,sx]
   clear c0;refine wpAnyH_ready (rs:=[6]) (by kernel_rfl) (by simp) ?_;apply AllReadyH.cons rfl ?_ AllReadyH.nil;intro K hK;dsimp only[List.getElem_toArray,List.getElem_cons_succ,List.getElem_cons_zero];rw[if_pos (by rfl)];refine BJ (.tmp 15) (.tmp 17) rfl lo _ _ cs rfl O.out _ 1 1 [⟨p,s,t⟩] rfl I1 (by omega) (Nat.le_trans hlw Hb.out.size) ?_;intro v1 wn E1 GN hown;have hne:v1.ownBlock≠some hb:=fun h=>by
    have hlt:=D.out.lt;rcases hown with e | e
    . exact hvb (e▸h)
    . rw[e] at h; have:=Option.some.inj h; omega
   replace X:=X.grown GN (fun e=>hvw e);replace D:=hid (D.out.grown GN (fun e=>hvb e));replace Hb:=hid (Hb.out.grown GN (Nat.le_trans hlw Hb.out.size) (fun q e=>(O.out.lt q e).1));replace E1:=hid E1;clear GN I1 O hHeld hown;refine hK.out _ _ X (fun hHeld=>?_);clear hK K
   try simp only[Act.put,sx]
   refine tl 7 ?_ ?_ hHeld ?_;rotate_left
   . intro w hSw
     try dsimp only at hSw
     go_simp
     all_goals with_reducible rfl
   try simp only[Act.put,sx]
   obtain⟨A9,n9,c9,rfl⟩:∃ A9 n9 c9,v1=.slice A9 n9 c9:=by obtain⟨A9,c9,e,_,_⟩:=Conts.of_own E1.out; exact⟨_,_,_,e⟩
   refine wpAnyH_ready (rs:=[8]) (by kernel_rfl) (by simp) ?_;apply AllReadyH.cons rfl ?_ AllReadyH.nil;intro K hK;have c0:=D.out.cell 0 _ rfl;have f0:=D.out.fr 0;have X8:=X.kept (Cm (Kept.refl hb _) 0 (.slice A9 n9 c9)) (by omega);have D8:=hid (D.out.set 0 (by simp) (.slice A9 n9 c9));have O8:=hid (E1.out.kept (Cm (Kept.refl hb _) 0 (.slice A9 n9 c9)).grows (.inr fun h=>hne h));have H8:=hid (Hb.out.trans ((Cm (Kept.refl hb _) 0 (.slice A9 n9 c9)).below (Nat.le_trans hlw Hb.out.size) hlo));replace X:=X8;go_simp;refine hK.out _ _ X (fun hHeld=>?_);clear hK K
   try simp only[Act.put,sx]
   refine wpAnyH_done (by kernel_rfl) ?_ _;go_wp2
   try simp only[Exit.inBlock,Exit.then]
   refine bodyPost_end (results_none rfl _ _ _) rfl ?_;exact⟨rfl,⟨_,D8.out,by simpa using O8.out,fun h=>hne h,hlo⟩,H8.out⟩
theorem EJ{lo n m:Nat}{A:Option Addr}{c:Nat}{cs:List Ct}{w:World}(O:w.ownsRow lo 66 3 (.slice A n c) n (AS cs))(hm:m<=n)(h0:0<n):w.ownsRow lo 66 3 (.slice A m c) m (AS (cs.take m)):=by
 have hl:=O.1;rw[AZ] at hl;have ht:∀(m:Nat) (ys:List Ct),AS (ys.take m)=(AS ys).take (m*3):=fun m ys=>by
  induction ys generalizing m with
  | nil=>simp[AS]
  | cons a ys ih=>cases m with
   | zero=>simp[AS]
   | succ m=>rw[List.take_succ_cons,show(m+1)*3=m*3+1+1+1 by omega]; simp only[AS,List.take_succ_cons,ih]
 refine⟨by rw[AZ,List.length_take]; congr 1; omega,?_⟩;rcases O.2 with⟨e,h⟩ | ⟨g,cap,cur,e,hg,hh,hc,hM,hs,htk⟩
 . omega
 . cases e
   refine .inr ⟨g,c,cur,rfl,hg,hh,by omega,hM,hs,?_⟩;rw[ht,<- htk,List.take_take];congr 1;omega
theorem EK(lo hb g:Nat)(cs:List Ct)(w:World)(H:Hg lo hb g cs w)(h0:0<cs.length)(hn:cs.length<=1000) :
 Calls Try.prog 81 #[.pointer (some ⟨hb,0,none⟩)] w fun e w'=>(∃ r,e=.returned r)/\Hg lo hb g (cs.take (cs.length-1)) w'/\Fg hb g w w':=by
 obtain⟨c,D,O,hgb,hlo⟩:=H;have hbw:=D.lt;obtain⟨_,_,e,I,_⟩:=Conts.of_own O;cases e
 obtain⟨n,hN⟩:∃ n,cs.length=n:=⟨_,rfl⟩;rw[hN] at O I h0 hn ⊢;have hcap:=Be O;obtain⟨b,off,hA,hb2,hc⟩:=I.2 h0;cases hA
 have k1:=hc (n-1) (by omega);rw[Nat.zero_add] at k1;generalize cs.getD (n-1) cz=q at *;obtain⟨qp,qs,qt⟩:=q;obtain⟨a0,a1,a2⟩:=k1;dsimp only at a0 a1 a2;have c0:=D.cell 0 _ rfl;have f0:=D.fr 0;have hk1:IntKind.i64.wrap ((n:Int)-1)=((n-1:Nat):Int):=by rw[IntWalk.i64_in _ (by omega)]; omega
 have hk2:(n:Int)-1=((n-1:Nat):Int):=by omega
 have hk3:n-1<n:=by omega
 have hk4:n-1<=c:=by omega
 have hk5:IntKind.i64.wrap ((n-1:Nat):Int)=((n-1:Nat):Int):=IntWalk.i64_in _ (by omega);have D8:=hid ((D.set 0 (by simp) (.slice (some ⟨g,0,none⟩) (n-1) c)).alloc (.cells #[.int .i64 qp,.int .i64 qs,.int .i64 qt] 66));have O8:=hid (((EJ O (Nat.sub_le n 1) h0).kept (Cm (Kept.refl hb _) 0 (.slice (some ⟨g,0,none⟩) (n-1) c)).grows (.inr fun h=>hgb (Option.some.inj h))).alloc (.cells #[.int .i64 qp,.int .i64 qs,.int .i64 qt] 66))
 have H8:=hid (show Fg hb g w ((w.setCell ⟨hb,0,none⟩ (.slice (some ⟨g,0,none⟩) (n-1) c)).alloc (.cells #[.int .i64 qp,.int .i64 qs,.int .i64 qt] 66)) from(Fg.of_var (Cm (Kept.refl hb w) 0 (.slice (some ⟨g,0,none⟩) (n-1) c))).trans (Fg.of_below (Ad (Ac _) _)));clear hc I O;go_enter Try.func81,Try.ntmps81;go_wp2;go_ret;exact⟨⟨_,rfl⟩,⟨c,by rw[List.length_take,hN,Nat.min_eq_left (Nat.sub_le n 1)]; exact D8.out,by rw[List.length_take,hN,Nat.min_eq_left (Nat.sub_le n 1)]; exact O8.out,hgb,hlo⟩,H8.out⟩
end Go.Proofs.Ytgghhedkephohaa
