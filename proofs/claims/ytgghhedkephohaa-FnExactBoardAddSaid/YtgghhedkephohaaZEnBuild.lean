import Derived.Test.YtgghhedkephohaaZEnRow
import Derived.Test.YtgghhedkephohaaZInBuild
set_option linter.all false
set_option maxRecDepth 100000
set_option maxHeartbeats 8000000
namespace Go.Proofs.Ytgghhedkephohaa
open Go.RowKit
open M
theorem C9(w:World):(Instr.buildSlice 23 0 #[]).run Try.prog w=.ok (.slice (some ⟨w.heap.size,0,none⟩) 0 0) (w.alloc (.cells #[] 25)):=by
 obtain⟨i0,hi,hz0,hz1,hz2⟩:=info_parts BL;simp[Instr.buildSlice,run_underlying Try.underlying23,sizeOf,typeInfo,hi,Instr.fill,newRow]
 first | rfl | kernel_rfl | simp[Array.range]
theorem Ba{w:World}{o:Oper}{a:Act}{K:Act->World->Prop}{Q:Exit->Act->World->Prop}(hop:o.op=.buildSlice 23 0 #[])
 (h:∀(g:Nat) (w':World),Below w.heap.size w w'->w.heap.size<=g->w'.ownsRow g 25 2 (.slice (some ⟨g,0,none⟩) 0 0) 0 (AM [])->K (a.put o.dst (.slice (some ⟨g,0,none⟩) 0 0)) w'):o.wp Try.prog a w K Q:=by
 unfold Oper.wp execOp;simp only[hop,Sem.run_bind,List.map_toArray,List.map_nil,C9,Result.andThen_ok];exact h _ _ (Ad (Ac w) _) (Nat.le_refl _) (Ah w _ _ rfl (Nat.le_refl _))
theorem AE{w:World}{o:Oper}{a:Act}{K:Act->World->Prop}{Q:Exit->Act->World->Prop}(x:Operand)(hop:o.op=.buildSlice 23 1 #[(0,x)])(p s:Int)(hx:a.eval x=.agg #[.int .i64 p,.int .i64 s])
 (h:∀(g:Nat) (w':World),Below w.heap.size w w'->w.heap.size<=g->Ents w' (some ⟨g,0,none⟩) 1 [⟨p,s⟩]->K (a.put o.dst (.slice (some ⟨g,0,none⟩) 1 1)) w'):o.wp Try.prog a w K Q:=by
 obtain⟨i0,hi,hz0,hz1,hz2⟩:=info_parts BL;refine wp_buildSlice 23 25 1 _ hop #[.int .i64 p,.int .i64 s] i0 (.agg #[.int .i64 0,.int .i64 0]) Try.underlying23 hi hz0 (by rw[hz1]; decide) (by rw[hz1]; decide) ?_ (h _ _ (Ad (Ac w) _) (Nat.le_refl _) (Ents.one w _ p s _ rfl));rw[hz1];simp only[List.map_toArray,List.map_cons,List.map_nil,hx]
 first | kernel_rfl | (simp[Instr.fill,Array.range,Value.cells]; done) | go_simp
theorem Ae{w:World}{o:Oper}{a:Act}{K:Act->World->Prop}{Q:Exit->Act->World->Prop}(s x:Operand)
 (ho:o.op=.call { callee:=.builtin .append,args:=#[s,x],argTypes:=#[23,23] }) (base:Nat) (v:Value) (n:Nat) (qs:List En) (hs:a.eval s=v) (hown:w.ownsRow base 25 2 v n (AM qs))
 (A:Option Addr) (m c:Nat) (xs:List En) (hx:a.eval x=.slice A m c) (I:Ents w A m xs) (hn:n+m<=10000000) (hb:base<=w.heap.size)
 (h:∀ v' w',w'.ownsRow base 25 2 v' (n+m) (AM (qs++xs))->w.grownBy w' v.ownBlock->K (a.put o.dst v') w'):o.wp Try.prog a w K Q:=by
 obtain⟨v',w',hr,h2,h3,_⟩:=A6 w base o.type v n qs hown A m c xs I hn hb;unfold Oper.wp execOp;simp only[ho,resolve,invoke,builtin,Sem.run_bind,Sem.run_pure,Result.andThen_ok,List.map_toArray,List.map_cons,List.map_nil,hs,hx,hr];exact h v' w' h2 h3
theorem Ak{W W':World}{base:Nat}{e:TypeId}{sz:Nat}{v:Value}{n:Nat}{xs:List Value}(h:W.ownsRow base e sz v n xs)(B:Below W.heap.size W W'):W'.ownsRow base e sz v n xs:=h.kept (show W.grownBy W' none from⟨B.os,B.tape,B.output,B.size,fun k hk _=>B.block k hk⟩) (by
 cases h':v.ownBlock with
 | none=>exact .inl rfl
 | some g=>exact .inr (by simp))
theorem Be{W:World}{base:Nat}{e:TypeId}{sz:Nat}{A:Option Addr}{n c m:Nat}{xs:List Value}(h:W.ownsRow base e sz (.slice A n c) m xs):m<=c:=by
 rcases h.2 with⟨e1,rfl⟩ | ⟨g,cap,cur,e1,_,_,hnc,_⟩
 . omega
 . cases e1
   exact hnc
end Go.Proofs.Ytgghhedkephohaa
