import Derived.Test.YtgghhedkephohaaZCtRow
import Derived.Test.YtgghhedkephohaaZEnBuild
set_option linter.all false
set_option maxRecDepth 100000
set_option maxHeartbeats 8000000
namespace Go.Proofs.Ytgghhedkephohaa
open Go.RowKit
open M
theorem Cn{w:World}{o:Oper}{a:Act}{K:Act->World->Prop}{Q:Exit->Act->World->Prop}(x:Operand)(hop:o.op=.buildSlice 62 1 #[(0,x)])(p s t:Int)(hx:a.eval x=.agg #[.int .i64 p,.int .i64 s,.int .i64 t])
 (h:∀(g:Nat) (w':World),Below w.heap.size w w'->w.heap.size<=g->Conts w' (some ⟨g,0,none⟩) 1 [⟨p,s,t⟩]->K (a.put o.dst (.slice (some ⟨g,0,none⟩) 1 1)) w'):o.wp Try.prog a w K Q:=by
 obtain⟨i0,hi,hz0,hz1,hz2⟩:=info_parts BX;refine wp_buildSlice 62 66 1 _ hop #[.int .i64 p,.int .i64 s,.int .i64 t] i0 (.agg #[.int .i64 0,.int .i64 0,.int .i64 0]) Try.underlying62 hi hz0 (by rw[hz1]; decide) (by rw[hz1]; decide) ?_ (h _ _ (Ad (Ac w) _) (Nat.le_refl _) (Conts.one w _ p s t _ rfl));rw[hz1];simp only[List.map_toArray,List.map_cons,List.map_nil,hx]
 first | kernel_rfl | (simp[Instr.fill,Array.range,Value.cells]; done) | go_simp
theorem BJ{w:World}{o:Oper}{a:Act}{K:Act->World->Prop}{Q:Exit->Act->World->Prop}(s x:Operand)
 (ho:o.op=.call { callee:=.builtin .append,args:=#[s,x],argTypes:=#[62,62] }) (base:Nat) (v:Value) (n:Nat) (qs:List Ct) (hs:a.eval s=v) (hown:w.ownsRow base 66 3 v n (AS qs))
 (A:Option Addr) (m c:Nat) (xs:List Ct) (hx:a.eval x=.slice A m c) (I:Conts w A m xs) (hn:n+m<=10000000) (hb:base<=w.heap.size)
 (h:∀ v' w',w'.ownsRow base 66 3 v' (n+m) (AS (qs++xs))->w.grownBy w' v.ownBlock->(v'.ownBlock=v.ownBlock\/v'.ownBlock=some w.heap.size)->K (a.put o.dst v') w'):o.wp Try.prog a w K Q:=by
 obtain⟨v',w',hr,h2,h3,h4⟩:=BZ w base o.type v n qs hown A m c xs I hn hb;unfold Oper.wp execOp;simp only[ho,resolve,invoke,builtin,Sem.run_bind,Sem.run_pure,Result.andThen_ok,List.map_toArray,List.map_cons,List.map_nil,hs,hx,hr];exact h v' w' h2 h3 h4
end Go.Proofs.Ytgghhedkephohaa
