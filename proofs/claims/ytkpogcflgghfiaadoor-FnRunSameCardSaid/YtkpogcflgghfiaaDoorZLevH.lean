import Derived.Test.YtkpogcflgghfiaaDoorZLevS
import Derived.Test.YtkpogcflgghfiaaDoorZHead
import Derived.BigQuiet
import Derived.Deep.QuietTactic
import Derived.Deep.RegionHeld3
import Derived.Maps.AppendAt
import Derived.OwnWalk
import Derived.Laws.OwnMore
set_option linter.all false
set_option maxRecDepth 100000
set_option maxHeartbeats 8000000
namespace Go.Proofs.YtkpogcflgghfiaaDoor
open Go.RowKit
open M
theorem CellsAt.grown {W w':World} {b:Nat} {vs:List Value} {row:Option Nat} (h:CellsAt W b vs) (hg:W.grownBy w' row) (hr:row≠some b):CellsAt w' b vs :=
 h.of (hg.block b h.lt (fun e=>hr e.symm)) hg.size
theorem OD {W W':World} (B:Below W.heap.size W W'):W.grownBy W' Option.none:=⟨B.os,B.tape,B.output,B.size,fun k hk _=>B.block k hk⟩
theorem TI {w w':World} {base:Nat} {e:TypeId} {sz:Nat} {v:Value} {n:Nat} {xs:List Value} (h:w.ownsRow base e sz v n xs) (B:Below w.heap.size w w'):w'.ownsRow base e sz v n xs :=
 h.kept (OD B) (by
  cases hh:v.ownBlock with
  | none=>exact .inl rfl
  | some g=>exact .inr (by simp))
def TJ (w:World) (N n:Nat) (vs:List Value) (hd:List Int) (bs:List Bx) (v i:Value) (W:World):Prop :=
 ∃ j:Nat,j≤n∧i=.int .i64 j∧W.ownsRow (w.heap.size+1) 3 1 v (N+4*j) ((hd++flat (bs.take j)).map (Value.int .i64))∧CellsAt W w.heap.size vs∧Below w.heap.size w W
theorem Us {w W w1:World} {N n j:Nat} {vs:List Value} {hd:List Int} {bs:List Bx} {v v':Value} {za zb zc zd:Int} (hj:j<n) (hf:flat (bs.take (j+1))=flat (bs.take j)++[za,zb,zc,zd])
 (O:w1.ownsRow (w.heap.size+1) 3 1 v' (N+4*j+4) ((hd++flat (bs.take j)++[za,zb,zc,zd]).map (Value.int .i64))) (L:CellsAt W w.heap.size vs) (B:Below w.heap.size w W) (hg:W.grownBy w1 v.ownBlock) (hb:∀ g,v.ownBlock=some g→w.heap.size+1≤g) :
 TJ w N n vs hd bs v' (.int .i64 (j+1)) w1 :=
 ⟨j+1,by omega,by simp,by rw [hf,← List.append_assoc]; exact O,L.grown hg (fun e=>by have:=hb _ e; omega),B.grown hg B.size (fun g e=>by have:=hb g e; omega)⟩
end Go.Proofs.YtkpogcflgghfiaaDoor
namespace Go.Proofs.YtkpogcflgghfiaaDoor
open Go.RowKit
open M
def EJ (bs:List Bx):List Value:=(flat bs).map (Value.int .i64)
def comp (q:Bx):Nat→Int
 | 0=>q.a
 | 1=>q.b
 | 2=>q.c
 | _=>q.d
theorem Mm:∀ (bs:List Bx) (k r:Nat),k<bs.length→r<4→(flat bs)[k*4+r]?=some (comp (bs.getD k bz) r)
 | [],k,r,h,_=>absurd h (by simp)
 | q::bs,0,r,_,hr=>by
  match r,hr with
  | 0,_=>rfl
  | 1,_=>rfl
  | 2,_=>rfl
  | 3,_=>rfl
 | q::bs,k+1,r,h,hr=>by
  have t:=Mm bs k r (by simpa using h) hr;have e:(k+1)*4+r=(k*4+r)+1+1+1+1:=by omega
  rw [e];simp only [flat,List.getElem?_cons_succ];rw [t];rfl
theorem OH {bs:List Bx} {k r:Nat} (hk:k<bs.length) (hr:r<4):(EJ bs)[k*4+r]?=some (.int .i64 (comp (bs.getD k bz) r)):=by
 unfold EJ;rw [List.getElem?_map,Mm bs k r hk hr];rfl
theorem Jf (bs:List Bx):(EJ bs).length=bs.length*4:=by
 unfold EJ;rw [List.length_map,OK,Nat.mul_comm]
theorem Fc (qs bs:List Bx):EJ (qs++bs)=EJ qs++EJ bs:=by simp [EJ,Kd]
theorem BoxAt.comp {w:World} {b o:Nat} {q:Bx} (h:BoxAt w b o q) {r:Nat} (hr:r<4):w.cell? ⟨b,o+r,none⟩=some (.int .i64 (comp q r)):=by
 match r,hr with
 | 0,_=>exact h.c0
 | 1,_=>exact h.c1
 | 2,_=>exact h.c2
 | 3,_=>exact h.c3
theorem Boxes.news {w:World} {b off m:Nat} {bs:List Bx} (I:Boxes w (some ⟨b,off,Option.none⟩) m bs):∀ j u,(EJ bs)[j]?=some u→w.cell? ((⟨b,off,Option.none⟩:Addr).add j)=some u:=by
 intro j u hj;have hl:j<bs.length*4:=by
  rw [← Jf];rcases Nat.lt_or_ge j (EJ bs).length with h | h
  · exact h
  · rw [List.getElem?_eq_none h] at hj; cases hj
 obtain ⟨b',off',e,_,hc⟩:=I.2 (by have:=I.1; omega);cases e
 have ej:j=(j / 4)*4+j % 4:=by omega
 have hk:j / 4<bs.length:=by omega
 rw [ej,OH hk (by omega)] at hj;cases hj
 rw [Addr.add_lit];have t:=(hc (j / 4) (by have:=I.1; omega)).comp (r:=j % 4) (by omega);rw [Nat.add_assoc,← ej] at t;exact t
theorem Boxes.of_own {w:World} {base:Nat} {e:TypeId} {v:Value} {n:Nat} {bs:List Bx} (h:w.ownsRow base e 4 v n (EJ bs)):∃ A cap,v=.slice A n cap∧Boxes w A n bs∧(∀ g off,A=some ⟨g,off,none⟩→base≤g):=by
 have hl:bs.length=n:=by have:=h.1; rw [Jf] at this; omega
 have h0:=h;rcases h0.2 with ⟨rfl,rfl⟩ | ⟨g,cap,cur,rfl,hbg,hh,_⟩
 · exact ⟨none,0,rfl,⟨hl,fun hn=>by omega⟩,fun g off e=>by cases e⟩
 · refine ⟨_,_,rfl,⟨hl,fun _=>⟨g,0,rfl,(h.lt g rfl).2,fun k hk=>?_⟩⟩,fun g' off e=>by cases e; exact hbg⟩;have hc:∀ r,r<4→w.cell? ⟨g,0+k*4+r,none⟩=some (.int .i64 (comp (bs.getD k bz) r)):=fun r hr=>by
    rw [Nat.zero_add,h.cellAt (k*4+r) (by omega),OH (by omega) hr]
   exact ⟨hc 0 (by omega),hc 1 (by omega),hc 2 (by omega),hc 3 (by omega)⟩
theorem Boxes.kept {w w':World} {A:Option Addr} {n r:Nat} {bs:List Bx} (h:Boxes w A n bs) (K:Kept r w w') (hA:0<n→∀ k off,A=some ⟨k,off,none⟩→k≠r):Boxes w' A n bs :=
 ⟨h.1,fun hn=>by
  obtain ⟨b,off,e,hb,hc⟩:=h.2 hn;exact ⟨b,off,e,Nat.lt_of_lt_of_le hb K.size,fun k hk=>(hc k hk).of (K.block b hb (hA hn b off e))⟩⟩
theorem Boxes.lt {w:World} {A:Option Addr} {n:Nat} {bs:List Bx} (h:Boxes w A n bs) (hn:0<n):∀ k off,A=some ⟨k,off,none⟩→k<w.heap.size:=fun k off e=>by
 obtain ⟨b,off',e',hb,_⟩:=h.2 hn;rw [e'] at e;cases e
 exact hb
theorem Hr:(Tryd.prog.info? 27).map (fun i=>(i.zero,i.size,i.bytes))=some (some (box 0 0 0 0),4,32):=by kernel_rfl
theorem EK (bs:List Bx):∀ u∈EJ bs,u.oneCell'=true:=ints_oneCell _ _
theorem Hs (w:World) (base:Nat) (ty:TypeId) (v:Value) (n:Nat) (xs:List Value) (hown:w.ownsRow base 27 4 v n xs) (c:Nat) :
 (Builtin.append_ #[25,25] ty #[v,.slice none 0 c]).run Tryd.prog w=.ok v w:=by
 obtain ⟨i0,hi,hz0,hz1,hz2⟩:=info_parts Hr;rcases hown.2 with ⟨rfl,rfl⟩ | ⟨g,cap,cur,rfl,_,_,hnc,_⟩
 · simp [Builtin.append_,run_underlying Tryd.underlying25,sizeOf,typeInfo,hi,Builtin.lenOf,Builtin.firstCells]
 · simp [Builtin.append_,run_underlying Tryd.underlying25,sizeOf,typeInfo,hi,Builtin.lenOf,Builtin.firstCells,hnc,storeCells]
theorem F7 (w:World) (base:Nat) (ty:TypeId) (v:Value) (n:Nat) (qs:List Bx) (hown:w.ownsRow base 27 4 v n (EJ qs)) (A:Option Addr) (m c:Nat) (bs:List Bx) (I:Boxes w A m bs)
 (hn:n+m≤1000000) (hb:base≤w.heap.size) :
 ∃ v' w',(Builtin.append_ #[25,25] ty #[v,.slice A m c]).run Tryd.prog w=.ok v' w'∧w'.ownsRow base 27 4 v' (n+m) (EJ (qs++bs))∧w.grownBy w' v.ownBlock∧(v'.ownBlock=v.ownBlock∨v'.ownBlock=some w.heap.size):=by
 obtain ⟨i0,hi,hz0,hz1,hz2⟩:=info_parts Hr;by_cases h:∃ b off,A=some ⟨b,off,Option.none⟩
 · obtain ⟨b,off,rfl⟩:=h;obtain ⟨v',w',hr,h2,h3,_,h5⟩:=run_append_own_at (P:=Tryd.prog) w base 25 ty 27 i0 (box 0 0 0 0) 4 32 Tryd.underlying25 hi hz0 hz1 hz2 rfl (by decide) v n _ hown ⟨b,off,Option.none⟩ m c (EJ bs) (by rw [Jf,I.1]) I.news (EK _) (by unfold maxLen; omega) (by omega) hb;exact ⟨v',w',hr,by rw [Fc]; exact h2,h3,h5⟩
 · have hm:m=0:=by
    rcases Nat.eq_zero_or_pos m with h0 | h0
    · exact h0
    · obtain ⟨b,off,e,_⟩:=I.2 h0;exact (h ⟨b,off,e⟩).elim
   subst hm;have hy:bs=[]:=List.eq_nil_of_length_eq_zero I.1;subst hy;cases A with
   | none=>exact ⟨v,w,Hs w base ty v n _ hown c,by simpa using hown,World.grownBy.refl w _,.inl rfl⟩
   | some ad =>
    obtain ⟨v',w',hr,h2,h3,_,h5⟩:=run_append_own_at (P:=Tryd.prog) w base 25 ty 27 i0 (box 0 0 0 0) 4 32 Tryd.underlying25 hi hz0 hz1 hz2 rfl (by decide) v n _ hown ad 0 c [] rfl (fun j u hj=>by simp at hj) (fun u hu=>by simp at hu) (by unfold maxLen; omega) (by omega) hb;exact ⟨v',w',hr,by simpa using h2,h3,h5⟩
theorem CV (w:World) {ops:Array Oper} {rest:List Oper} {o:Oper} {a:Act} {Q:Exit→Act→World→Prop} (hgd:o.guard=Option.none) (s x:Operand)
 (ho:o.op=.call { callee:=.builtin .append,args:=#[s,x],argTypes:=#[25,25] }) (base:Nat) (v:Value) (n:Nat) (qs:List Bx) (hs:a.eval s=v) (hown:w.ownsRow base 27 4 v n (EJ qs))
 (A:Option Addr) (m c:Nat) (bs:List Bx) (hx:a.eval x=.slice A m c) (I:Boxes w A m bs) (hn:n+m≤1000000) (hb:base≤w.heap.size)
 (h:∀ v' w',w'.ownsRow base 27 4 v' (n+m) (EJ (qs++bs))→w.grownBy w' v.ownBlock→(v'.ownBlock=v.ownBlock∨v'.ownBlock=some w.heap.size)→wpList Tryd.prog ops Q rest (a.put o.dst v') w') :
 wpList Tryd.prog ops Q (o::rest) a w:=by
 refine wpList_plain hgd fun K hK=>?_;obtain ⟨v',w',hr,h2,h3,h4⟩:=F7 w base o.type v n qs hown A m c bs I hn hb;unfold Oper.wp execOp;simp only [ho,resolve,invoke,builtin,Sem.run_bind,Sem.run_pure,Result.andThen_ok,List.map_toArray,List.map_cons,List.map_nil,hs,hx,hr];exact hK _ _ (h v' w' h2 h3 h4)
theorem Boxes.one (w:World) (B:Nat) (a b c d:Int) (t:TypeId) (hB:B=w.heap.size):Boxes (w.alloc (.cells #[.int .i64 a,.int .i64 b,.int .i64 c,.int .i64 d] t)) (some ⟨B,0,none⟩) 1 [⟨a,b,c,d⟩] :=
 hB▸⟨rfl,fun _=>⟨w.heap.size,0,rfl,by simp,fun k hk=>by
  match k,hk with
  | 0,_=>exact ⟨by simp,by simp,by simp,by simp⟩⟩⟩
end Go.Proofs.YtkpogcflgghfiaaDoor
