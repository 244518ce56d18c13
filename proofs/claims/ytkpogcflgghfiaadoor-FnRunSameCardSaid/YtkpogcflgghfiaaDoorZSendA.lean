import Derived.Test.YtkpogcflgghfiaaDoorZCelS
import Derived.Test.YtkpogcflgghfiaaDoorZRegN
import Derived.Test.YtkpogcflgghfiaaDoorZRenCtx
set_option linter.all false
set_option maxRecDepth 100000
set_option maxHeartbeats 8000000
namespace Go.Proofs.YtkpogcflgghfiaaDoor
open Go.RowKit
open M
open Ren
def cA:Code→Code | .seq a _=>a | c=>c
def cB:Code→Code | .seq _ b=>b | c=>c
def cI:Code→Code | .block _ a=>a | .loop a=>a | c=>c
def cO:Code→Array Oper | .region _ ops _=>ops | _=>#[]
noncomputable def Fs (f:Func):Code:=match f.body with | some c=>c | none=>.skip
noncomputable abbrev sB:Code:=Fs Tryd.f33
noncomputable def s0:Code:=cA sB
noncomputable def s1:Code:=cA (cB sB)
noncomputable def s2:Code:=cA (cB (cB sB))
noncomputable def sM:Code:=cB (cB (cB sB))
noncomputable def s3:Code:=cA (cA sM)
noncomputable def sL:Code:=cI (cI (cB (cA sM)))
noncomputable def s9:Code:=cB sM
noncomputable def s4:Code:=cA sL
noncomputable def sK:Code:=cI (cA (cB (cB sL)))
noncomputable def s5:Code:=cA sK
noncomputable def s6:Code:=cA (cB sK)
noncomputable def s7:Code:=cB (cB sK)
noncomputable def s8:Code:=cB (cB (cB sL))
theorem Ui:sB=.seq s0 (.seq s1 (.seq s2 (.seq (.seq s3 (.block 0 (.loop sL))) s9))):=rfl
theorem RD:sL=.seq s4 (.seq (.cond (.tmp 20) .skip (.exit 0)) (.seq (.block 1 (.seq s5 (.seq s6 s7))) s8)):=rfl
abbrev TS (J:Nat→Value):Array Value:=#[J 0,J 1,J 2,J 3,J 4,J 5,J 6,J 7,J 8,J 9,J 10,J 11,J 12,J 13,J 14,J 15,J 16,J 17,J 18,J 19,J 20,J 21,J 22,J 23,J 24,J 25,J 26,J 27,J 28,J 29,J 30,J 31,J 32,J 33]
theorem FT {T:Array Value} (h:T.size=34):T=TS fun n=>T.getD n undef:=by
 refine Array.ext h fun i h1 h2=>?_;have e:∀ n (hn:n<T.size),T.getD n undef=T[n]:=fun n hn=>by simp [Array.getD,hn]
 simp only [TS];have:i<34:=h▸h1
 iterate 34 (rcases i with _ | i; · exact (e _ _).symm)
 omega
abbrev AE (b:Nat):Value:=.pointer (some ⟨b,0,none⟩)
structure Sl (h0:Array Obj) (lv:List Value) (is ch:Value) (b:Nat) (T:Array Value) (u:World):Prop where
 size:T.size=34
 t1:T.getD 1 undef=is
 t2:T.getD 2 undef=ch
 t3:T.getD 3 undef=AE b
 L:CellsAt u b lv
 hp:Hp h0 u
 le:h0.size≤b
structure Ss (h0:Array Obj) (lv:List Value) (is ch:Value) (b c:Nat) (st:List Value) (T:Array Value) (u:World):Prop extends Sl h0 lv is ch b T u where
 t6:T.getD 6 undef=AE c
 S:CellsAt u c st
 lc:h0.size≤c
 ne:b≠c
theorem AC {P:Program} {ops:Array Oper} {Q:Exit→Act→World→Prop}:∀ {l:List Nat} {os:List Oper},l.map (fun i=>ops[i]?)=os.map some→wpOps P ops Q l=wpList P ops Q os
 | [],[],_=>rfl
 | i::l,o::os,h=>by
  simp only [List.map_cons,List.cons.injEq] at h;funext a w;simp only [wpOps,h.1,wpList,AC h.2]
 | [],_::_,h=>by cases h
 | _::_,[],h=>by cases h
structure Sc (h0:Array Obj) (lv:List Value) (is ch:Value) (n:Nat) (b c:Nat) (j:Nat) (st:List Value) (T:Array Value) (u:World):Prop extends Ss h0 lv is ch b c st T u where
 t17:T.getD 17 undef=is
 t18:T.getD 18 undef=.int .i64 n
 t19:T.getD 19 undef=.int .i64 j
section
variable {lv:List Value} {is ch:Value} {h0:Array Obj}
theorem w0 (h11:lv.length=11) (h1:lv.all (·.oneCell')=true) {J:Nat→Value} {w:World} (H:Hp h0 w) (j0:J 0=.agg lv.toArray) (j1:J 1=is) (j2:J 2=ch):s0.wp Tryd.prog (fun e a u=>e=.normal∧a.defers=[]∧∃ b,Sl h0 lv is ch b a.tmps u) ⟨TS J,[]⟩ w:=by
 rw [show s0=.region 0 _ false from rfl];go_wp;refine ⟨rfl,rfl,w.heap.size,rfl,rfl,rfl,rfl,CellsAt.new w _ lv 29 rfl,H.step (Aa (Ac w) _),H.size⟩
theorem w1 (h11:lv.length=11) {st:List Value} (h9:st.length=9) (hs1:st.all (·.oneCell')=true) (b:Bool)
 (hS:∀ u,Hp h0 u→Calls Tryd.prog 52 #[.agg lv.toArray] u fun e w'=>e=.returned (.tuple #[.agg st.toArray,.bool b])∧Below u.heap.size u w') {B:Nat} {T:Array Value} {w:World} (H:Sl h0 lv is ch B T w) :
 s1.wp Tryd.prog (fun e a u=>e=.normal∧a.defers=[]∧∃ b c,Ss h0 lv is ch b c st a.tmps u) ⟨T,[]⟩ w:=by
 obtain ⟨J,rfl⟩:∃ J,T=TS J:=⟨_,FT H.size⟩;have j1:J 1=is:=H.t1;have j2:J 2=ch:=H.t2;have j3:J 3=AE B:=H.t3;rw [show s1=.region 1 _ false from rfl];apply wp_region_lit;refine Af rfl 29 (.tmp 3) rfl B j3 lv H.L Tryd.underlying29 rfl (by rw [h11]; kernel_rfl) ?_;go_wp;refine (hS _ H.hp).mono ?_;rintro e w1 ⟨rfl,B1⟩;dsimp only
 iterate 13 go_step
 refine Ah rfl 34 (.tmp 6) (.tmp 13) rfl w1.heap.size rfl st rfl _ (CellsAt.new w1 _ [_,_,_,_,_,_,_,_,_] 34 rfl) (by simp [h9]) (by rw [h9]; kernel_rfl) hs1 ?_;intro w2 K S;go_wp;have B2:=Aa B1 (.cells #[.int .i64 0,.int .i64 0,.int .i64 0,.int .i64 0,.int .i64 0,.int .i64 0,.int .i64 0,.bool false,.bool false] 34);refine ⟨rfl,rfl,B,w1.heap.size,⟨rfl,rfl,rfl,rfl,(H.L.step B2).kept K ?_,(H.hp.step B2).kept K ?_,H.le⟩,rfl,S,?_,?_⟩
 all_goals have:=H.L.lt
 all_goals have:=B1.size
 all_goals have:=H.hp.size
 all_goals omega
theorem w2 {st:List Value} (h9:st.length=9) {b c:Nat} {T:Array Value} {w:World} (H:Ss h0 lv is ch b c st T w) :
 wpOps Tryd.prog (cO s2) (fun e a u=>e=.normal∧a.defers=[]∧Ss h0 lv is ch b c st a.tmps u∧a.tmps.getD 15 undef=ch∧a.tmps.getD 16 undef=.agg st.toArray) [0,1] ⟨T,[]⟩ w:=by
 obtain ⟨J,rfl⟩:∃ J,T=TS J:=⟨_,FT H.size⟩;have j1:J 1=is:=H.t1;have j2:J 2=ch:=H.t2;have j3:J 3=AE b:=H.t3;have j6:J 6=AE c:=H.t6;have e:cO s2=#[_,_,_]:=rfl;rw [AC (os:=[_,_]) rfl];simp only [e,List.getElem_toArray,List.getElem_cons_zero,List.getElem_cons_succ]
 iterate 3 go_step
 refine Af rfl 34 (.tmp 6) rfl c rfl st H.S Tryd.underlying34 rfl (by rw [h9]; kernel_rfl) ?_;go_wp;exact ⟨rfl,rfl,⟨⟨rfl,rfl,rfl,rfl,H.L,H.hp,H.le⟩,rfl,H.S,H.lc,H.ne⟩,rfl,rfl⟩
theorem w3 {A:Option Addr} {n k:Nat} (hi:is=.slice A n k) {st:List Value} {b c:Nat} {T:Array Value} {w:World} (H:Ss h0 lv is ch b c st T w) :
 s3.wp Tryd.prog (fun e a u=>e=.normal∧a.defers=[]∧Sc h0 lv is ch n b c 0 st a.tmps u) ⟨T,[]⟩ w:=by
 obtain ⟨J,rfl⟩:∃ J,T=TS J:=⟨_,FT H.size⟩;have j1:J 1=.slice A n k:=hi▸H.t1;have j2:J 2=ch:=H.t2;have j3:J 3=AE b:=H.t3;have j6:J 6=AE c:=H.t6;rw [show s3=.region 3 _ false from rfl];go_wp;subst hi;exact ⟨rfl,rfl,⟨⟨rfl,rfl,rfl,rfl,H.L,H.hp,H.le⟩,rfl,H.S,H.lc,H.ne⟩,rfl,rfl,rfl⟩
theorem w4 {n:Nat} {b c j:Nat} {st:List Value} {T:Array Value} {w:World} (H:Sc h0 lv is ch n b c j st T w) :
 s4.wp Tryd.prog (fun e a u=>e=.normal∧a.defers=[]∧Sc h0 lv is ch n b c j st a.tmps u∧a.tmps.getD 20 undef=.bool (decide (j<n))) ⟨T,[]⟩ w:=by
 obtain ⟨J,rfl⟩:∃ J,T=TS J:=⟨_,FT H.size⟩;have j1:J 1=is:=H.t1;have j2:J 2=ch:=H.t2;have j3:J 3=AE b:=H.t3;have j6:J 6=AE c:=H.t6;have j17:J 17=is:=H.t17;have j18:J 18=.int .i64 n:=H.t18;have j19:J 19=.int .i64 j:=H.t19;rw [show s4=.region 4 _ false from rfl];go_wp;exact ⟨rfl,rfl,⟨⟨⟨rfl,rfl,rfl,rfl,H.L,H.hp,H.le⟩,rfl,H.S,H.lc,H.ne⟩,rfl,rfl,rfl⟩,by simp⟩
structure Si (h0:Array Obj) (lv:List Value) (is ch:Value) (n:Nat) (b c d:Nat) (j:Nat) (st x:List Value) (T:Array Value) (u:World):Prop extends Sc h0 lv is ch n b c j st T u where
 t9:T.getD 9 undef=AE d
 X:CellsAt u d x
theorem w5 {n k:Nat} {q o:Nat} (hi:is=.slice (some ⟨q,o,none⟩) n k) {b c j:Nat} {st x:List Value} (h3:x.length=3) (hx1:x.all (·.oneCell')=true) (hj:j<n) (hn:n≤281474976710656) {T:Array Value} {w:World} (H:Sc h0 lv is ch n b c j st T w) (hx:w.rangeAt q (o+3*j) x) :
 s5.wp Tryd.prog (fun e a u=>e=.normal∧a.defers=[]∧∃ d,Si h0 lv is ch n b c d j st x a.tmps u) ⟨T,[]⟩ w:=by
 obtain ⟨J,rfl⟩:∃ J,T=TS J:=⟨_,FT H.size⟩;have j1:J 1=is:=H.t1;have j2:J 2=ch:=H.t2;have j3:J 3=AE b:=H.t3;have j6:J 6=AE c:=H.t6;have j17:J 17=.slice (some ⟨q,o,none⟩) n k:=hi▸H.t17;have j18:J 18=.int .i64 n:=H.t18;have j19:J 19=.int .i64 j:=H.t19;rw [show s5=.region 5 _ false from rfl];apply wp_region_lit
 iterate 3 go_step
 refine wpList_load_mid rfl 39 (.tmp 21) rfl q (o+j*3) rfl x _ (by rw [Nat.mul_comm]; exact hx) Tryd.underlying39 rfl (by rw [h3]; kernel_rfl) ?_
 iterate 3 go_step
 refine Ah rfl 39 (.tmp 9) (.tmp 22) rfl w.heap.size rfl x rfl _ (CellsAt.new w _ [_,_,_] 39 rfl) (by simp [h3]) (by rw [h3]; kernel_rfl) hx1 ?_;intro w2 K X;go_wp;subst hi;have B2:=Aa (Ac w) (.cells #[.int .i64 0,.int .i64 0,.bool false] 39);refine ⟨rfl,rfl,w.heap.size,⟨⟨⟨rfl,rfl,rfl,rfl,(H.L.step B2).kept K ?_,(H.hp.step B2).kept K ?_,H.le⟩,rfl,(H.S.step B2).kept K ?_,H.lc,H.ne⟩,rfl,rfl,rfl⟩,rfl,X⟩
 all_goals have:=H.L.lt
 all_goals have:=H.S.lt
 all_goals have:=H.hp.size
 all_goals omega
theorem w6 (h11:lv.length=11) {n:Nat} {b c d j:Nat} {st st' x:List Value} (h9:st.length=9) (h9':st'.length=9) (h3:x.length=3) (hs1:st'.all (·.oneCell')=true) {ok:Bool}
 (hS:∀ u,Hp h0 u→Calls Tryd.prog 10 #[.agg lv.toArray,.agg st.toArray,.agg x.toArray] u fun e w'=>e=.returned (.tuple #[.agg st'.toArray,.bool ok])∧Below u.heap.size u w') {T:Array Value} {w:World} (H:Si h0 lv is ch n b c d j st x T w) :
 s6.wp Tryd.prog (fun e a u=>e=.normal∧a.defers=[]∧Sc h0 lv is ch n b c j st' a.tmps u) ⟨T,[]⟩ w:=by
 obtain ⟨J,rfl⟩:∃ J,T=TS J:=⟨_,FT H.size⟩;have j1:J 1=is:=H.t1;have j2:J 2=ch:=H.t2;have j3:J 3=AE b:=H.t3;have j6:J 6=AE c:=H.t6;have j9:J 9=AE d:=H.t9;have j17:J 17=is:=H.t17;have j18:J 18=.int .i64 n:=H.t18;have j19:J 19=.int .i64 j:=H.t19;rw [show s6=.region 6 _ false from rfl];apply wp_region_lit;refine Af rfl 29 (.tmp 3) rfl b j3 lv H.L Tryd.underlying29 rfl (by rw [h11]; kernel_rfl) ?_;refine Af rfl 34 (.tmp 6) rfl c j6 st H.S Tryd.underlying34 rfl (by rw [h9]; kernel_rfl) ?_;refine Af rfl 39 (.tmp 9) rfl d j9 x H.X Tryd.underlying39 rfl (by rw [h3]; kernel_rfl) ?_;go_wp
 refine (hS _ H.hp).mono ?_;rintro e w1 ⟨rfl,B1⟩;dsimp only
 iterate 10 go_step
 refine Ah rfl 34 (.tmp 6) (.tmp 28) rfl c rfl st' rfl _ (H.S.step B1) (by rw [h9,h9']; omega) (by rw [h9']; kernel_rfl) hs1 ?_;intro w2 K S;go_wp;exact ⟨rfl,rfl,⟨⟨rfl,rfl,rfl,rfl,(H.L.step B1).kept K H.ne,(H.hp.step B1).kept K H.lc,H.le⟩,rfl,S,H.lc,H.ne⟩,rfl,rfl,rfl⟩
theorem w7 {st:List Value} (h9:st.length=9) {n b c j:Nat} {T:Array Value} {w:World} (H:Sc h0 lv is ch n b c j st T w) :
 wpOps Tryd.prog (cO s7) (fun e a u=>e=.normal∧a.defers=[]∧Sc h0 lv is ch n b c j st a.tmps u∧a.tmps.getD 30 undef=ch∧a.tmps.getD 31 undef=.agg st.toArray) [0,1] ⟨T,[]⟩ w:=by
 obtain ⟨J,rfl⟩:∃ J,T=TS J:=⟨_,FT H.size⟩;have j1:J 1=is:=H.t1;have j2:J 2=ch:=H.t2;have j3:J 3=AE b:=H.t3;have j6:J 6=AE c:=H.t6;have j17:J 17=is:=H.t17;have j18:J 18=.int .i64 n:=H.t18;have j19:J 19=.int .i64 j:=H.t19;have e:cO s7=#[_,_,_]:=rfl;rw [AC (os:=[_,_]) rfl];simp only [e,List.getElem_toArray,List.getElem_cons_zero,List.getElem_cons_succ]
 iterate 3 go_step
 refine Af rfl 34 (.tmp 6) rfl c rfl st H.S Tryd.underlying34 rfl (by rw [h9]; kernel_rfl) ?_;go_wp;exact ⟨rfl,rfl,⟨⟨⟨rfl,rfl,rfl,rfl,H.L,H.hp,H.le⟩,rfl,H.S,H.lc,H.ne⟩,rfl,rfl,rfl⟩,rfl,rfl⟩
theorem w8 {st:List Value} {n b c j:Nat} (hj:j<n) (hn:n≤281474976710656) {T:Array Value} {w:World} (H:Sc h0 lv is ch n b c j st T w) :
 s8.wp Tryd.prog (fun e a u=>e=.normal∧a.defers=[]∧Sc h0 lv is ch n b c (j+1) st a.tmps u) ⟨T,[]⟩ w:=by
 obtain ⟨J,rfl⟩:∃ J,T=TS J:=⟨_,FT H.size⟩;have j1:J 1=is:=H.t1;have j2:J 2=ch:=H.t2;have j3:J 3=AE b:=H.t3;have j6:J 6=AE c:=H.t6;have j17:J 17=is:=H.t17;have j18:J 18=.int .i64 n:=H.t18;have j19:J 19=.int .i64 j:=H.t19;rw [show s8=.region 8 _ false from rfl];go_wp;exact ⟨rfl,rfl,⟨⟨⟨rfl,rfl,rfl,rfl,H.L,H.hp,H.le⟩,rfl,H.S,H.lc,H.ne⟩,rfl,rfl,by simp⟩⟩
theorem w9 {st:List Value} {n b c j:Nat} {T:Array Value} {w:World} (H:Sc h0 lv is ch n b c j st T w) :
 wpOps Tryd.prog (cO s9) (fun e a u=>e=.normal∧a.defers=[]∧(a.tmps.size=34∧a.tmps.getD 33 undef=ch)) [0] ⟨T,[]⟩ w:=by
 obtain ⟨J,rfl⟩:∃ J,T=TS J:=⟨_,FT H.size⟩;have j2:J 2=ch:=H.t2;have e:cO s9=#[_,_]:=rfl;rw [AC (os:=[_]) rfl];simp only [e,List.getElem_toArray,List.getElem_cons_zero];go_wp;exact ⟨rfl,rfl,rfl,rfl⟩
end
end Go.Proofs.YtkpogcflgghfiaaDoor
