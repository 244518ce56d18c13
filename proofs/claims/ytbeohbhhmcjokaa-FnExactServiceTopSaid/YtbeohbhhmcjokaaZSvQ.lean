import Derived.Test.YtbeohbhhmcjokaaZSvP
import Derived.Test.YtbeohbhhmcjokaaZSvE
set_option linter.all false
set_option maxRecDepth 100000
set_option maxHeartbeats 8000000
open Go.Lib
namespace Go.Proofs.Ytbeohbhhmcjokaa
open Go.RowKit
open M
def Asc(ts:List Tk):Prop:=∀ a b,a<b->b<ts.length->(ts.getD a kz).L.i<(ts.getD b kz).L.i
theorem M.svB_asc{ts:List Tk}{ks gs:List Int}(h:svB ts ks gs=true):Asc ts:=by
 simp only[svB,Bool.and_eq_true] at h;have h1:=h.1.2;rw[List.all_eq_true] at h1;have h2:∀ k,0<k->k<ts.length->(ts.getD (k-1) kz).L.i<(ts.getD k kz).L.i:=fun k h0 hk=>by
  have:=h1 k (by simpa using hk);simp only[tkB,Bool.and_eq_true,Bool.or_eq_true,decide_eq_true_eq] at this;rcases this.1.2 with h3 | h3
  . omega
  . exact h3
 intro a b hab hb
 induction b with
 | zero=>omega
 | succ b ih =>
  have s:=h2 (b+1) (by omega) hb;rw[Nat.add_sub_cancel] at s;by_cases e:a=b
  . subst e; exact s
  . exact Int.lt_trans (ih (by omega) (by omega)) s
theorem M.svB_len{ts:List Tk}{ks gs:List Int}(h:svB ts ks gs=true):ks.length=10/\ts.length<=4/\gs.length<=12:=by
 simp only[svB,Bool.and_eq_true,decide_eq_true_eq] at h;exact h.1.1.1
theorem M.tkn_at{ts:List Tk}{x:Int}:∀{k:Nat},k<ts.length->(ts.getD k kz).L.i=x->(∀ j,j<k->(ts.getD j kz).L.i≠x)->tkn ts x=k:=by
 induction ts with
 | nil=>intro k hk; simp at hk
 | cons q ts ih =>
  intro k hk he hn;cases k with
  | zero =>
   simp only[List.getD_cons_zero] at he;simp[tkn,he]
  | succ k =>
   have h0:=hn 0 (by omega);simp only[List.getD_cons_zero] at h0;simp only[tkn,if_neg h0];rw[ih (k:=k) (by simpa using hk) (by simpa using he) (fun j hj=>by simpa using hn (j+1) (by omega))]
theorem M.tkn_no{ts:List Tk}{x:Int}(h:∀ j,j<ts.length->(ts.getD j kz).L.i≠x):tkn ts x=ts.length:=by
 induction ts with
 | nil=>rfl
 | cons q ts ih =>
  have h0:=h 0 (by simp);simp only[List.getD_cons_zero] at h0;simp only[tkn,if_neg h0,List.length_cons];rw[ih (fun j hj=>by simpa using h (j+1) (by simpa using hj))]
def GC(w:World)(n:Nat)(ts:List Tk)(x:Int)(iv:Value)(W:World):Prop:=∃ k:Nat,k<=n/\iv=.int .i64 k/\(∀ j,j<k->(ts.getD j kz).L.i≠x)/\Below w.heap.size w W
theorem AS(A:Option Addr)(n c:Nat)(y z:Value)(hy:y.oneCell'=true)(hz:z.oneCell'=true)(ts:List Tk)(x:Int)(w:World)(T:Tracks w A n ts)(hn:n<=281474976710656) :
 Calls Try.prog 59 #[.agg #[.slice A n c,y,z],.int .i64 x] w fun e w'=>e=.returned (.int .i64 (tki ts x))/\Below w.heap.size w w':=by
 have hT:=hid T.len;have D0:=hid (CellsAt.new w w.heap.size [.slice A n c,y,z] 27 rfl);have B0:=hid (Ab (Ac w) (.cells [.slice A n c,y,z].toArray 27));replace T:=hid (T.step B0.out);go_enter Try.func59,Try.ntmps59;go_wp2;generalize w.alloc (.cells #[.slice A n c,y,z] 27)=w0 at *
 go_loopw [5] (GC w0 n ts x) (fun i _=>n-(RowKit.intOf i).toNat)
 case atStart=>exact⟨0,Nat.zero_le _,rfl,fun j hj=>absurd hj (by omega),Ac w0⟩
 case round =>
  obtain⟨k,hk,rfl,ha,Bq⟩:=hrel;have DV:=hid (D0.out.step Bq);have x0:=DV.out.cell 0 _ rfl;have T1:=hid (T.out.step Bq);replace Bq:=hid Bq;by_cases hlt:k<n
  . obtain⟨b,off,eA,_⟩:=T1.out.at_ (by omega);subst eA;obtain⟨q,hq⟩:∃ q,ts[k]?=some q:=⟨_,List.getElem?_eq_getElem (by have:=hT.out; omega)⟩;have c0:wr.cell? ⟨b,off+k*12,none⟩=some (.int .i64 q.L.i):=T1.out.rng hq 0 _ rfl;have gq:ts.getD k kz=q:=by rw[List.getD_eq_getElem?_getD,hq]; rfl
    have hlI:(k:Int)<(n:Int):=by omega
    by_cases hx:q.L.i=x
    . have E:=hid (show tki ts x=(k:Int) by
       have:=tkn_at (k:=k) (by have:=hT.out; omega) (by rw[gq]; exact hx) ha;rw[tki,this,if_pos (by have:=hT.out; omega)])
      have h1:(q.L.i==x)=true:=by simp[hx]
      clear ha hq gq;replace hx:=hid hx;go_wp2;go_ret;exact⟨AC E.out.symm,Aa B0.out Bq.out⟩
    . have h1:(q.L.i==x)=false:=by simp[hx]
      have nx:=hid (show ∀ j,j<k+1->(ts.getD j kz).L.i≠x from fun j hj=>by
       by_cases e:j=k
       . subst e; rw[gq]; exact hx
       . exact ha j (by omega))
      clear ha hq gq;replace hx:=hid hx;go_wp2
      go_roundw
      case rel=>exact⟨k+1,by omega,by go_num,nx.out,Bq.out⟩
      case measure=>simp[RowKit.intOf]; omega
  . obtain rfl:k=n:=by omega
    have E:=hid (show tki ts x=-1 by
     have:=tkn_no (ts:=ts) (x:=x) (fun j hj=>ha j (by have:=hT.out; omega));rw[tki,this,if_neg (by omega)])
    clear ha;go_wp2;go_ret;exact⟨AC E.out.symm,Aa B0.out Bq.out⟩
theorem Be(x:Int)(w:World):Calls Try.prog 115 #[.int .i64 x] w fun e w'=>e=.returned (.bool false)/\w=w':=by
 have h:(x != x)=false:=by simp
 go_enter Try.func115,Try.ntmps115;go_wp2;go_ret;exact⟨rfl,rfl⟩
def M.cmpI(x y:Int):Int:=if x<y then -1 else if y<x then 1 else 0
theorem GD(x y:Int)(w:World):Calls Try.prog 100 #[.int .i64 x,.int .i64 y] w fun e w'=>e=.returned (.int .i64 (cmpI x y))/\w=w':=by
 by_cases h1:x<y
 . have E:=hid (show cmpI x y=-1 by rw[cmpI,if_pos h1]);have d1:decide (x<y)=true:=decide_eq_true h1;replace h1:=hid h1;go_enter Try.func100,Try.ntmps100;go_wp2_with fail;refine(Be x _).mono ?_;rintro e w1 ⟨rfl,rfl⟩;go_wp2_with fail;refine(Be y _).mono ?_;rintro e w1 ⟨rfl,rfl⟩;go_wp2;go_ret;exact⟨AC E.out.symm,rfl⟩
 have d1:decide (x<y)=false:=decide_eq_false h1;by_cases h2:y<x
 . have E:=hid (show cmpI x y=1 by rw[cmpI,if_neg h1,if_pos h2]);have d2:decide (y<x)=true:=decide_eq_true h2;replace h1:=hid h1;replace h2:=hid h2;go_enter Try.func100,Try.ntmps100;go_wp2_with fail;refine(Be x _).mono ?_;rintro e w1 ⟨rfl,rfl⟩;go_wp2_with fail;refine(Be y _).mono ?_;rintro e w1 ⟨rfl,rfl⟩;go_wp2;go_ret;exact⟨AC E.out.symm,rfl⟩
 . have E:=hid (show cmpI x y=0 by rw[cmpI,if_neg h1,if_neg h2]);have d2:decide (y<x)=false:=decide_eq_false h2;replace h1:=hid h1;replace h2:=hid h2;go_enter Try.func100,Try.ntmps100;go_wp2_with fail;refine(Be x _).mono ?_;rintro e w1 ⟨rfl,rfl⟩;go_wp2_with fail;refine(Be y _).mono ?_;rintro e w1 ⟨rfl,rfl⟩;go_wp2;go_ret;exact⟨AC E.out.symm,rfl⟩
theorem EB(q:Tk)(x:Int)(w:World):Calls Try.prog 99 #[.agg q.cs.toArray,.int .i64 x] w fun e w'=>e=.returned (.int .i64 (cmpI q.L.i x))/\Below w.heap.size w w':=by
 have V:=hid (CellsAt.new w w.heap.size q.cs 84 rfl);have B0:=hid (Ab (Ac w) (.cells q.cs.toArray 84));have x0:=V.out.cell 0 _ rfl;go_enter Try.func99,Try.ntmps99;go_wp2_with fail;refine(GD q.L.i x _).mono ?_;rintro e w1 ⟨rfl,rfl⟩;go_wp2;go_ret;exact⟨rfl,B0.out⟩
theorem Dg{P:Program}{ops:Array Oper}{rest:List Oper}{o:Oper}{a:Act}{w:World}{Q:Exit->Act->World->Prop}(hw:Region.wanted o (yielded ops a.tmps)=true)(ty:TypeId)(x:Operand)(ho:o.op=.load ty x)
 (b off:Nat) (hx:a.eval x=.pointer (some ⟨b,off,none⟩)) (vs:List Value) (L:w.rangeAt b off vs) {d:TypeDesc} (hu:P.underlying ty=some d) (hd:d.isRow=true) (hi:(P.info? ty).map (·.size)=some vs.length)
 (h:wpList P ops Q rest (a.put o.dst (.agg vs.toArray)) w):wpList P ops Q (o::rest) a w:=by
 simp only[wpList,hw,if_true];exact .inl (wp_load_mid ty x ho b off hx vs d L hu hd hi h)
def Hy(w:World)(n:Nat)(ts:List Tk)(x:Int)(iv jv:Value)(W:World):Prop:=∃ i j:Nat,i<=j/\j<=n/\iv=.int .i64 i/\jv=.int .i64 j/\(∀ t,t<i->(ts.getD t kz).L.i<x)/\(∀ t,j<=t->t<n->x<=(ts.getD t kz).L.i)/\Below w.heap.size w W
def Hz(w:World)(n:Nat)(ts:List Tk)(x:Int)(e:Ending)(w':World):Prop:=∃ p:Nat,p<=n/\(∀ t,t<p->(ts.getD t kz).L.i<x)/\(∀ t,p<=t->t<n->x<=(ts.getD t kz).L.i)/\e=.returned (.tuple #[.int .i64 p,.bool (decide (p<n)&&decide ((ts.getD p kz).L.i=x))])/\Below w.heap.size w w'
theorem HL(A:Option Addr)(n c:Nat)(ts:List Tk)(x:Int)(w:World)(T:Tracks w A n ts)(hn:n<=1000000)(ha:Asc ts) :
 Calls Try.prog 98 #[.slice A n c,.int .i64 x,.func (.func 99) #[] #[]] w (Hz w n ts x):=by
 have hT:=hid T.len;replace ha:=hid ha;replace T:=hid T;go_enter Try.func98,Try.ntmps98;go_wp2
 go_loopw [9,10] (Hy w n ts x) (fun i j _=>(RowKit.intOf j).toNat-(RowKit.intOf i).toNat)
 case atStart=>exact⟨0,n,Nat.zero_le _,Nat.le_refl _,rfl,rfl,fun t ht=>absurd ht (by omega),fun t h1 h2=>absurd h1 (by omega),Ac w⟩
 case round =>
  obtain⟨i,j,hij,hjn,rfl,rfl,h1,h2,Bq⟩:=hrel;have T1:=hid (T.out.step Bq);replace Bq:=hid Bq;replace h1:=hid h1;replace h2:=hid h2;by_cases hlt:i<j
  . obtain⟨b,off,eA,_⟩:=T1.out.at_ (by omega);subst eA;obtain⟨h,hh⟩:∃ h,h=(i+j) / 2:=⟨_,rfl⟩;have hi1:i<=h:=by omega
    have hj1:h<j:=by omega
    obtain⟨q,hq⟩:∃ q,ts[h]?=some q:=⟨_,List.getElem?_eq_getElem (by have:=hT.out; omega)⟩;have hr:=hid (T1.out.rng hq);have gq:ts.getD h kz=q:=by rw[List.getD_eq_getElem?_getD,hq]; rfl
    have hlI:(h:Int)<(n:Int):=by omega
    replace hh:=hid hh;replace gq:=hid gq;replace hq:=hid hq;have hhi:=hid (show((i:Int)+(j:Int)) / 2=(h:Int) by have:=hh.out; omega);go_upto_region 5 with fail;rw[hhi.out];go_wp2_with (refine wpList_load_mid rfl 84 (.tmp 27) rfl b (off+h*12) rfl q.cs _ hr.out Try.underlying84 rfl As ?_);go_wp2_with fail;refine(EB q x _).mono ?_;rintro e w1 ⟨rfl,B⟩;replace Bq:=hid (Aa Bq.out B);clear B T1;by_cases hc:q.L.i<x
    . have d1:decide (cmpI q.L.i x<0)=true:=decide_eq_true (by rw[cmpI,if_pos hc]; decide);have nx:=hid (show ∀ t,t<h+1->(ts.getD t kz).L.i<x from fun t ht=>by
       by_cases e:t=h
       . subst e; rw[gq.out]; exact hc
       . exact Int.lt_trans (ha.out t h (by omega) (by have:=hT.out; omega)) (by rw[gq.out]; exact hc))
      replace hc:=hid hc;go_wp2
      go_roundw
      case rel=>exact⟨h+1,j,by omega,by omega,by go_num,rfl,nx.out,h2.out,Bq.out⟩
      case measure=>simp[RowKit.intOf]; omega
    . have d1:decide (cmpI q.L.i x<0)=false:=decide_eq_false (by rw[cmpI,if_neg hc]; split<;>decide);have nx:=hid (show ∀ t,h<=t->t<n->x<=(ts.getD t kz).L.i from fun t h3 h4=>by
       by_cases e:t=h
       . subst e; rw[gq.out]; omega
       . have:=ha.out h t (by omega) (by have:=hT.out; omega);rw[gq.out] at this;omega)
      replace hc:=hid hc;go_wp2
      go_roundw
      case rel=>exact⟨i,h,by omega,by omega,rfl,rfl,h1.out,nx.out,Bq.out⟩
      case measure=>simp[RowKit.intOf]; omega
  . obtain rfl:i=j:=by omega
    by_cases hin:i<n
    . obtain⟨b,off,eA,_⟩:=T1.out.at_ (by omega);subst eA;obtain⟨q,hq⟩:∃ q,ts[i]?=some q:=⟨_,List.getElem?_eq_getElem (by have:=hT.out; omega)⟩;have hr:=hid (T1.out.rng hq);have gq:ts.getD i kz=q:=by rw[List.getD_eq_getElem?_getD,hq]; rfl
      have hlI:(i:Int)<(n:Int):=by omega
      have R:=hid (show ∀(W:World) (bb:Bool),bb=decide (q.L.i=x)->Below w.heap.size w W->Hz w n ts x (.returned (.tuple #[.int .i64 i,.bool bb])) W from fun W bb hbb B=>⟨i,by omega,h1.out,h2.out,by rw[hbb,gq,decide_eq_true hin,Bool.true_and],B⟩);replace hq:=hid hq;replace gq:=hid gq;clear T1;go_wp2_with (first | (refine wpList_load_mid rfl 84 (.tmp 43) rfl b (off+i*12) rfl q.cs _ hr.out Try.underlying84 rfl As ?_) | (refine Dg (by rfl) 84 (.tmp 43) rfl b (off+i*12) rfl q.cs hr.out Try.underlying84 rfl As ?_));go_wp2_with fail;refine(EB q x _).mono ?_;rintro e w1 ⟨rfl,B⟩;replace Bq:=hid (Aa Bq.out B);clear B
      obtain⟨bb,hbb⟩:∃ bb,bb=decide (q.L.i=x):=⟨_,rfl⟩;have d1:(cmpI q.L.i x==0)=bb:=by
       rw[hbb,cmpI];by_cases h3:q.L.i<x
       . rw[if_pos h3,decide_eq_false (by omega)]; rfl
       . rw[if_neg h3];by_cases h4:x<q.L.i
         . rw[if_pos h4,decide_eq_false (by omega)]; rfl
         . rw[if_neg h4,decide_eq_true (by omega)]; rfl
      have FIN:=hid (R.out w1 bb hbb Bq.out);replace hbb:=hid hbb;go_wp2
      go_ret2
      exact FIN.out
    . have R:=hid (show Hz w n ts x (.returned (.tuple #[.int .i64 i,.bool false])) wr from⟨i,by omega,h1.out,h2.out,by rw[decide_eq_false hin,Bool.false_and],Bq.out⟩);have hlI:(n:Int)<=(i:Int):=by omega
      have d0:decide ((i:Int)<(n:Int))=false:=decide_eq_false (by omega);have d2:decide (i<n)=false:=decide_eq_false hin;clear T1;go_wp2
      go_ret2
      exact R.out
end Go.Proofs.Ytbeohbhhmcjokaa
