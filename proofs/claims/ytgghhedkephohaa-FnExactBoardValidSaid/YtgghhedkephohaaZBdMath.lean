set_option linter.all false
set_option maxRecDepth 100000
set_option maxHeartbeats 8000000
namespace Go.Proofs.Ytgghhedkephohaa
namespace M
structure En where
 p:Int
 s:Int
def ez:En:=⟨0,0⟩
def AR(q:En):Bool:=decide (0<=q.p/\q.p<=9)&&decide (0<=q.s/\q.s<=60)
def Aj:List En->Int->Nat
 | [],_=>0
 | q::xs,pl=>if q.p=pl then 0 else Aj xs pl+1
def AG(xs:List En)(pl:Int):Int:=if Aj xs pl<xs.length then (Aj xs pl:Int) else -1
def Ek(xs:List En)(k:Nat):Bool:=AR (xs.getD k ez)&&(decide (k=0)||decide ((xs.getD (k-1) ez).s<=(xs.getD k ez).s))&&decide (Aj xs (xs.getD k ez).p=k)
def El(xs:List En)(k:Nat):Bool:=(List.range k).all (Ek xs)
def CL(xs:List En):Bool:=El xs xs.length&&decide (xs.length<=4)
def As(xs:List En)(pl:Int):List En:=xs.filter fun q=>decide (q.p≠pl)
theorem CG:∀(xs:List En) (pl:Int),Aj xs pl<=xs.length
 | [],_=>Nat.le_refl _
 | q::xs,pl=>by unfold Aj; split<;>simp[CG xs pl]
theorem Bv:∀{xs:List En} {pl:Int},Aj xs pl<xs.length->(xs.getD (Aj xs pl) ez).p=pl
 | [],_,h=>absurd h (by simp)
 | q::xs,pl,h=>by
  unfold Aj at h ⊢;split
  . next e=>simpa using e
  . next e=>rw[if_neg e] at h; simpa using Bv (xs:=xs) (by simpa using h)
theorem Br:∀{xs:List En} {pl:Int} {k:Nat},k<Aj xs pl->(xs.getD k ez).p≠pl
 | [],_,_,h=>absurd h (by simp[Aj])
 | q::xs,pl,k,h=>by
  unfold Aj at h;split at h
  . omega
  . next e =>
    cases k with
    | zero=>simpa using e
    | succ k=>simpa using Br (xs:=xs) (by omega)
theorem CH:∀{xs:List En} {pl:Int} {k:Nat},k<xs.length->(xs.getD k ez).p=pl->(∀ j,j<k->(xs.getD j ez).p≠pl)->Aj xs pl=k
 | [],_,_,h,_,_=>absurd h (by simp)
 | q::xs,pl,0,h,hp,_=>by simp[Aj]; simpa using hp
 | q::xs,pl,k+1,h,hp,hb=>by
  have h0:q.p≠pl:=by simpa using hb 0 (by omega)
  have t:=CH (xs:=xs) (pl:=pl) (k:=k) (by simpa using h) (by simpa using hp) (fun j hj=>by simpa using hb (j+1) (by omega));simp[Aj,h0,t]
theorem Cf{xs:List En}{pl:Int}{k:Nat}(h:k<xs.length)(hp:(xs.getD k ez).p=pl):Aj xs pl<=k:=by
 rcases Nat.lt_or_ge k (Aj xs pl) with h1 | h1
 . exact absurd hp (Br h1)
 . exact h1
theorem Cg{xs:List En}{pl:Int}(h:∀ j,j<xs.length->(xs.getD j ez).p≠pl):Aj xs pl=xs.length:=by
 rcases Nat.lt_or_ge (Aj xs pl) xs.length with h1 | h1
 . exact absurd (Bv h1) (h _ h1)
 . exact Nat.le_antisymm (CG _ _) h1
theorem Eo{xs:List En}{pl:Int}{k:Nat}(h:k<xs.length)(hp:(xs.getD k ez).p=pl)(hb:∀ j,j<k->(xs.getD j ez).p≠pl):AG xs pl=k:=by
 have e:=CH h hp hb;rw[AG,e,if_pos h]
theorem CZ{xs:List En}{pl:Int}(h:∀ j,j<xs.length->(xs.getD j ez).p≠pl):AG xs pl=-1:=by
 rw[AG,Cg h,if_neg (by omega)]
theorem Dj(xs:List En)(pl:Int):-1<=AG xs pl/\AG xs pl<xs.length:=by
 unfold AG; split<;>omega
theorem Ch(xs:List En)(k:Nat):El xs (k+1)=(El xs k&&Ek xs k):=by simp[El,List.range_succ]
theorem Fo{xs:List En}{k m:Nat}(h:El xs m=true)(hk:k<=m):El xs k=true:=by
 unfold El at h ⊢;rw[List.all_eq_true] at h ⊢;intro x hx;exact h x (by simp at hx ⊢; omega)
theorem Er{xs:List En}{k:Nat}(hk:k<xs.length)(h:Ek xs k=false):CL xs=false:=by
 cases e:El xs xs.length
 . simp[CL,e]
 . have t:=Fo e (show k+1<=xs.length by omega);rw[Ch,h] at t;simp at t
structure Bd(xs:List En):Prop where
 len:xs.length<=4
 ok:∀ k,k<xs.length->AR (xs.getD k ez)=true
 up:∀ k,k+1<xs.length->(xs.getD k ez).s<=(xs.getD (k+1) ez).s
 one:∀ k,k<xs.length->Aj xs (xs.getD k ez).p=k
theorem Cb{xs:List En}{k:Nat}:Ek xs k=true↔AR (xs.getD k ez)=true/\(k=0\/(xs.getD (k-1) ez).s<=(xs.getD k ez).s)/\Aj xs (xs.getD k ez).p=k:=by
 unfold Ek;simp only[Bool.and_eq_true,Bool.or_eq_true,decide_eq_true_eq,and_assoc]
theorem Dr{xs:List En}:CL xs=true↔Bd xs:=by
 unfold CL El;simp only[Bool.and_eq_true,decide_eq_true_eq,List.all_eq_true,List.mem_range];constructor
 . rintro⟨h,hl⟩;refine⟨hl,fun k hk=>(Cb.1 (h k hk)).1,fun k hk=>?_,fun k hk=>(Cb.1 (h k hk)).2.2⟩;have:=(Cb.1 (h (k+1) hk)).2.1;simpa using this
 . intro h;refine⟨fun k hk=>Cb.2 ⟨h.ok k hk,?_,h.one k hk⟩,h.len⟩;cases k with
   | zero=>exact .inl rfl
   | succ k=>exact .inr (by simpa using h.up k hk)
theorem Bd.le{xs:List En}(h:Bd xs){i j:Nat}(hij:i<=j)(hj:j<xs.length):(xs.getD i ez).s<=(xs.getD j ez).s:=by
 induction j with
 | zero =>
  have:i=0:=by omega
  subst this; exact Int.le_refl _
 | succ j ih =>
  rcases Nat.lt_or_ge i (j+1) with h1 | h1
  . exact Int.le_trans (ih (by omega) (by omega)) (h.up j hj)
  . have:i=j+1:=by omega
    subst this; exact Int.le_refl _
def Rk(a b:En):Prop:=a.s<=b.s/\a.p≠b.p
structure Bp(xs:List En):Prop where
 len:xs.length<=4
 ok:∀ q∈xs,AR q=true
 pw:xs.Pairwise Rk
theorem gd{xs:List En}{k:Nat}(h:k<xs.length):xs.getD k ez=xs[k]:=by simp[List.getD_eq_getElem?_getD,h]
theorem Aw{xs:List En}:CL xs=true↔Bp xs:=by
 rw[Dr];constructor
 . intro h;refine⟨h.len,fun q hq=>?_,List.pairwise_iff_getElem.2 fun i j hi hj hij=>?_⟩
   . obtain⟨k,hk,rfl⟩:=List.getElem_of_mem hq;rw[<- gd hk]; exact h.ok k hk
   . rw[<- gd hi,<- gd hj];refine⟨h.le (Nat.le_of_lt hij) hj,fun e=>?_⟩;have t:=h.one j hj;have:=Cf (xs:=xs) (pl:=(xs.getD j ez).p) hi e;omega
 . intro h;have pw:=List.pairwise_iff_getElem.1 h.pw;refine⟨h.len,fun k hk=>?_,fun k hk=>?_,fun k hk=>?_⟩
   . rw[gd hk]; exact h.ok _ (List.getElem_mem hk)
   . rw[gd hk,gd (show k<xs.length by omega)]; exact(pw k (k+1) (by omega) hk (by omega)).1
   . refine CH hk rfl fun j hj=>?_;rw[gd hk,gd (show j<xs.length by omega)]; exact(pw j k (by omega) hk hj).2
section
variable {xs rs ys:List En} {e:En}
end
theorem BE{xs:List En}{pl:Int}:0<=AG xs pl↔Aj xs pl<xs.length:=by
 unfold AG; split
 . next h=>exact⟨fun _=>h,fun _=>by omega⟩
 . next h=>exact⟨fun g=>by omega,fun g=>absurd g h⟩
def Au(xs:List En):Int:=if CL xs=false then -1 else if xs.length<4 then 60 else (xs.getD (xs.length-1) ez).s-1
section
variable {α β:Type}
variable {la:α->α->Bool} {lb:β->β->Bool} {f:α->β} (hf:∀ x y,lb (f x) (f y)=la x y)
end
end M
end Go.Proofs.Ytgghhedkephohaa
