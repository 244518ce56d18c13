set_option linter.all false
set_option maxRecDepth 100000
set_option maxHeartbeats 8000000
namespace Go.Proofs.Ytbeohbhhmcjokaa
namespace M
structure En where
 p:Int
 s:Int
def ez:En:=⟨0,0⟩
def CE(q:En):Bool:=decide (0<=q.p/\q.p<=9)&&decide (0<=q.s/\q.s<=60)
def AG:List En->Int->Nat
 | [],_=>0
 | q::xs,pl=>if q.p=pl then 0 else AG xs pl+1
def Gg(xs:List En)(pl:Int):Int:=if AG xs pl<xs.length then (AG xs pl:Int) else -1
def EZ(xs:List En)(k:Nat):Bool:=CE (xs.getD k ez)&&(decide (k=0)||decide ((xs.getD (k-1) ez).s<=(xs.getD k ez).s))&&decide (AG xs (xs.getD k ez).p=k)
def E1(xs:List En)(k:Nat):Bool:=(List.range k).all (EZ xs)
def CF(xs:List En):Bool:=E1 xs xs.length&&decide (xs.length<=4)
def HZ(xs:List En)(pl:Int):List En:=xs.filter fun q=>decide (q.p≠pl)
theorem E3:∀(xs:List En) (pl:Int),AG xs pl<=xs.length
 | [],_=>Nat.le_refl _
 | q::xs,pl=>by unfold AG; split<;>simp[E3 xs pl]
theorem E4:∀{xs:List En} {pl:Int},AG xs pl<xs.length->(xs.getD (AG xs pl) ez).p=pl
 | [],_,h=>absurd h (by simp)
 | q::xs,pl,h=>by
  unfold AG at h ⊢;split
  . next e=>simpa using e
  . next e=>rw[if_neg e] at h; simpa using E4 (xs:=xs) (by simpa using h)
theorem CK:∀{xs:List En} {pl:Int} {k:Nat},k<AG xs pl->(xs.getD k ez).p≠pl
 | [],_,_,h=>absurd h (by simp[AG])
 | q::xs,pl,k,h=>by
  unfold AG at h;split at h
  . omega
  . next e =>
    cases k with
    | zero=>simpa using e
    | succ k=>simpa using CK (xs:=xs) (by omega)
theorem DN:∀{xs:List En} {pl:Int} {k:Nat},k<xs.length->(xs.getD k ez).p=pl->(∀ j,j<k->(xs.getD j ez).p≠pl)->AG xs pl=k
 | [],_,_,h,_,_=>absurd h (by simp)
 | q::xs,pl,0,h,hp,_=>by simp[AG]; simpa using hp
 | q::xs,pl,k+1,h,hp,hb=>by
  have h0:q.p≠pl:=by simpa using hb 0 (by omega)
  have t:=DN (xs:=xs) (pl:=pl) (k:=k) (by simpa using h) (by simpa using hp) (fun j hj=>by simpa using hb (j+1) (by omega));simp[AG,h0,t]
theorem Cf{xs:List En}{pl:Int}{k:Nat}(h:k<xs.length)(hp:(xs.getD k ez).p=pl):AG xs pl<=k:=by
 rcases Nat.lt_or_ge k (AG xs pl) with h1 | h1
 . exact absurd hp (CK h1)
 . exact h1
theorem E5{xs:List En}{pl:Int}(h:∀ j,j<xs.length->(xs.getD j ez).p≠pl):AG xs pl=xs.length:=by
 rcases Nat.lt_or_ge (AG xs pl) xs.length with h1 | h1
 . exact absurd (E4 h1) (h _ h1)
 . exact Nat.le_antisymm (E3 _ _) h1
theorem E6{xs:List En}{pl:Int}{k:Nat}(h:k<xs.length)(hp:(xs.getD k ez).p=pl)(hb:∀ j,j<k->(xs.getD j ez).p≠pl):Gg xs pl=k:=by
 have e:=DN h hp hb;rw[Gg,e,if_pos h]
theorem Dh{xs:List En}{pl:Int}(h:∀ j,j<xs.length->(xs.getD j ez).p≠pl):Gg xs pl=-1:=by
 rw[Gg,E5 h,if_neg (by omega)]
theorem Cg(xs:List En)(k:Nat):E1 xs (k+1)=(E1 xs k&&EZ xs k):=by simp[E1,List.range_succ]
theorem GN{xs:List En}{k m:Nat}(h:E1 xs m=true)(hk:k<=m):E1 xs k=true:=by
 unfold E1 at h ⊢;rw[List.all_eq_true] at h ⊢;intro x hx;exact h x (by simp at hx ⊢; omega)
theorem E7{xs:List En}{k:Nat}(hk:k<xs.length)(h:EZ xs k=false):CF xs=false:=by
 cases e:E1 xs xs.length
 . simp[CF,e]
 . have t:=GN e (show k+1<=xs.length by omega);rw[Cg,h] at t;simp at t
structure Bd(xs:List En):Prop where
 len:xs.length<=4
 ok:∀ k,k<xs.length->CE (xs.getD k ez)=true
 up:∀ k,k+1<xs.length->(xs.getD k ez).s<=(xs.getD (k+1) ez).s
 one:∀ k,k<xs.length->AG xs (xs.getD k ez).p=k
theorem BZ{xs:List En}{k:Nat}:EZ xs k=true↔CE (xs.getD k ez)=true/\(k=0\/(xs.getD (k-1) ez).s<=(xs.getD k ez).s)/\AG xs (xs.getD k ez).p=k:=by
 unfold EZ;simp only[Bool.and_eq_true,Bool.or_eq_true,decide_eq_true_eq,and_assoc]
theorem Gh{xs:List En}:CF xs=true↔Bd xs:=by
 unfold CF E1;simp only[Bool.and_eq_true,decide_eq_true_eq,List.all_eq_true,List.mem_range];constructor
 . rintro⟨h,hl⟩;refine⟨hl,fun k hk=>(BZ.1 (h k hk)).1,fun k hk=>?_,fun k hk=>(BZ.1 (h k hk)).2.2⟩;have:=(BZ.1 (h (k+1) hk)).2.1;simpa using this
 . intro h;refine⟨fun k hk=>BZ.2 ⟨h.ok k hk,?_,h.one k hk⟩,h.len⟩;cases k with
   | zero=>exact .inl rfl
   | succ k=>exact .inr (by simpa using h.up k hk)
theorem Bd.le{xs:List En}(h:Bd xs){i j:Nat}(hij:i<=j)(hj:j<xs.length):(xs.getD i ez).s<=(xs.getD j ez).s:=by
 induction j with
 | zero =>
  have:i=0:=by omega
  subst this; exact Int.le_refl _
 | succ j ih =>
  rcases Nat.lt_or_ge i (j+1) with h1 | h1
  . exact Int.le_trans (ih (by omega) (by omega)) (h.up j hj)
  . have:i=j+1:=by omega
    subst this; exact Int.le_refl _
def Rk(a b:En):Prop:=a.s<=b.s/\a.p≠b.p
structure Bp(xs:List En):Prop where
 len:xs.length<=4
 ok:∀ q∈xs,CE q=true
 pw:xs.Pairwise Rk
theorem gd{xs:List En}{k:Nat}(h:k<xs.length):xs.getD k ez=xs[k]:=by simp[List.getD_eq_getElem?_getD,h]
theorem E8{xs:List En}:CF xs=true↔Bp xs:=by
 rw[Gh];constructor
 . intro h;refine⟨h.len,fun q hq=>?_,List.pairwise_iff_getElem.2 fun i j hi hj hij=>?_⟩
   . obtain⟨k,hk,rfl⟩:=List.getElem_of_mem hq;rw[<- gd hk]; exact h.ok k hk
   . rw[<- gd hi,<- gd hj];refine⟨h.le (Nat.le_of_lt hij) hj,fun e=>?_⟩;have t:=h.one j hj;have:=Cf (xs:=xs) (pl:=(xs.getD j ez).p) hi e;omega
 . intro h;have pw:=List.pairwise_iff_getElem.1 h.pw;refine⟨h.len,fun k hk=>?_,fun k hk=>?_,fun k hk=>?_⟩
   . rw[gd hk]; exact h.ok _ (List.getElem_mem hk)
   . rw[gd hk,gd (show k<xs.length by omega)]; exact(pw k (k+1) (by omega) hk (by omega)).1
   . refine DN hk rfl fun j hj=>?_;rw[gd hk,gd (show j<xs.length by omega)]; exact(pw j k (by omega) hk hj).2
theorem Bp.sub{xs ys:List En}(h:Bp xs)(s:List.Sublist ys xs):Bp ys :=
 ⟨Nat.le_trans s.length_le h.len,fun q hq=>h.ok q (s.subset hq),h.pw.sublist s⟩
theorem Bp.wo{xs:List En}(h:Bp xs)(pl:Int):Bp (HZ xs pl):=h.sub List.filter_sublist
section
variable {xs rs ys:List En} {e:En}
end
section
variable {α β:Type}
variable {la:α->α->Bool} {lb:β->β->Bool} {f:α->β} (hf:∀ x y,lb (f x) (f y)=la x y)
end
end M
end Go.Proofs.Ytbeohbhhmcjokaa
