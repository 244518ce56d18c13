set_option linter.all false
set_option maxRecDepth 100000
set_option maxHeartbeats 8000000
namespace Go.Proofs.Ytgghhedkephohaa
namespace M
structure En where
 p:Int
 s:Int
def ez:En:=⟨0,0⟩
def AR(q:En):Bool:=decide (0<=q.p/\q.p<=9)&&decide (0<=q.s/\q.s<=60)
def Aj:List En->Int->Nat
 | [],_=>0
 | q::xs,pl=>if q.p=pl then 0 else Aj xs pl+1
def AG(xs:List En)(pl:Int):Int:=if Aj xs pl<xs.length then (Aj xs pl:Int) else -1
def Ek(xs:List En)(k:Nat):Bool:=AR (xs.getD k ez)&&(decide (k=0)||decide ((xs.getD (k-1) ez).s<=(xs.getD k ez).s))&&decide (Aj xs (xs.getD k ez).p=k)
def El(xs:List En)(k:Nat):Bool:=(List.range k).all (Ek xs)
def F4(xs:List En):Bool:=El xs xs.length&&decide (xs.length<=4)
def As(xs:List En)(pl:Int):List En:=xs.filter fun q=>decide (q.p≠pl)
def lead:List En->Int->Nat
 | [],_=>0
 | q::xs,s=>if q.s<=s then lead xs s+1 else 0
def Ax(xs:List En)(s:Int):Nat:=(xs.filter fun q=>decide (q.s<=s)).length
def AK(xs:List En)(e:En):List En:=(xs.take (lead xs e.s)++e::xs.drop (lead xs e.s)).take 4
def Am(xs:List En)(e:En):List En × Int :=
 if (F4 xs&&AR e)=false then ([],3)
 else if 0<=AG xs e.p/\(xs.getD (Aj xs e.p) ez).s<=e.s then (xs,1)
 else if 4<=lead (As xs e.p) e.s then (xs,2)
 else (AK (As xs e.p) e,0)
theorem CG:∀(xs:List En) (pl:Int),Aj xs pl<=xs.length
 | [],_=>Nat.le_refl _
 | q::xs,pl=>by unfold Aj; split<;>simp[CG xs pl]
theorem Bv:∀{xs:List En} {pl:Int},Aj xs pl<xs.length->(xs.getD (Aj xs pl) ez).p=pl
 | [],_,h=>absurd h (by simp)
 | q::xs,pl,h=>by
  unfold Aj at h ⊢;split
  . next e=>simpa using e
  . next e=>rw[if_neg e] at h; simpa using Bv (xs:=xs) (by simpa using h)
theorem Br:∀{xs:List En} {pl:Int} {k:Nat},k<Aj xs pl->(xs.getD k ez).p≠pl
 | [],_,_,h=>absurd h (by simp[Aj])
 | q::xs,pl,k,h=>by
  unfold Aj at h;split at h
  . omega
  . next e =>
    cases k with
    | zero=>simpa using e
    | succ k=>simpa using Br (xs:=xs) (by omega)
theorem CH:∀{xs:List En} {pl:Int} {k:Nat},k<xs.length->(xs.getD k ez).p=pl->(∀ j,j<k->(xs.getD j ez).p≠pl)->Aj xs pl=k
 | [],_,_,h,_,_=>absurd h (by simp)
 | q::xs,pl,0,h,hp,_=>by simp[Aj]; simpa using hp
 | q::xs,pl,k+1,h,hp,hb=>by
  have h0:q.p≠pl:=by simpa using hb 0 (by omega)
  have t:=CH (xs:=xs) (pl:=pl) (k:=k) (by simpa using h) (by simpa using hp) (fun j hj=>by simpa using hb (j+1) (by omega));simp[Aj,h0,t]
theorem Cf{xs:List En}{pl:Int}{k:Nat}(h:k<xs.length)(hp:(xs.getD k ez).p=pl):Aj xs pl<=k:=by
 rcases Nat.lt_or_ge k (Aj xs pl) with h1 | h1
 . exact absurd hp (Br h1)
 . exact h1
theorem Cg{xs:List En}{pl:Int}(h:∀ j,j<xs.length->(xs.getD j ez).p≠pl):Aj xs pl=xs.length:=by
 rcases Nat.lt_or_ge (Aj xs pl) xs.length with h1 | h1
 . exact absurd (Bv h1) (h _ h1)
 . exact Nat.le_antisymm (CG _ _) h1
theorem Eo{xs:List En}{pl:Int}{k:Nat}(h:k<xs.length)(hp:(xs.getD k ez).p=pl)(hb:∀ j,j<k->(xs.getD j ez).p≠pl):AG xs pl=k:=by
 have e:=CH h hp hb;rw[AG,e,if_pos h]
theorem CZ{xs:List En}{pl:Int}(h:∀ j,j<xs.length->(xs.getD j ez).p≠pl):AG xs pl=-1:=by
 rw[AG,Cg h,if_neg (by omega)]
theorem Ep{xs:List En}{pl:Int}(h:0<=AG xs pl):Aj xs pl<xs.length/\AG xs pl=Aj xs pl:=by
 unfold AG at h ⊢;split
 . next g=>exact⟨g,rfl⟩
 . next g=>rw[if_neg g] at h; omega
theorem Fl{xs:List En}{pl:Int}(h:¬ 0<=AG xs pl):AG xs pl=-1/\Aj xs pl=xs.length:=by
 unfold AG at h ⊢;split
 . next g=>rw[if_pos g] at h; omega
 . next g=>exact⟨rfl,Nat.le_antisymm (CG _ _) (by omega)⟩
theorem Ch(xs:List En)(k:Nat):El xs (k+1)=(El xs k&&Ek xs k):=by simp[El,List.range_succ]
theorem Fo{xs:List En}{k m:Nat}(h:El xs m=true)(hk:k<=m):El xs k=true:=by
 unfold El at h ⊢;rw[List.all_eq_true] at h ⊢;intro x hx;exact h x (by simp at hx ⊢; omega)
theorem Er{xs:List En}{k:Nat}(hk:k<xs.length)(h:Ek xs k=false):F4 xs=false:=by
 cases e:El xs xs.length
 . simp[F4,e]
 . have t:=Fo e (show k+1<=xs.length by omega);rw[Ch,h] at t;simp at t
structure Bd(xs:List En):Prop where
 len:xs.length<=4
 ok:∀ k,k<xs.length->AR (xs.getD k ez)=true
 up:∀ k,k+1<xs.length->(xs.getD k ez).s<=(xs.getD (k+1) ez).s
 one:∀ k,k<xs.length->Aj xs (xs.getD k ez).p=k
theorem Cb{xs:List En}{k:Nat}:Ek xs k=true↔AR (xs.getD k ez)=true/\(k=0\/(xs.getD (k-1) ez).s<=(xs.getD k ez).s)/\Aj xs (xs.getD k ez).p=k:=by
 unfold Ek;simp only[Bool.and_eq_true,Bool.or_eq_true,decide_eq_true_eq,and_assoc]
theorem Dr{xs:List En}:F4 xs=true↔Bd xs:=by
 unfold F4 El;simp only[Bool.and_eq_true,decide_eq_true_eq,List.all_eq_true,List.mem_range];constructor
 . rintro⟨h,hl⟩;refine⟨hl,fun k hk=>(Cb.1 (h k hk)).1,fun k hk=>?_,fun k hk=>(Cb.1 (h k hk)).2.2⟩;have:=(Cb.1 (h (k+1) hk)).2.1;simpa using this
 . intro h;refine⟨fun k hk=>Cb.2 ⟨h.ok k hk,?_,h.one k hk⟩,h.len⟩;cases k with
   | zero=>exact .inl rfl
   | succ k=>exact .inr (by simpa using h.up k hk)
theorem Bd.le{xs:List En}(h:Bd xs){i j:Nat}(hij:i<=j)(hj:j<xs.length):(xs.getD i ez).s<=(xs.getD j ez).s:=by
 induction j with
 | zero =>
  have:i=0:=by omega
  subst this; exact Int.le_refl _
 | succ j ih =>
  rcases Nat.lt_or_ge i (j+1) with h1 | h1
  . exact Int.le_trans (ih (by omega) (by omega)) (h.up j hj)
  . have:i=j+1:=by omega
    subst this; exact Int.le_refl _
def Rk(a b:En):Prop:=a.s<=b.s/\a.p≠b.p
structure Bp(xs:List En):Prop where
 len:xs.length<=4
 ok:∀ q∈xs,AR q=true
 pw:xs.Pairwise Rk
theorem gd{xs:List En}{k:Nat}(h:k<xs.length):xs.getD k ez=xs[k]:=by simp[List.getD_eq_getElem?_getD,h]
theorem Aw{xs:List En}:F4 xs=true↔Bp xs:=by
 rw[Dr];constructor
 . intro h;refine⟨h.len,fun q hq=>?_,List.pairwise_iff_getElem.2 fun i j hi hj hij=>?_⟩
   . obtain⟨k,hk,rfl⟩:=List.getElem_of_mem hq;rw[<- gd hk]; exact h.ok k hk
   . rw[<- gd hi,<- gd hj];refine⟨h.le (Nat.le_of_lt hij) hj,fun e=>?_⟩;have t:=h.one j hj;have:=Cf (xs:=xs) (pl:=(xs.getD j ez).p) hi e;omega
 . intro h;have pw:=List.pairwise_iff_getElem.1 h.pw;refine⟨h.len,fun k hk=>?_,fun k hk=>?_,fun k hk=>?_⟩
   . rw[gd hk]; exact h.ok _ (List.getElem_mem hk)
   . rw[gd hk,gd (show k<xs.length by omega)]; exact(pw k (k+1) (by omega) hk (by omega)).1
   . refine CH hk rfl fun j hj=>?_;rw[gd hk,gd (show j<xs.length by omega)]; exact(pw j k (by omega) hk hj).2
theorem Bp.sub{xs ys:List En}(h:Bp xs)(s:List.Sublist ys xs):Bp ys :=
 ⟨Nat.le_trans s.length_le h.len,fun q hq=>h.ok q (s.subset hq),h.pw.sublist s⟩
theorem Bp.wo{xs:List En}(h:Bp xs)(pl:Int):Bp (As xs pl):=h.sub List.filter_sublist
theorem Ap:∀(xs:List En) (s:Int),lead xs s<=xs.length
 | [],_=>Nat.le_refl _
 | q::xs,s=>by unfold lead; split<;>simp[Ap xs s]
theorem AU:∀{xs:List En} {s:Int} {q:En},q∈xs.take (lead xs s)->q.s<=s
 | [],_,_,h=>by simp at h
 | a::xs,s,q,h=>by
  unfold lead at h;split at h
  . next e =>
    rw[List.take_succ_cons,List.mem_cons] at h;rcases h with rfl | h
    . exact e
    . exact AU h
  . simp at h
theorem Bt:∀{xs:List En} {s:Int},xs.Pairwise Rk->∀ q∈xs.drop (lead xs s),s<q.s
 | [],_,_,_,h=>by simp at h
 | a::xs,s,pw,q,h=>by
  rw[List.pairwise_cons] at pw;unfold lead at h;split at h
  . exact Bt pw.2 q (by simpa using h)
  . next e =>
    rw[List.drop_zero,List.mem_cons] at h;rcases h with rfl | h
    . omega
    . have:=(pw.1 q h).1; omega
theorem Ci:∀{xs:List En} {s:Int},xs.Pairwise Rk->Ax xs s=lead xs s
 | [],_,_=>rfl
 | a::xs,s,pw=>by
  rw[List.pairwise_cons] at pw;have t:=Ci (xs:=xs) (s:=s) pw.2;unfold Ax at t ⊢;unfold lead;by_cases h:a.s<=s
  . simp[h,t]
  . have e:xs.filter (fun q=>decide (q.s<=s))=[]:=by
     rw[List.filter_eq_nil_iff];intro q hq; have:=(pw.1 q hq).1; simp; omega
    simp[h,e]
section
variable {xs rs ys:List En} {e:En}
end
theorem BF{xs:List En}{e:En}:(AK xs e).length=min 4 (xs.length+1):=by
 have:=Ap xs e.s;unfold AK; simp; omega
section
variable {α β:Type}
def swp(xs:List α)(i j:Nat):List α :=
 match xs[i]?,xs[j]? with
 | some a,some b=>(xs.set i b).set j a
 | _,_=>xs
def Ds(ls:α->α->Bool)(xs:List α)(i j:Nat):Bool :=
 match xs[i]?,xs[j]? with
 | some a,some b=>ls a b
 | _,_=>false
def Em(ls:α->α->Bool):Nat->List α->Nat->List α
 | 0,xs,_=>xs
 | f+1,xs,j=>if (j-1) / 2=j then xs else if Ds ls xs j ((j-1) / 2) then Em ls f (swp xs ((j-1) / 2) j) ((j-1) / 2) else xs
def Et(ls:α->α->Bool)(xs:List α)(i n:Nat):Nat:=if 2*i+2<n/\Ds ls xs (2*i+2) (2*i+1)=true then 2*i+2 else 2*i+1
def Dt(ls:α->α->Bool):Nat->List α->Nat->Nat->List α
 | 0,xs,_,_=>xs
 | f+1,xs,i,n=>if n<=2*i+1 then xs else if Ds ls xs (Et ls xs i n) i then Dt ls f (swp xs i (Et ls xs i n)) (Et ls xs i n) n else xs
def AO(ls:α->α->Bool)(xs:List α)(a:α):List α:=Em ls (xs.length+1) (xs++[a]) xs.length
def Ca(ls:α->α->Bool)(xs:List α):List α:=(Dt ls xs.length (swp xs 0 (xs.length-1)) 0 (xs.length-1)).take (xs.length-1)
def Ag(ls:α->α->Bool)(xs:List α):List α:=xs.foldl (AO ls) []
def AH(ls:α->α->Bool):Nat->List α->List α
 | 0,_=>[]
 | _+1,[]=>[]
 | k+1,a::xs=>a::AH ls k (Ca ls (a::xs))
theorem Aq(xs:List α)(i j:Nat):(swp xs i j).length=xs.length:=by
 unfold swp; split<;>simp
theorem Du(ls:α->α->Bool):∀(f:Nat) (xs:List α) (j:Nat),(Em ls f xs j).length=xs.length
 | 0,_,_=>rfl
 | f+1,xs,j=>by
  unfold Em; split
  . rfl
  . split
    . rw[Du ls f,Aq]
    . rfl
theorem CK(ls:α->α->Bool):∀(f:Nat) (xs:List α) (i n:Nat),(Dt ls f xs i n).length=xs.length
 | 0,_,_,_=>rfl
 | f+1,xs,i,n=>by
  unfold Dt; split
  . rfl
  . split
    . rw[CK ls f,Aq]
    . rfl
theorem D4(ls:α->α->Bool)(xs:List α)(a:α):(AO ls xs a).length=xs.length+1:=by
 rw[AO,Du]; simp
theorem Eu(ls:α->α->Bool)(xs:List α):(Ca ls xs).length=xs.length-1:=by
 rw[Ca,List.length_take,CK,Aq]; omega
variable {la:α->α->Bool} {lb:β->β->Bool} {f:α->β} (hf:∀ x y,lb (f x) (f y)=la x y)
theorem CM(f:α->β)(xs:List α)(i j:Nat):swp (xs.map f) i j=(swp xs i j).map f:=by
 unfold swp;rw[List.getElem?_map,List.getElem?_map];cases xs[i]?<;>cases xs[j]?<;>simp[List.map_set]
include hf in
theorem CN(xs:List α)(i j:Nat):Ds lb (xs.map f) i j=Ds la xs i j:=by
 unfold Ds;rw[List.getElem?_map,List.getElem?_map];cases xs[i]?<;>cases xs[j]?<;>simp[hf]
include hf in
theorem kid_map(xs:List α)(i n:Nat):Et lb (xs.map f) i n=Et la xs i n:=by unfold Et; rw[CN hf]
include hf in
theorem Dv:∀(k:Nat) (xs:List α) (j:Nat),Em lb k (xs.map f) j=(Em la k xs j).map f
 | 0,_,_=>rfl
 | k+1,xs,j=>by
  unfold Em;rw[CN hf,CM,Dv k];split
  . rfl
  . split<;>rfl
include hf in
theorem Dw:∀(k:Nat) (xs:List α) (i n:Nat),Dt lb k (xs.map f) i n=(Dt la k xs i n).map f
 | 0,_,_,_=>rfl
 | k+1,xs,i,n=>by
  unfold Dt;rw[kid_map hf,CN hf,CM,Dw k];split
  . rfl
  . split<;>rfl
include hf in
theorem D5(xs:List α)(a:α):AO lb (xs.map f) (f a)=(AO la xs a).map f:=by
 unfold AO;rw[show xs.map f++[f a]=(xs++[a]).map f by simp,Dv hf,List.length_map]
include hf in
theorem C1(xs:List α):Ag lb (xs.map f)=(Ag la xs).map f:=by
 have g:∀(xs ys:List α),(xs.map f).foldl (AO lb) (ys.map f)=(xs.foldl (AO la) ys).map f:=fun xs=>by
  induction xs with
  | nil=>intro ys; rfl
  | cons a xs ih=>intro ys; simp only[List.map_cons,List.foldl_cons]; rw[D5 hf,ih]
 exact g xs []
include hf in
theorem Ev(xs:List α):Ca lb (xs.map f)=(Ca la xs).map f:=by
 unfold Ca;rw[List.length_map,CM,Dw hf,List.map_take]
include hf in
theorem CB:∀(k:Nat) (xs:List α),AH lb k (xs.map f)=(AH la k xs).map f
 | 0,_=>rfl
 | _+1,[]=>rfl
 | k+1,a::xs=>by
  have e:=Ev hf (a::xs);rw[List.map_cons] at e ⊢;unfold AH;rw[e,CB k]; rfl
end
def lf{n:Nat}(a b:Fin n):Bool:=decide (a<b)
def C2(n:Nat)(k:Nat)(h:k<n):List (Fin n):=(List.finRange n).eraseIdx k++[⟨k,h⟩]
theorem late1:∀(k:Nat) (h:k<1),AH lf 4 (Ag lf (C2 1 k h))=(List.finRange 1).take 4:=by decide
theorem Fx:∀(k:Nat) (h:k<2),AH lf 4 (Ag lf (C2 2 k h))=(List.finRange 2).take 4:=by decide
theorem Fy:∀(k:Nat) (h:k<3),AH lf 4 (Ag lf (C2 3 k h))=(List.finRange 3).take 4:=by decide
theorem Fz:∀(k:Nat) (h:k<4),AH lf 4 (Ag lf (C2 4 k h))=(List.finRange 4).take 4:=by decide
theorem FA:∀(k:Nat) (h:k<5),AH lf 4 (Ag lf (C2 5 k h))=(List.finRange 5).take 4:=by decide
structure Ct where
 p:Int
 s:Int
 t:Int
def cz:Ct:=⟨0,0,0⟩
def Ct.e(c:Ct):En:=⟨c.p,c.s⟩
def AA(a b:Ct):Bool:=if a.s=b.s then decide (a.t<b.t) else decide (a.s<b.s)
def AY:Nat->List En->List Ct
 | _,[]=>[]
 | k,q::xs=>⟨q.p,q.s,k⟩::AY (k+1) xs
def CO(xs:List En):List En:=(AH AA 4 (Ag AA (AY 0 xs))).map Ct.e
theorem BG:∀(k:Nat) (xs:List En),(AY k xs).length=xs.length
 | _,[]=>rfl
 | k,q::xs=>by simp[AY,BG (k+1) xs]
theorem CP:∀(k:Nat) (xs:List En) (e:En),AY k (xs++[e])=AY k xs++[⟨e.p,e.s,((k+xs.length:Nat):Int)⟩]
 | k,[],e=>rfl
 | k,q::xs,e=>by simp[AY,CP (k+1) xs e]; omega
theorem Fe:∀(k:Nat) (xs:List En),(AY k xs).map Ct.e=xs
 | _,[]=>rfl
 | k,q::xs=>by simp[AY,Ct.e,Fe (k+1) xs]
theorem Dx:∀(k:Nat) (xs:List En),∀ c∈AY k xs,(k:Int)<=c.t/\c.t<((k+xs.length:Nat):Int)/\c.e∈xs
 | _,[],c,h=>by cases h
 | k,q::xs,c,h=>by
  rw[AY,List.mem_cons] at h;rcases h with rfl | h
  . simp[Ct.e]; omega
  . have:=Dx (k+1) xs c h;refine⟨by omega,?_,List.mem_cons_of_mem _ this.2.2⟩;simp only[List.length_cons]; omega
theorem Ew{a b:Ct}(h:AA a b=true):AA b a=false:=by
 unfold AA at h ⊢;by_cases e:a.s=b.s
 . rw[if_pos e] at h; rw[if_pos e.symm]; simp at h ⊢; omega
 . rw[if_neg e] at h; rw[if_neg (fun c=>e c.symm)]; simp at h ⊢; omega
theorem Ex(a:Ct):AA a a=false:=by simp[AA]
theorem Ey:∀(k:Nat) (xs:List En),xs.Pairwise Rk->(AY k xs).Pairwise fun a b=>AA a b=true
 | _,[],_=>List.Pairwise.nil
 | k,q::xs,h=>by
  rw[List.pairwise_cons] at h;rw[AY,List.pairwise_cons];refine⟨fun c hc=>?_,Ey (k+1) xs h.2⟩;have t:=Dx (k+1) xs c hc;have:=(h.1 _ t.2.2).1;simp only[Ct.e] at this;unfold AA;dsimp only;split
  . simp; omega
  . simp; omega
theorem Dy(S:List Ct):(List.finRange S.length).map S.get=S:=by
 refine List.ext_getElem (by simp) fun i h1 h2=>by simp
theorem Ez(S:List Ct)(n:Nat)(h:n<S.length):(C2 S.length n h).map S.get=S.eraseIdx n++[S[n]]:=by
 rw[C2,List.map_append,List.eraseIdx_eq_take_drop_succ,List.map_append,List.map_take,List.map_drop,Dy,List.eraseIdx_eq_take_drop_succ]; rfl
theorem FB{S:List Ct}(hl:S.length<=5)(pw:S.Pairwise fun a b=>AA a b=true){n:Nat}(h:n<S.length) :
 AH AA 4 (Ag AA (S.eraseIdx n++[S[n]]))=S.take 4:=by
 have hf:∀ x y:Fin S.length,AA (S.get x) (S.get y)=lf x y:=fun x y=>by
  have p:=List.pairwise_iff_getElem.1 pw;unfold lf;rcases Nat.lt_trichotomy x.1 y.1 with g | g | g
  . rw[decide_eq_true (show x<y from g)]; exact p x.1 y.1 x.2 y.2 g
  . have:x=y:=Fin.ext g;subst this;rw[Ex,decide_eq_false (by simp)]
  . rw[decide_eq_false (show ¬ x<y from fun c=>absurd (show x.1<y.1 from c) (by omega))];exact Ew (p y.1 x.1 y.2 x.2 g)
 rw[<- Ez S n h,C1 hf,CB hf];have key:∀(m:Nat) (h:n<m),m<=5->AH lf 4 (Ag lf (C2 m n h))=(List.finRange m).take 4:=fun m h h5=>by
  match m,h,h5 with
  | 1,h,_=>exact late1 n h
  | 2,h,_=>exact Fx n h
  | 3,h,_=>exact Fy n h
  | 4,h,_=>exact Fz n h
  | 5,h,_=>exact FA n h
 rw[key _ h hl,List.map_take,Dy]
theorem EZ{rs:List En}{e:En}(pw:rs.Pairwise Rk)(hl:rs.length<=4):CO (rs++[e])=AK rs e:=by
 have hle:=Ap rs e.s;have hn:lead rs e.s<=(AY 0 rs).length:=by rw[BG]; exact hle
 obtain⟨S,hS⟩:∃ S,(AY 0 rs).take (lead rs e.s)++⟨e.p,e.s,((rs.length:Nat):Int)⟩::(AY 0 rs).drop (lead rs e.s)=S:=⟨_,rfl⟩;have hSl:S.length=rs.length+1:=by rw[<- hS]; simp[BG]; omega
 have hm:(AY 0 rs).take (lead rs e.s)=AY 0 (rs.take (lead rs e.s))/\True:=⟨by
  have g:∀(k n:Nat) (ys:List En),(AY k ys).take n=AY k (ys.take n):=fun k n ys=>by
   induction ys generalizing k n with
   | nil=>simp[AY]
   | cons a ys ih=>cases n with
    | zero=>simp[AY]
    | succ n=>simp[AY,ih]
  exact g _ _ _,trivial⟩
 have hdr:∀(k n:Nat) (ys:List En),(AY k ys).drop n=AY (k+n) (ys.drop n):=fun k n ys=>by
  induction ys generalizing k n with
  | nil=>simp[AY]
  | cons a ys ih=>cases n with
   | zero=>simp[AY]
   | succ n=>simp only[AY,List.drop_succ_cons,ih]; congr 1; omega
 have pwS:S.Pairwise fun a b=>AA a b=true:=by
  have p0:=Ey 0 rs pw;rw[<- hS,List.pairwise_append,List.pairwise_cons];refine⟨p0.sublist (List.take_sublist _ _),⟨fun c hc=>?_,p0.sublist (List.drop_sublist _ _)⟩,fun a ha b hb=>?_⟩
  . rw[hdr] at hc;have t:=Dx _ _ c hc;have:=Bt pw _ t.2.2;simp only[Ct.e] at this;unfold AA;dsimp only;rw[if_neg (by omega),decide_eq_true (by omega)]
  . have ha0:=ha;rw[hm.1] at ha;have t:=Dx _ _ a ha;rw[List.mem_cons] at hb;rcases hb with rfl | hb
    . have:=AU t.2.2;simp only[Ct.e] at this;have t2:=t.2.1;simp only[List.length_take] at t2;unfold AA;dsimp only;split
      . rw[decide_eq_true]; omega
      . rw[decide_eq_true]; omega
    . rw[<- List.take_append_drop (lead rs e.s) (AY 0 rs),List.pairwise_append] at p0;exact p0.2.2 a ha0 b hb
 have hlt:lead rs e.s<S.length:=by omega
 have hlen:((AY 0 rs).take (lead rs e.s)).length=lead rs e.s:=by rw[List.length_take,Nat.min_eq_left hn]
 have hg:S[lead rs e.s]=⟨e.p,e.s,((rs.length:Nat):Int)⟩:=by
  subst hS;rw[List.getElem_append_right (by rw[hlen]; exact Nat.le_refl _)];simp[hlen]
 have he:S.eraseIdx (lead rs e.s)=AY 0 rs:=by
  subst hS;rw[List.eraseIdx_append_of_length_le (by rw[hlen]; exact Nat.le_refl _),hlen,Nat.sub_self,List.eraseIdx_cons_zero,List.take_append_drop]
 have t:=FB (by omega) pwS hlt;rw[hg,he] at t;unfold CO;rw[CP,Nat.zero_add,t,<- hS];unfold AK;rw[List.map_take,List.map_append,List.map_cons,List.map_take,List.map_drop,Fe];rfl
end M
end Go.Proofs.Ytgghhedkephohaa
