import Derived.Lib.AtoiAllCases
import Derived.Lib.ItoaNum
import Derived.Lib.Split
import Derived.Lib.SplitLaws
import Derived.Lib.IndexBytes
import Derived.Lib.IndexMore
import Derived.Test.YtgbiagonfbnooaaDoorZRepMath
set_option linter.all false
set_option maxRecDepth 100000
set_option maxHeartbeats 8000000
namespace Go.Proofs.YtgbiagonfbnooaaDoor
namespace M
theorem Lo(n:Nat):Go.Lib.decDigits n=dec n:=by
 induction n using Nat.strongRecOn with
 | ind n ih =>
  rw[Go.Lib.decDigits,dec];by_cases h:n<10
  . rw[dif_pos h,if_pos h]
  . rw[dif_neg h,if_neg h,ih (n / 10) (by omega)]
theorem Jp{n:Int}(h:0<=n):Go.Lib.itoa n=dec n.toNat:=by
 rw[Go.Lib.itoa,if_neg (by omega),Lo]
end M
end Go.Proofs.YtgbiagonfbnooaaDoor
namespace Go.Proofs.YtgbiagonfbnooaaDoor
namespace M
end M
end Go.Proofs.YtgbiagonfbnooaaDoor
namespace Go.Proofs.YtgbiagonfbnooaaDoor
namespace M
theorem FO(r:Rep):(Db r).take 7=kR++[32]:=by
 unfold Db Jj nums;simp[kR]
theorem BR:∀(l:List Int),JG l->(nums l).length<=8*l.length
 | [],_=>by simp[nums]
 | n::l,h=>by
  have ih:=BR l fun x hx=>h x (List.mem_cons_of_mem _ hx);have h1:=h n (by simp);have h2:=Dn n.toNat 6 (by omega);have e:nums (n::l)=32::(dec n.toNat++nums l):=by simp[nums]
  rw[e];simp only[List.length_cons,List.length_append];omega
theorem Ko{r:Rep}(h:BC r=true):(Db r).length<=2000:=by
 obtain⟨h1,h2,h3,h4,h5,h6,h7⟩:=CX h;have h8:=(AO.1 h5).2;have f:=Bm h5;have a1:=BR [r.l,r.p,r.s] (fun n hn=>by simp at hn; rcases hn with rfl | rfl | rfl<;>omega);have a2:=BR (Ar (AU (An r.xs))) (CJ f);have a3:=BR r.hs (fun n hn=>by have:=h1 n hn; omega);have a4:=BR [r.t] (fun n hn=>by simp at hn; subst hn; omega);have a5:(AU (An r.xs)).length<=60:=by
  have b1:=f.2.2;have b2:∀(ps:List Pt),Ee ps=true->ps.length<=(Cl ps).length:=by
   intro ps
   induction ps with
   | nil=>intro _; simp
   | cons p ps ih =>
    intro ok;have:=Bh ok;have:=ih (CG ok);simp only[Cl,List.length_cons,List.length_append,List.length_replicate];omega
  have:=b2 _ f.1;omega
 rw[Bj] at a2;simp only[List.length_cons,List.length_nil] at a1 a4;simp only[Db,Jj,Kj,Kk,Kl,List.length_append,List.length_cons,List.length_nil,kR,kI,kH,kT];omega
theorem Kq(r:Rep):8<=(Db r).length:=by
 have:=congrArg List.length (FO r);have e:(Db r).length=(Db r).length:=rfl;unfold Db Jj nums at *;simp only[List.length_append,List.length_cons,kR,List.length_nil];omega
end M
end Go.Proofs.YtgbiagonfbnooaaDoor
