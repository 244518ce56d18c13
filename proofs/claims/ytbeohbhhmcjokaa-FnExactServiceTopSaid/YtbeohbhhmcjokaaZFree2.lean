import Derived.Test.YtbeohbhhmcjokaaZLevS
import Derived.Test.YtbeohbhhmcjokaaZRowS
set_option linter.all false
set_option maxRecDepth 100000
set_option maxHeartbeats 8000000
open Go.Lib
namespace Go.Proofs.Ytbeohbhhmcjokaa
open Go.RowKit
open M
open Go.RowKit
open M
theorem Kept.mine{r:Nat}{w a:World}(h:Kept r w a)(o:Nat)(v:Value):Kept r w (a.setCell ⟨r,o,none⟩ v) :=
 ⟨h.os,h.tape,h.output,by simpa[World.setCell] using h.size,fun k hk hr=>(Below.heap_setCell a ⟨r,o,none⟩ v k hr).trans (h.block k hk hr)⟩
def Off(A:Option Addr)(n b:Nat):Prop:=0<n->∀ k off,A=some ⟨k,off,none⟩->k≠b
theorem Ints.kept{w w':World}{A:Option Addr}{n r:Nat}{xs:List Int}(h:Ints w A n xs)(K:Kept r w w')(hA:Off A n r):Ints w' A n xs :=
 ⟨h.1,fun hn=>by
  obtain⟨b,off,e,hb,hc⟩:=h.2 hn;exact⟨b,off,e,Nat.lt_of_lt_of_le hb K.size,fun k hk=>(K.cell (p:=⟨b,off+k,none⟩) hb (hA hn b off e)).trans (hc k hk)⟩⟩
theorem Ints.off{w:World}{A:Option Addr}{n:Nat}{xs:List Int}(h:Ints w A n xs){b:Nat}(hb:w.heap.size<=b):Off A n b:=fun hn k off e=>by
 obtain⟨b',off',e',hb',_⟩:=h.2 hn;rw[e'] at e;cases e
 omega
open Go.RowKit
open M
open Go.RowKit
open M
theorem IsRow.ints{w:World}{a:Option Addr}{len cap:Nat}{zs:List Int}(h:IsRow .i64 w a len cap zs):len<=cap/\cap<=maxLen/\Ints w a len (zs.take len):=by
 rcases h with⟨rfl,rfl,rfl,rfl⟩ | ⟨x,rfl,hl,hm,hz,hcell,hwz⟩
 . exact⟨Nat.le_refl _,Nat.zero_le _,rfl,fun h=>absurd h (by omega)⟩
 . refine⟨hl,hm,by simp; omega,fun h0=>?_⟩;obtain⟨b,off,spot⟩:=x;have hc:=hcell 0 (by omega);have hspot:spot=Option.none:=by simpa[Addr.add] using World.cell?_spot hc
   subst hspot;refine⟨b,off,rfl,?_,fun i hi=>?_⟩
   . have:=Dd hc;simpa[Addr.add] using this
   . have hci:=hcell i (by omega);rw[Addr.add_lit] at hci;rw[hci,List.getD_eq_getElem?_getD,List.getD_eq_getElem?_getD,List.getElem?_take,if_pos hi]
theorem Cn(w:World)(m k:Nat):(w.drewN m).drewN k=w.drewN (m+k):=by simp[World.drewN,Nat.add_assoc]
def part(xs:List Int)(n k:Nat):List Int:=xs.take k++List.replicate (n-k) 0
theorem EH(xs:List Int)(n:Nat):part xs n 0=List.replicate n 0:=by simp[part]
theorem Fg{xs:List Int}{n:Nat}(h:xs.length=n):part xs n n=xs:=by simp[part,<- h]
theorem Fh{xs:List Int}{n k:Nat}(h:xs.length=n)(hk:k<=n):(part xs n k).length=n:=by simp[part]; omega
theorem EI{xs:List Int}{n k:Nat}(h:xs.length=n)(hk:k<n):(part xs n k).set k (xs.getD k 0)=part xs n (k+1):=by
 unfold part;rw[EY (by omega),List.set_append_right _ _ (by simp; omega)];have e:k-(xs.take k).length=0:=by simp; omega
 rw[e,show n-k=(n-(k+1))+1 by omega,List.replicate_succ,List.set_cons_zero,List.append_assoc];rfl
def Gn(w:World)(n:Nat)(xs:List Int)(i:Value)(W:World):Prop :=
 ∃ k:Nat,k<=n/\i=.int .i64 k/\W.ownsRow w.heap.size 3 1 (.slice (some ⟨w.heap.size,0,none⟩) n n) n ((part xs n k).map (Value.int .i64))/\Below w.heap.size w W
theorem AY(A D:Option Addr)(n c d:Nat)(xs:List Int)(w:World)(I:Ints w A n xs)(J:Ints w D n xs)(hn:n<=1048576) :
 Calls Try.prog 17 #[.slice A n c,.slice D n d] w fun e w'=>e=.returned (.bool true)/\Below w.heap.size w w':=by
 have I:=hid I;have J:=hid J;go_enter Try.func17,Try.ntmps17;go_wp2
 go_loopw [5] (fun i W=>∃ k m:Nat,k<=n/\i=.int .i64 k/\w.drewN m=W) (fun i _=>n-(RowKit.intOf i).toNat)
 case atStart=>exact⟨0,0,Nat.zero_le _,rfl,rfl⟩
 case round =>
  obtain⟨k,m,hk,rfl,rfl⟩:=hrel;by_cases hlt:k<n
  . obtain⟨b,off,hA,_,hc⟩:=I.out.2 (by omega);obtain⟨b2,off2,hD,_,hc2⟩:=J.out.2 (by omega);have ck:(w.drewN m).cell? ⟨b,off+k,none⟩=some (.int .i64 (xs.getD k 0)):=hc k hlt;have ck2:(w.drewN m).cell? ⟨b2,off2+k,none⟩=some (.int .i64 (xs.getD k 0)):=hc2 k hlt;clear hc hc2;subst hA hD;generalize xs.getD k 0=z at *;obtain⟨W,hW⟩:∃ W,w.drewN m=W:=⟨_,rfl⟩;rw[hW] at ck ck2 ⊢;have hW:=hid hW;go_wp2_with fail
    go_quiet (fail)
    go_wp2
    go_roundw
    case rel=>exact⟨k+1,m+_,by omega,by go_num,by rw[<- hW.out]; exact(Cn w m _).symm⟩
    case measure=>simp[RowKit.intOf]; omega
  . go_wp2;go_ret;exact⟨rfl,Ar (Ac w) m⟩
end Go.Proofs.Ytbeohbhhmcjokaa
