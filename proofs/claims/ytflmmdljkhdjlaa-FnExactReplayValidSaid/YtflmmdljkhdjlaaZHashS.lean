import Derived.Test.YtflmmdljkhdjlaaZVecS
set_option linter.all false
set_option maxRecDepth 100000
set_option maxHeartbeats 8000000
namespace Go.Proofs.Ytflmmdljkhdjlaa
namespace M
def Jn(h n:Int):Int:=(8191*h+n % 1000003+1) % 1000003
def HE(h:Int)(xs:List Int):Int:=xs.foldl Jn h
theorem Hd{xs:List Int}{k:Nat}(h:k<xs.length):xs.take (k+1)=xs.take k++[xs.getD k 0]:=by
 rw[List.take_succ_eq_append_getElem h,List.getD_eq_getElem?_getD,List.getElem?_eq_getElem h];rfl
end M
end Go.Proofs.Ytflmmdljkhdjlaa
namespace Go.Proofs.Ytflmmdljkhdjlaa
open Go.RowKit
open M
def Ints(w:World)(A:Option Addr)(n:Nat)(xs:List Int):Prop :=
 xs.length=n/\(0<n->∃ b off,A=some ⟨b,off,none⟩/\b<w.heap.size/\∀ k,k<n->w.cell? ⟨b,off+k,none⟩=some (.int .i64 (xs.getD k 0)))
theorem Ints.step{w w':World}{A:Option Addr}{n:Nat}{xs:List Int}(h:Ints w A n xs)(B:Below w.heap.size w w'):Ints w' A n xs :=
 ⟨h.1,fun hn=>by
  obtain⟨b,off,e,hb,hc⟩:=h.2 hn;exact⟨b,off,e,Nat.lt_of_lt_of_le hb B.size,fun k hk=>(B.cell (p:=⟨b,off+k,none⟩) hb).trans (hc k hk)⟩⟩
theorem Ints.alloc{w:World}{A:Option Addr}{n:Nat}{xs:List Int}(h:Ints w A n xs)(o:Obj):Ints (w.alloc o) A n xs:=h.step (Ab (Ac w) o)
theorem Aj(n lo hi:Int)(b:Bool)(w:World)(h:Aw n lo hi=b):Calls Try.prog 64 #[.int .i64 n,.int .i64 lo,.int .i64 hi] w fun e w'=>e=.returned (.bool b)/\w=w':=by
 subst h;exact Ee n lo hi w
end Go.Proofs.Ytflmmdljkhdjlaa
namespace Go.Proofs.Ytflmmdljkhdjlaa
namespace M
end M
end Go.Proofs.Ytflmmdljkhdjlaa
