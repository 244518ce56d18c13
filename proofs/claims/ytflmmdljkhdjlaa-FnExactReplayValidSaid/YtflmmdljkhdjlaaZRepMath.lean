import Derived.Test.YtflmmdljkhdjlaaZInS
import Derived.Test.YtflmmdljkhdjlaaZLevH
import Derived.Test.YtflmmdljkhdjlaaZCelS
set_option linter.all false
set_option maxRecDepth 100000
set_option maxHeartbeats 8000000
namespace Go.Proofs.Ytflmmdljkhdjlaa
namespace M
structure Pt where
 c:Int
 m:Int
def pz:Pt:=⟨0,0⟩
abbrev Tx:=List UInt8
def cut(a:UInt8):Tx->List Tx
 | []=>[[]]
 | b::s=>if b=a then []::cut a s else (b::(cut a s).headD [])::(cut a s).tail
def FD(q:In):Int:=FC q.s q.p q.z
structure Rep where
 l:Int
 p:Int
 s:Int
 xs:List In
 hs:List Int
 t:Int
def Ce(xs:List In):Bool:=(xs.all fun q=>Bp q.s q.p q.z)&&decide (xs.length<=60)
def C8(n:Int):Bool:=Aw n 0 1000002
def BJ(r:Rep):Bool:=r.hs.all C8&&(Aw r.l 0 99&&Aw r.p 0 9&&Aw r.s 0 60&&Ce r.xs&&decide (r.hs.length=r.xs.length / 5)&&C8 r.t)
def An(xs:List In):List Int:=xs.map FD
theorem AP{xs:List In}:Ce xs=true↔(xs.all fun q=>Bp q.s q.p q.z)=true/\xs.length<=60:=by
 unfold Ce; rw[Bool.and_eq_true,decide_eq_true_eq]
theorem Cc{r:Rep}(h:BJ r=true):(∀ n∈r.hs,0<=n/\n<=1000002)/\(0<=r.l/\r.l<=99)/\(0<=r.p/\r.p<=9)/\(0<=r.s/\r.s<=60)/\Ce r.xs=true/\r.hs.length=r.xs.length / 5/\(0<=r.t/\r.t<=1000002):=by
 simp only[BJ,C8,Aw,Bool.and_eq_true,decide_eq_true_eq,List.all_eq_true] at h;obtain⟨h1,⟨⟨⟨⟨h2,h3⟩,h4⟩,h5⟩,h6⟩,h7⟩:=h;exact⟨h1,h2,h3,h4,h5,h6,h7⟩
end M
end Go.Proofs.Ytflmmdljkhdjlaa
namespace Go.Proofs.Ytflmmdljkhdjlaa
open Go.RowKit
open M
end Go.Proofs.Ytflmmdljkhdjlaa
namespace Go.Proofs.Ytflmmdljkhdjlaa
namespace M
end M
end Go.Proofs.Ytflmmdljkhdjlaa
