import Derived.Test.YtflmmdljkhdjlaaZDrawLev
import Derived.Test.YtflmmdljkhdjlaaZEngOwn
import Derived.Test.YtflmmdljkhdjlaaZRegN
set_option linter.all false
set_option maxRecDepth 100000
set_option maxHeartbeats 8000000
namespace Go.Proofs.Ytflmmdljkhdjlaa
open Go.RowKit
open M
theorem CU{P:Program}{ops:Array Oper}{rest:List Oper}{o:Oper}{a:Act}{w:World}{Q:Exit->Act->World->Prop}(hw:Region.wanted o (yielded ops a.tmps)=true)(ty:TypeId)(x:Operand)(ho:o.op=.load ty x)
 (b:Nat) (hx:a.eval x=.pointer (some ⟨b,0,none⟩)) (vs:List Value) (L:CellsAt w b vs) {d:TypeDesc} (hu:P.underlying ty=some d) (hd:d.isRow=true) (hi:(P.info? ty).map (·.size)=some vs.length)
 (h:wpList P ops Q rest (a.put o.dst (.agg vs.toArray)) w):wpList P ops Q (o::rest) a w:=by
 simp only[wpList,hw,if_true];exact .inl (wp_load_mid ty x ho b 0 hx vs d L.range hu hd hi h)
structure Lv where
 i:Int
 t:Int
 x:Int
 y:Int
 A:Option Addr
 n:Nat
 c:Nat
 G:Option Addr
 m:Nat
 kk:Nat
 fp:Int
 fq:Int
 fs:Int
 fz:Int
 b:Int
 ws:List Bx
 gs:List Bx
abbrev Lv.cs(L:Lv):List Value:=Bd L.i L.t L.x L.y L.A L.n L.c L.G L.m L.kk L.fp L.fq L.fs L.fz L.b
def Lv.ok(L:Lv):Bool:=BX L.i L.t L.x L.y L.ws L.gs L.fp L.fq L.fs L.fz L.b
abbrev M.sva(s:St):Value:=Da s.k s.ax s.ay s.fx s.fy s.u s.g s.d s.o
abbrev M.z0:St:=⟨0,0,0,0,0,0,0,false,false⟩
def Lv.s0(L:Lv):St:=if L.ok then ⟨0,L.x,L.y,0,0,0,0,false,false⟩ else z0
def Lv.nx(L:Lv)(s:St)(q:In):St:=esS L.i L.t L.x L.y L.ws L.gs L.fp L.fq L.fs L.fz L.b s.k s.ax s.ay s.fx s.fy s.u s.g s.d s.o q.s q.p q.z
def Lv.run(L:Lv)(xs:List In):St:=xs.foldl L.nx L.s0
def Lv.tail(L:Lv)(s:St):List In->List Value
 | []=>[]
 | q::xs=>sva (L.nx s q)::L.tail (L.nx s q) xs
def Fi(L:Lv)(xs:List In)(n:Nat)(k0:Int):Bool:=decide (0<=k0)&&(decide (k0<=n)&&decide (HF L.i L.t L.x L.y L.ws L.gs L.fp L.fq L.fs L.fz L.b xs=-1))
open Go.RowKit
open M
open Go.RowKit
open M
open Go.RowKit
open M
abbrev Lv.at(L:Lv)(xs:List In)(j:Nat):St:=L.run (xs.take j)
open Go.RowKit
open M
abbrev Lf(s:St):Int:=ehI s.k s.ax s.ay s.fx s.fy s.u s.g s.d s.o
def rhs(L:Lv)(xs:List In)(N:Nat):List Int:=if Fi L xs N (N:Int) then (List.range (N / 5)).map fun t=>Lf (L.at xs (5*(t+1))) else []
end Go.Proofs.Ytflmmdljkhdjlaa
