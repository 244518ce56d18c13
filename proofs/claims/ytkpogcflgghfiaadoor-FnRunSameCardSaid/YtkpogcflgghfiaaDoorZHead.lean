import Derived.Test.YtkpogcflgghfiaaDoorRows
import Derived.ProofKit
import Derived.JoinedOf
import Derived.Test.YtkpogcflgghfiaaDoorZNum
import Derived.Test.YtkpogcflgghfiaaDoorZVecS
import Derived.Test.YtkpogcflgghfiaaDoorZRdS
import Derived.Maps.AppendAt
import Derived.OwnWalk
import Derived.Laws.OwnMore
set_option linter.all false
set_option maxRecDepth 100000
set_option maxHeartbeats 8000000
namespace Go.Proofs.YtkpogcflgghfiaaDoor
open Go.RowKit
def F4:List Char:=[
 Char.ofNat 104,Char.ofNat 97,Char.ofNat 114,Char.ofNat 110,Char.ofNat 101,Char.ofNat 115,Char.ofNat 115,Char.ofNat 32,Char.ofNat 102,Char.ofNat 49,Char.ofNat 97,Char.ofNat 49,
 Char.ofNat 52,Char.ofNat 102,Char.ofNat 100,Char.ofNat 99,Char.ofNat 56,Char.ofNat 98,Char.ofNat 98,Char.ofNat 57,Char.ofNat 49,Char.ofNat 101,Char.ofNat 54,Char.ofNat 54,
 Char.ofNat 48,Char.ofNat 54,Char.ofNat 48,Char.ofNat 57,Char.ofNat 54,Char.ofNat 97,Char.ofNat 57,Char.ofNat 99,Char.ofNat 53,Char.ofNat 55,Char.ofNat 48,Char.ofNat 52,
 Char.ofNat 102,Char.ofNat 56,Char.ofNat 49,Char.ofNat 53,Char.ofNat 50,Char.ofNat 50,Char.ofNat 51,Char.ofNat 51,Char.ofNat 48,Char.ofNat 55,Char.ofNat 49,Char.ofNat 55,
 Char.ofNat 102,Char.ofNat 98,Char.ofNat 100,Char.ofNat 102,Char.ofNat 97,Char.ofNat 101,Char.ofNat 98,Char.ofNat 54,Char.ofNat 101,Char.ofNat 101,Char.ofNat 53,Char.ofNat 50,
 Char.ofNat 49,Char.ofNat 52,Char.ofNat 56,Char.ofNat 57,Char.ofNat 51,Char.ofNat 51,Char.ofNat 98,Char.ofNat 49,Char.ofNat 48,Char.ofNat 102,Char.ofNat 57,Char.ofNat 102,
 Char.ofNat 32,Char.ofNat 99,Char.ofNat 117,Char.ofNat 116,Char.ofNat 32,Char.ofNat 97,Char.ofNat 116,Char.ofNat 32,Char.ofNat 108,Char.ofNat 111,Char.ofNat 111,Char.ofNat 112,
 Char.ofNat 46,Char.ofNat 101,Char.ofNat 120,Char.ofNat 97,Char.ofNat 109,Char.ofNat 112,Char.ofNat 108,Char.ofNat 101,Char.ofNat 47,Char.ofNat 114,Char.ofNat 101,Char.ofNat 112,
 Char.ofNat 108,Char.ofNat 97,Char.ofNat 121,Char.ofNat 118,Char.ofNat 101,Char.ofNat 114,Char.ofNat 105,Char.ofNat 102,Char.ofNat 105,Char.ofNat 101,Char.ofNat 114,Char.ofNat 47,
 Char.ofNat 108,Char.ofNat 97,Char.ofNat 119,Char.ofNat 115,Char.ofNat 46,Char.ofNat 70,Char.ofNat 110,Char.ofNat 82,Char.ofNat 117,Char.ofNat 110,Char.ofNat 78,Char.ofNat 101,
 Char.ofNat 120,Char.ofNat 116,Char.ofNat 32,Char.ofNat 108,Char.ofNat 111,Char.ofNat 111,Char.ofNat 112,Char.ofNat 46,Char.ofNat 101,Char.ofNat 120,Char.ofNat 97,Char.ofNat 109,
 Char.ofNat 112,Char.ofNat 108,Char.ofNat 101,Char.ofNat 47,Char.ofNat 114,Char.ofNat 101,Char.ofNat 112,Char.ofNat 108,Char.ofNat 97,Char.ofNat 121,Char.ofNat 118,Char.ofNat 101,
 Char.ofNat 114,Char.ofNat 105,Char.ofNat 102,Char.ofNat 105,Char.ofNat 101,Char.ofNat 114,Char.ofNat 47,Char.ofNat 108,Char.ofNat 97,Char.ofNat 119,Char.ofNat 115,Char.ofNat 46,
 Char.ofNat 70,Char.ofNat 110,Char.ofNat 82,Char.ofNat 117,Char.ofNat 110,Char.ofNat 86,Char.ofNat 97,Char.ofNat 108,Char.ofNat 105,Char.ofNat 100,Char.ofNat 32,Char.ofNat 108,
 Char.ofNat 111,Char.ofNat 111,Char.ofNat 112,Char.ofNat 46,Char.ofNat 101,Char.ofNat 120,Char.ofNat 97,Char.ofNat 109,Char.ofNat 112,Char.ofNat 108,Char.ofNat 101,Char.ofNat 47,
 Char.ofNat 114,Char.ofNat 101,Char.ofNat 112,Char.ofNat 108,Char.ofNat 97,Char.ofNat 121,Char.ofNat 118,Char.ofNat 101,Char.ofNat 114,Char.ofNat 105,Char.ofNat 102,Char.ofNat 105,
 Char.ofNat 101,Char.ofNat 114,Char.ofNat 47,Char.ofNat 108,Char.ofNat 97,Char.ofNat 119,Char.ofNat 115,Char.ofNat 46,Char.ofNat 70,Char.ofNat 110,Char.ofNat 82,Char.ofNat 117,
 Char.ofNat 110,Char.ofNat 83,Char.ofNat 97,Char.ofNat 109,Char.ofNat 101,Char.ofNat 32,Char.ofNat 108,Char.ofNat 111,Char.ofNat 111,Char.ofNat 112,Char.ofNat 46,Char.ofNat 101,
 Char.ofNat 120,Char.ofNat 97,Char.ofNat 109,Char.ofNat 112,Char.ofNat 108,Char.ofNat 101,Char.ofNat 47,Char.ofNat 114,Char.ofNat 101,Char.ofNat 112,Char.ofNat 108,Char.ofNat 97,
 Char.ofNat 121,Char.ofNat 118,Char.ofNat 101,Char.ofNat 114,Char.ofNat 105,Char.ofNat 102,Char.ofNat 105,Char.ofNat 101,Char.ofNat 114,Char.ofNat 47,Char.ofNat 108,Char.ofNat 97,
 Char.ofNat 119,Char.ofNat 115,Char.ofNat 46,Char.ofNat 70,Char.ofNat 110,Char.ofNat 82,Char.ofNat 117,Char.ofNat 110,Char.ofNat 70,Char.ofNat 97,Char.ofNat 105,Char.ofNat 108]
theorem Sf:Tryd.prog.initOrder=String.ofList F4:=by kernel_rfl
theorem Mc:Tryd.prog.initOrder.toList=F4:=(congrArg String.toList Sf).trans String.toList_ofList
def headWords:List (List Char):=[
 [Char.ofNat 99,Char.ofNat 117,Char.ofNat 116],
 [Char.ofNat 97,Char.ofNat 116],
 [Char.ofNat 108,Char.ofNat 111,Char.ofNat 111,Char.ofNat 112,Char.ofNat 46,Char.ofNat 101,Char.ofNat 120,Char.ofNat 97,Char.ofNat 109,Char.ofNat 112,Char.ofNat 108,Char.ofNat 101,Char.ofNat 47,Char.ofNat 114,Char.ofNat 101,Char.ofNat 112,Char.ofNat 108,Char.ofNat 97,Char.ofNat 121,Char.ofNat 118,Char.ofNat 101,Char.ofNat 114,Char.ofNat 105,Char.ofNat 102,Char.ofNat 105,Char.ofNat 101,Char.ofNat 114,Char.ofNat 47,Char.ofNat 108,Char.ofNat 97,Char.ofNat 119,Char.ofNat 115,Char.ofNat 46,Char.ofNat 70,Char.ofNat 110,Char.ofNat 82,Char.ofNat 117,Char.ofNat 110,Char.ofNat 78,Char.ofNat 101,Char.ofNat 120,Char.ofNat 116],
 [Char.ofNat 108,Char.ofNat 111,Char.ofNat 111,Char.ofNat 112,Char.ofNat 46,Char.ofNat 101,Char.ofNat 120,Char.ofNat 97,Char.ofNat 109,Char.ofNat 112,Char.ofNat 108,Char.ofNat 101,Char.ofNat 47,Char.ofNat 114,Char.ofNat 101,Char.ofNat 112,Char.ofNat 108,Char.ofNat 97,Char.ofNat 121,Char.ofNat 118,Char.ofNat 101,Char.ofNat 114,Char.ofNat 105,Char.ofNat 102,Char.ofNat 105,Char.ofNat 101,Char.ofNat 114,Char.ofNat 47,Char.ofNat 108,Char.ofNat 97,Char.ofNat 119,Char.ofNat 115,Char.ofNat 46,Char.ofNat 70,Char.ofNat 110,Char.ofNat 82,Char.ofNat 117,Char.ofNat 110,Char.ofNat 86,Char.ofNat 97,Char.ofNat 108,Char.ofNat 105,Char.ofNat 100],
 [Char.ofNat 108,Char.ofNat 111,Char.ofNat 111,Char.ofNat 112,Char.ofNat 46,Char.ofNat 101,Char.ofNat 120,Char.ofNat 97,Char.ofNat 109,Char.ofNat 112,Char.ofNat 108,Char.ofNat 101,Char.ofNat 47,Char.ofNat 114,Char.ofNat 101,Char.ofNat 112,Char.ofNat 108,Char.ofNat 97,Char.ofNat 121,Char.ofNat 118,Char.ofNat 101,Char.ofNat 114,Char.ofNat 105,Char.ofNat 102,Char.ofNat 105,Char.ofNat 101,Char.ofNat 114,Char.ofNat 47,Char.ofNat 108,Char.ofNat 97,Char.ofNat 119,Char.ofNat 115,Char.ofNat 46,Char.ofNat 70,Char.ofNat 110,Char.ofNat 82,Char.ofNat 117,Char.ofNat 110,Char.ofNat 83,Char.ofNat 97,Char.ofNat 109,Char.ofNat 101],
 [Char.ofNat 108,Char.ofNat 111,Char.ofNat 111,Char.ofNat 112,Char.ofNat 46,Char.ofNat 101,Char.ofNat 120,Char.ofNat 97,Char.ofNat 109,Char.ofNat 112,Char.ofNat 108,Char.ofNat 101,Char.ofNat 47,Char.ofNat 114,Char.ofNat 101,Char.ofNat 112,Char.ofNat 108,Char.ofNat 97,Char.ofNat 121,Char.ofNat 118,Char.ofNat 101,Char.ofNat 114,Char.ofNat 105,Char.ofNat 102,Char.ofNat 105,Char.ofNat 101,Char.ofNat 114,Char.ofNat 47,Char.ofNat 108,Char.ofNat 97,Char.ofNat 119,Char.ofNat 115,Char.ofNat 46,Char.ofNat 70,Char.ofNat 110,Char.ofNat 82,Char.ofNat 117,Char.ofNat 110,Char.ofNat 70,Char.ofNat 97,Char.ofNat 105,Char.ofNat 108]]
theorem words:behindMainWord (wordsSigns F4)=headWords:=by kernel_rfl
theorem own:ownKnob Tryd.prog.godebug=none:=by kernel_rfl
theorem laidOut:laidOutB Tryd.prog=true:=by kernel_rfl
theorem Md:mapsRowed Tryd.prog=true:=by kernel_rfl
theorem heard:Tryd.prog.stopsHeard=true:=by kernel_rfl
def GT:List Char:=[Char.ofNat 99,Char.ofNat 117,Char.ofNat 116]
theorem Na (rest:List (List Char)):stripLifts liftWords (GT::rest)=([],GT::rest):=by kernel_rfl
theorem J7 {P:Program} {l:List Char} {rest:List (List Char)} (e:P.initOrder.toList=l) (w:behindMainWord (wordsSigns l)=GT::rest) (h1:P.laysLater=false) (h2:P.bearsReflect=false) (h3:P.doorFits []=true):P.mayEnter=true:=by
 unfold Program.mayEnter;rw [e,w];simp only [Na,h1,h2,h3]
 kernel_rfl
theorem Qw {P:Program} {l:List Char} {rest:List (List Char)} (e:P.initOrder.toList=l) (w:behindMainWord (wordsSigns l)=GT::rest):P.make=some .cut:=by
 unfold Program.make;rw [e,w]
 kernel_rfl
theorem lays:Tryd.prog.laysLater=false:=by kernel_rfl
theorem Ou:Tryd.prog.bearsReflect=false:=by kernel_rfl
theorem door:Tryd.prog.doorFits []=true:=by kernel_rfl
theorem enters:Tryd.prog.mayEnter=true:=J7 (rest:=headWords.tail) Mc words lays Ou door
theorem Me:Tryd.prog.liftsFinal=false:=by
 unfold Program.liftsFinal Program.headLifts;rw [Mc,words]
 kernel_rfl
theorem made:Tryd.prog.make=some .cut:=Qw (rest:=headWords.tail) Mc words
def J9:List Char:=[Char.ofNat 102,Char.ofNat 49,Char.ofNat 97,Char.ofNat 49,Char.ofNat 52,Char.ofNat 102,Char.ofNat 100,Char.ofNat 99,Char.ofNat 56,Char.ofNat 98,Char.ofNat 98,Char.ofNat 57,Char.ofNat 49,Char.ofNat 101,Char.ofNat 54,Char.ofNat 54,Char.ofNat 48,Char.ofNat 54,Char.ofNat 48,Char.ofNat 57,Char.ofNat 54,Char.ofNat 97,Char.ofNat 57,Char.ofNat 99,Char.ofNat 53,Char.ofNat 55,Char.ofNat 48,Char.ofNat 52,Char.ofNat 102,Char.ofNat 56,Char.ofNat 49,Char.ofNat 53,Char.ofNat 50,Char.ofNat 50,Char.ofNat 51,Char.ofNat 51,Char.ofNat 48,Char.ofNat 55,Char.ofNat 49,Char.ofNat 55,Char.ofNat 102,Char.ofNat 98,Char.ofNat 100,Char.ofNat 102,Char.ofNat 97,Char.ofNat 101,Char.ofNat 98,Char.ofNat 54,Char.ofNat 101,Char.ofNat 101,Char.ofNat 53,Char.ofNat 50,Char.ofNat 49,Char.ofNat 52,Char.ofNat 56,Char.ofNat 57,Char.ofNat 51,Char.ofNat 51,Char.ofNat 98,Char.ofNat 49,Char.ofNat 48,Char.ofNat 102,Char.ofNat 57,Char.ofNat 102]
theorem TA:("f1a14fdc8bb91e6606096a9c5704f81522330717fbdfaeb6ee52148933b10f9f" : String)=String.ofList J9:=by kernel_rfl
theorem UB:("f1a14fdc8bb91e6606096a9c5704f81522330717fbdfaeb6ee52148933b10f9f" : String).toList=J9:=(congrArg String.toList TA).trans String.toList_ofList
theorem mainIs:Tryd.prog.mainIs=some (true,("f1a14fdc8bb91e6606096a9c5704f81522330717fbdfaeb6ee52148933b10f9f" : String).toList):=by
 unfold Program.mainIs;rw [Mc,UB]
 kernel_rfl
theorem keys:Tryd.prog.plainKeys=true:=by kernel_rfl
end Go.Proofs.YtkpogcflgghfiaaDoor
namespace Go.Proofs.YtkpogcflgghfiaaDoor
namespace M
def Sg (h n:Int):Int:=(8191*h+n % 1000003+1) % 1000003
theorem Ov (h n:Int):0≤Sg h n∧Sg h n<1000003:=by unfold Sg; omega
def GU (h:Int) (xs:List Int):Int:=xs.foldl Sg h
theorem Sj {h:Int} (h0:0≤h) (h1:h<1000003) (xs:List Int):0≤GU h xs∧GU h xs<1000003:=by
 unfold GU
 induction xs generalizing h with
 | nil=>exact ⟨h0,h1⟩
 | cons x xs ih=>exact ih (Ov h x).1 (Ov h x).2
theorem Nb {xs:List Int} {k:Nat} (h:k<xs.length):xs.take (k+1)=xs.take k++[xs.getD k 0]:=by
 rw [List.take_succ_eq_append_getElem h,List.getD_eq_getElem?_getD,List.getElem?_eq_getElem h];rfl
theorem TB {h:Int} {xs:List Int} {k:Nat} (hk:k<xs.length):GU h (xs.take (k+1))=Sg (GU h (xs.take k)) (xs.getD k 0):=by
 unfold GU;rw [Nb hk,List.foldl_append];rfl
def La (xs:List Int):Bool:=xs.all okB&&decide (xs.length≤200)
theorem Uq {xs:List Int} (h:xs.all okB=true):La xs=decide (xs.length≤200):=by simp [La,h]
def hI (xs:List Int):Int:=if La xs then GU 17 xs else -1
theorem TC {xs:List Int} (h:La xs=false):hI xs=-1:=by simp [hI,h]
theorem Sk {xs:List Int} (h:La xs=true):hI xs=GU 17 xs:=by simp [hI,h]
theorem UW (xs:List Int):-1≤hI xs∧hI xs<1000003:=by
 cases h:La xs
 · rw [TC h]; omega
 · rw [Sk h]; have:=Sj (h:=17) (by omega) (by omega) xs; omega
def tg (k:Int) (xs:List Int):Int:=Sg (GU (Sg 17 k) xs) k
def tI (k:Int) (xs:List Int):Int:=if Ba k 1 9999&&La xs then tg k xs else -1
def tC (k:Int) (xs:List Int) (t:Int):Bool:=decide (0≤t)&&decide (tI k xs=t)
theorem UC {k:Int} {xs:List Int} {t:Int} (h:0≤t):tC k xs t=decide (tI k xs=t):=by simp [tC,h]
end M
end Go.Proofs.YtkpogcflgghfiaaDoor
namespace Go.Proofs.YtkpogcflgghfiaaDoor
open Go.RowKit
open M
def Ints (w:World) (A:Option Addr) (n:Nat) (xs:List Int):Prop :=
 xs.length=n∧(0<n→∃ b off,A=some ⟨b,off,none⟩∧b<w.heap.size∧∀ k,k<n→w.cell? ⟨b,off+k,none⟩=some (.int .i64 (xs.getD k 0)))
theorem Ints.step {w w':World} {A:Option Addr} {n:Nat} {xs:List Int} (h:Ints w A n xs) (B:Below w.heap.size w w'):Ints w' A n xs :=
 ⟨h.1,fun hn=>by
  obtain ⟨b,off,e,hb,hc⟩:=h.2 hn;exact ⟨b,off,e,Nat.lt_of_lt_of_le hb B.size,fun k hk=>(B.cell (p:=⟨b,off+k,none⟩) hb).trans (hc k hk)⟩⟩
theorem Ints.alloc {w:World} {A:Option Addr} {n:Nat} {xs:List Int} (h:Ints w A n xs) (o:Obj):Ints (w.alloc o) A n xs:=h.step (Aa (Ac w) o)
theorem AU (n lo hi:Int) (b:Bool) (w:World) (h:Ba n lo hi=b):Calls Tryd.prog 20 #[.int .i64 n,.int .i64 lo,.int .i64 hi] w fun e w'=>e=.returned (.bool b)∧w=w':=by
 subst h;exact Gc n lo hi w
end Go.Proofs.YtkpogcflgghfiaaDoor
namespace Go.Proofs.YtkpogcflgghfiaaDoor
namespace M
end M
end Go.Proofs.YtkpogcflgghfiaaDoor
namespace Go.Proofs.YtkpogcflgghfiaaDoor
open Go.RowKit
open M
theorem Kept.grows {r:Nat} {w w':World} (K:Kept r w w'):w.grownBy w' (some r):=⟨K.os,K.tape,K.output,K.size,fun k hk hne=>K.block k hk (fun e=>hne (by rw [e]))⟩
theorem Kept.grown {r:Nat} {w a b:World} {row:Option Nat} (K:Kept r w a) (hg:a.grownBy b row) (hr:∀ g,row=some g→w.heap.size≤g):Kept r w b :=
 ⟨hg.os.trans K.os,hg.tape.trans K.tape,hg.output.trans K.output,Nat.le_trans K.size hg.size,fun k hk hne=>(hg.block k (Nat.lt_of_lt_of_le hk K.size) (fun e=>by have:=hr k e.symm; omega)).trans (K.block k hk hne)⟩
theorem RdU.grown {B:Nat} {a b:World} {r:Nat} {k:Int} {row:Option Nat} (R:RdU B a r k) (hg:a.grownBy b row) (hr:∀ g,row=some g→B≤g):RdU B b r k :=
 R.below ((Below.refl _ _).grown hg R.base hr)
theorem Ints.of_own {w:World} {base:Nat} {e:TypeId} {v:Value} {n:Nat} {xs:List Int} (h:w.ownsRow base e 1 v n (xs.map (Value.int .i64))):∃ A cap,v=.slice A n cap∧Ints w A n xs:=by
 have hl:xs.length=n:=by simpa using h.1
 have h0:=h;rcases h0.2 with ⟨rfl,rfl⟩ | ⟨g,cap,cur,rfl,_,hh,_⟩
 · exact ⟨none,0,rfl,hl,fun hn=>by omega⟩
 · refine ⟨_,_,rfl,hl,fun _=>⟨g,0,rfl,?_,fun k hk=>?_⟩⟩
   · exact (h.lt g rfl).2
   · rw [Nat.zero_add,h.cellAt k (by omega),List.getElem?_map,List.getD_eq_getElem?_getD,List.getElem?_eq_getElem (by omega)];rfl
def Fits (xs:List Int):Prop:=∀ x∈xs,-2000000001≤x∧x≤2000000001
theorem Fits.snoc {xs:List Int} (h:Fits xs) {x:Int} (hx:-2000000001≤x∧x≤2000000001):Fits (xs++[x]):=fun y hy=>by
 rcases List.mem_append.1 hy with g | g
 · exact h y g
 · rw [List.mem_singleton.1 g]; exact hx
theorem Fits.set {xs:List Int} (h:Fits xs) (j:Nat) {x:Int} (hx:-2000000001≤x∧x≤2000000001):Fits (xs.set j x):=fun y hy=>by
 rcases List.mem_or_eq_of_mem_set hy with g | rfl
 · exact h y g
 · exact hx
def Ti (B:Nat) (r:Nat) (k:Int) (w:World) (e:Ending) (w':World):Prop :=
 ∃ (A:Option Addr) (n cap:Nat) (xs:List Int),n≤201∧Fits xs∧e=.returned (.slice A n cap)∧Ints w' A n xs∧RdU B w' r (k+700)∧Kept r w w'
def Ur (B:Nat) (r:Nat) (k:Int) (w:World) (n:Nat) (v i:Value) (W:World):Prop :=
 ∃ (j:Nat) (xs:List Int),j≤n∧i=.int .i64 j∧Fits xs∧W.ownsRow w.heap.size 3 1 v j (xs.map (Value.int .i64))∧RdU B W r (k+3+3*j)∧Kept r w W
theorem Ow:(Tryd.prog.info? 3).map (fun i=>(i.zero,i.size,i.bytes))=some (some (.int .i64 0),1,8):=by kernel_rfl
def TD (B:Nat) (r:Nat) (k:Int) (w:World) (e:Ending) (w':World):Prop :=
 ∃ x:Int,(-1≤x∧x≤10000)∧e=.returned (.int .i64 x)∧RdU B w' r (k+3)∧Kept r w w'
def Tj (w:World) (e:Ending) (w':World):Prop :=
 ∃ (A:Option Addr) (n cap:Nat) (xs:List Int),n≤201∧Fits xs∧e=.returned (.slice A n cap)∧Ints w' A n xs∧Below w.heap.size w w'
def TE (w:World) (e:Ending) (w':World):Prop :=
 ∃ (k:Int) (A:Option Addr) (n cap:Nat) (xs:List Int),(-1≤k∧k≤10000)∧n≤201∧Fits xs∧e=.returned (.tuple #[.int .i64 k,.slice A n cap])∧Ints w' A n xs∧Below w.heap.size w w'
end Go.Proofs.YtkpogcflgghfiaaDoor
namespace Go.Proofs.YtkpogcflgghfiaaDoor
open Go.RowKit
open M
theorem Ints.nil (w:World) (A:Option Addr):Ints w A 0 []:=⟨rfl,fun h=>absurd h (by omega)⟩
theorem Ints.drew {w:World} {A:Option Addr} {n:Nat} {xs:List Int} (h:Ints w A n xs):Ints w.drew A n xs:=h
theorem Ints.one (w:World) (a:Int) (t:TypeId):Ints (w.alloc (.cells #[.int .i64 a] t)) (some ⟨w.heap.size,0,none⟩) 1 [a] :=
 ⟨rfl,fun _=>⟨w.heap.size,0,rfl,by simp,fun k hk=>by
  match k,hk with
  | 0,_=>simp⟩⟩
theorem Ints.two (w:World) (a b:Int) (t:TypeId):Ints (w.alloc (.cells #[.int .i64 a,.int .i64 b] t)) (some ⟨w.heap.size,0,none⟩) 2 [a,b] :=
 ⟨rfl,fun _=>⟨w.heap.size,0,rfl,by simp,fun k hk=>by
  match k,hk with
  | 0,_=>simp
  | 1,_=>simp⟩⟩
theorem Ints.news {w:World} {b off m:Nat} {ys:List Int} (I:Ints w (some ⟨b,off,Option.none⟩) m ys):∀ j u,(ys.map (Value.int .i64))[j]?=some u→w.cell? ((⟨b,off,Option.none⟩:Addr).add j)=some u:=by
 intro j u hj;rw [List.getElem?_map] at hj;have hl:j<ys.length:=by
  rcases Nat.lt_or_ge j ys.length with h | h
  · exact h
  · rw [List.getElem?_eq_none h] at hj; cases hj
 obtain ⟨b',off',e,_,hc⟩:=I.2 (by have:=I.1; omega);cases e
 rw [List.getElem?_eq_getElem hl] at hj;cases hj
 rw [Addr.add_lit,hc j (by have:=I.1; omega),List.getD_eq_getElem?_getD,List.getElem?_eq_getElem hl];rfl
theorem Oz (w:World) (base:Nat) (ty:TypeId) (v:Value) (n:Nat) (xs:List Value) (hown:w.ownsRow base 3 1 v n xs) (A:Option Addr) (c:Nat) (h0:∀ ad,A=some ad→False) :
 (Builtin.append_ #[64,64] ty #[v,.slice A 0 c]).run Tryd.prog w=.ok v w:=by
 obtain ⟨i0,hi,hz0,hz1,hz2⟩:=info_parts Ow;cases A with
 | some ad=>exact (h0 ad rfl).elim
 | none =>
  rcases hown.2 with ⟨rfl,rfl⟩ | ⟨g,cap,cur,rfl,_,_,hnc,_⟩
  · simp [Builtin.append_,run_underlying Tryd.underlying64,sizeOf,typeInfo,hi,Builtin.lenOf,Builtin.firstCells]
  · simp [Builtin.append_,run_underlying Tryd.underlying64,sizeOf,typeInfo,hi,Builtin.lenOf,Builtin.firstCells,hnc,storeCells]
end Go.Proofs.YtkpogcflgghfiaaDoor
