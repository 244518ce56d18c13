import Derived.Test.YtkpogcflgghfiaaDoorRows
import Derived.ProofKit
import Derived.JoinedOf
set_option linter.all false
set_option maxRecDepth 100000
set_option maxHeartbeats 8000000
namespace Go.Proofs.YtkpogcflgghfiaaDoor
open Go.RowKit
def FV:List Char:=[
 Char.ofNat 104,Char.ofNat 97,Char.ofNat 114,Char.ofNat 110,Char.ofNat 101,Char.ofNat 115,Char.ofNat 115,Char.ofNat 32,Char.ofNat 102,Char.ofNat 49,Char.ofNat 97,Char.ofNat 49,
 Char.ofNat 52,Char.ofNat 102,Char.ofNat 100,Char.ofNat 99,Char.ofNat 56,Char.ofNat 98,Char.ofNat 98,Char.ofNat 57,Char.ofNat 49,Char.ofNat 101,Char.ofNat 54,Char.ofNat 54,
 Char.ofNat 48,Char.ofNat 54,Char.ofNat 48,Char.ofNat 57,Char.ofNat 54,Char.ofNat 97,Char.ofNat 57,Char.ofNat 99,Char.ofNat 53,Char.ofNat 55,Char.ofNat 48,Char.ofNat 52,
 Char.ofNat 102,Char.ofNat 56,Char.ofNat 49,Char.ofNat 53,Char.ofNat 50,Char.ofNat 50,Char.ofNat 51,Char.ofNat 51,Char.ofNat 48,Char.ofNat 55,Char.ofNat 49,Char.ofNat 55,
 Char.ofNat 102,Char.ofNat 98,Char.ofNat 100,Char.ofNat 102,Char.ofNat 97,Char.ofNat 101,Char.ofNat 98,Char.ofNat 54,Char.ofNat 101,Char.ofNat 101,Char.ofNat 53,Char.ofNat 50,
 Char.ofNat 49,Char.ofNat 52,Char.ofNat 56,Char.ofNat 57,Char.ofNat 51,Char.ofNat 51,Char.ofNat 98,Char.ofNat 49,Char.ofNat 48,Char.ofNat 102,Char.ofNat 57,Char.ofNat 102,
 Char.ofNat 32,Char.ofNat 99,Char.ofNat 117,Char.ofNat 116,Char.ofNat 32,Char.ofNat 97,Char.ofNat 116,Char.ofNat 32,Char.ofNat 108,Char.ofNat 111,Char.ofNat 111,Char.ofNat 112,
 Char.ofNat 46,Char.ofNat 101,Char.ofNat 120,Char.ofNat 97,Char.ofNat 109,Char.ofNat 112,Char.ofNat 108,Char.ofNat 101,Char.ofNat 47,Char.ofNat 114,Char.ofNat 101,Char.ofNat 112,
 Char.ofNat 108,Char.ofNat 97,Char.ofNat 121,Char.ofNat 118,Char.ofNat 101,Char.ofNat 114,Char.ofNat 105,Char.ofNat 102,Char.ofNat 105,Char.ofNat 101,Char.ofNat 114,Char.ofNat 47,
 Char.ofNat 108,Char.ofNat 97,Char.ofNat 119,Char.ofNat 115,Char.ofNat 46,Char.ofNat 70,Char.ofNat 110,Char.ofNat 82,Char.ofNat 117,Char.ofNat 110,Char.ofNat 78,Char.ofNat 101,
 Char.ofNat 120,Char.ofNat 116,Char.ofNat 32,Char.ofNat 108,Char.ofNat 111,Char.ofNat 111,Char.ofNat 112,Char.ofNat 46,Char.ofNat 101,Char.ofNat 120,Char.ofNat 97,Char.ofNat 109,
 Char.ofNat 112,Char.ofNat 108,Char.ofNat 101,Char.ofNat 47,Char.ofNat 114,Char.ofNat 101,Char.ofNat 112,Char.ofNat 108,Char.ofNat 97,Char.ofNat 121,Char.ofNat 118,Char.ofNat 101,
 Char.ofNat 114,Char.ofNat 105,Char.ofNat 102,Char.ofNat 105,Char.ofNat 101,Char.ofNat 114,Char.ofNat 47,Char.ofNat 108,Char.ofNat 97,Char.ofNat 119,Char.ofNat 115,Char.ofNat 46,
 Char.ofNat 70,Char.ofNat 110,Char.ofNat 82,Char.ofNat 117,Char.ofNat 110,Char.ofNat 86,Char.ofNat 97,Char.ofNat 108,Char.ofNat 105,Char.ofNat 100,Char.ofNat 32,Char.ofNat 108,
 Char.ofNat 111,Char.ofNat 111,Char.ofNat 112,Char.ofNat 46,Char.ofNat 101,Char.ofNat 120,Char.ofNat 97,Char.ofNat 109,Char.ofNat 112,Char.ofNat 108,Char.ofNat 101,Char.ofNat 47,
 Char.ofNat 114,Char.ofNat 101,Char.ofNat 112,Char.ofNat 108,Char.ofNat 97,Char.ofNat 121,Char.ofNat 118,Char.ofNat 101,Char.ofNat 114,Char.ofNat 105,Char.ofNat 102,Char.ofNat 105,
 Char.ofNat 101,Char.ofNat 114,Char.ofNat 47,Char.ofNat 108,Char.ofNat 97,Char.ofNat 119,Char.ofNat 115,Char.ofNat 46,Char.ofNat 70,Char.ofNat 110,Char.ofNat 82,Char.ofNat 117,
 Char.ofNat 110,Char.ofNat 83,Char.ofNat 97,Char.ofNat 109,Char.ofNat 101,Char.ofNat 32,Char.ofNat 108,Char.ofNat 111,Char.ofNat 111,Char.ofNat 112,Char.ofNat 46,Char.ofNat 101,
 Char.ofNat 120,Char.ofNat 97,Char.ofNat 109,Char.ofNat 112,Char.ofNat 108,Char.ofNat 101,Char.ofNat 47,Char.ofNat 114,Char.ofNat 101,Char.ofNat 112,Char.ofNat 108,Char.ofNat 97,
 Char.ofNat 121,Char.ofNat 118,Char.ofNat 101,Char.ofNat 114,Char.ofNat 105,Char.ofNat 102,Char.ofNat 105,Char.ofNat 101,Char.ofNat 114,Char.ofNat 47,Char.ofNat 108,Char.ofNat 97,
 Char.ofNat 119,Char.ofNat 115,Char.ofNat 46,Char.ofNat 70,Char.ofNat 110,Char.ofNat 82,Char.ofNat 117,Char.ofNat 110,Char.ofNat 70,Char.ofNat 97,Char.ofNat 105,Char.ofNat 108]
theorem Sb:Tryd.prog.initOrder=String.ofList FV:=by kernel_rfl
theorem L9:Tryd.prog.initOrder.toList=FV:=(congrArg String.toList Sb).trans String.toList_ofList
def headWords:List (List Char):=[
 [Char.ofNat 99,Char.ofNat 117,Char.ofNat 116],
 [Char.ofNat 97,Char.ofNat 116],
 [Char.ofNat 108,Char.ofNat 111,Char.ofNat 111,Char.ofNat 112,Char.ofNat 46,Char.ofNat 101,Char.ofNat 120,Char.ofNat 97,Char.ofNat 109,Char.ofNat 112,Char.ofNat 108,Char.ofNat 101,Char.ofNat 47,Char.ofNat 114,Char.ofNat 101,Char.ofNat 112,Char.ofNat 108,Char.ofNat 97,Char.ofNat 121,Char.ofNat 118,Char.ofNat 101,Char.ofNat 114,Char.ofNat 105,Char.ofNat 102,Char.ofNat 105,Char.ofNat 101,Char.ofNat 114,Char.ofNat 47,Char.ofNat 108,Char.ofNat 97,Char.ofNat 119,Char.ofNat 115,Char.ofNat 46,Char.ofNat 70,Char.ofNat 110,Char.ofNat 82,Char.ofNat 117,Char.ofNat 110,Char.ofNat 78,Char.ofNat 101,Char.ofNat 120,Char.ofNat 116],
 [Char.ofNat 108,Char.ofNat 111,Char.ofNat 111,Char.ofNat 112,Char.ofNat 46,Char.ofNat 101,Char.ofNat 120,Char.ofNat 97,Char.ofNat 109,Char.ofNat 112,Char.ofNat 108,Char.ofNat 101,Char.ofNat 47,Char.ofNat 114,Char.ofNat 101,Char.ofNat 112,Char.ofNat 108,Char.ofNat 97,Char.ofNat 121,Char.ofNat 118,Char.ofNat 101,Char.ofNat 114,Char.ofNat 105,Char.ofNat 102,Char.ofNat 105,Char.ofNat 101,Char.ofNat 114,Char.ofNat 47,Char.ofNat 108,Char.ofNat 97,Char.ofNat 119,Char.ofNat 115,Char.ofNat 46,Char.ofNat 70,Char.ofNat 110,Char.ofNat 82,Char.ofNat 117,Char.ofNat 110,Char.ofNat 86,Char.ofNat 97,Char.ofNat 108,Char.ofNat 105,Char.ofNat 100],
 [Char.ofNat 108,Char.ofNat 111,Char.ofNat 111,Char.ofNat 112,Char.ofNat 46,Char.ofNat 101,Char.ofNat 120,Char.ofNat 97,Char.ofNat 109,Char.ofNat 112,Char.ofNat 108,Char.ofNat 101,Char.ofNat 47,Char.ofNat 114,Char.ofNat 101,Char.ofNat 112,Char.ofNat 108,Char.ofNat 97,Char.ofNat 121,Char.ofNat 118,Char.ofNat 101,Char.ofNat 114,Char.ofNat 105,Char.ofNat 102,Char.ofNat 105,Char.ofNat 101,Char.ofNat 114,Char.ofNat 47,Char.ofNat 108,Char.ofNat 97,Char.ofNat 119,Char.ofNat 115,Char.ofNat 46,Char.ofNat 70,Char.ofNat 110,Char.ofNat 82,Char.ofNat 117,Char.ofNat 110,Char.ofNat 83,Char.ofNat 97,Char.ofNat 109,Char.ofNat 101],
 [Char.ofNat 108,Char.ofNat 111,Char.ofNat 111,Char.ofNat 112,Char.ofNat 46,Char.ofNat 101,Char.ofNat 120,Char.ofNat 97,Char.ofNat 109,Char.ofNat 112,Char.ofNat 108,Char.ofNat 101,Char.ofNat 47,Char.ofNat 114,Char.ofNat 101,Char.ofNat 112,Char.ofNat 108,Char.ofNat 97,Char.ofNat 121,Char.ofNat 118,Char.ofNat 101,Char.ofNat 114,Char.ofNat 105,Char.ofNat 102,Char.ofNat 105,Char.ofNat 101,Char.ofNat 114,Char.ofNat 47,Char.ofNat 108,Char.ofNat 97,Char.ofNat 119,Char.ofNat 115,Char.ofNat 46,Char.ofNat 70,Char.ofNat 110,Char.ofNat 82,Char.ofNat 117,Char.ofNat 110,Char.ofNat 70,Char.ofNat 97,Char.ofNat 105,Char.ofNat 108]]
theorem words:behindMainWord (wordsSigns FV)=headWords:=by kernel_rfl
theorem own:ownKnob Tryd.prog.godebug=none:=by kernel_rfl
theorem laidOut:laidOutB Tryd.prog=true:=by kernel_rfl
theorem Oo:mapsRowed Tryd.prog=true:=by kernel_rfl
theorem heard:Tryd.prog.stopsHeard=true:=by kernel_rfl
def GM:List Char:=[Char.ofNat 99,Char.ofNat 117,Char.ofNat 116]
theorem M4 (rest:List (List Char)):stripLifts liftWords (GM::rest)=([],GM::rest):=by kernel_rfl
theorem enters_of {P:Program} {l:List Char} {rest:List (List Char)} (e:P.initOrder.toList=l) (w:behindMainWord (wordsSigns l)=GM::rest) (h1:P.laysLater=false) (h2:P.bearsReflect=false) (h3:P.doorFits []=true):P.mayEnter=true:=by
 unfold Program.mayEnter;rw [e,w];simp only [M4,h1,h2,h3]
 kernel_rfl
theorem Qr {P:Program} {l:List Char} {rest:List (List Char)} (e:P.initOrder.toList=l) (w:behindMainWord (wordsSigns l)=GM::rest):P.make=some .cut:=by
 unfold Program.make;rw [e,w]
 kernel_rfl
theorem lays:Tryd.prog.laysLater=false:=by kernel_rfl
theorem Oq:Tryd.prog.bearsReflect=false:=by kernel_rfl
theorem door:Tryd.prog.doorFits []=true:=by kernel_rfl
theorem enters:Tryd.prog.mayEnter=true:=enters_of (rest:=headWords.tail) L9 words lays Oq door
theorem Ot:Tryd.prog.liftsFinal=false:=by
 unfold Program.liftsFinal Program.headLifts;rw [L9,words]
 kernel_rfl
theorem made:Tryd.prog.make=some .cut:=Qr (rest:=headWords.tail) L9 words
def JW:List Char:=[Char.ofNat 102,Char.ofNat 49,Char.ofNat 97,Char.ofNat 49,Char.ofNat 52,Char.ofNat 102,Char.ofNat 100,Char.ofNat 99,Char.ofNat 56,Char.ofNat 98,Char.ofNat 98,Char.ofNat 57,Char.ofNat 49,Char.ofNat 101,Char.ofNat 54,Char.ofNat 54,Char.ofNat 48,Char.ofNat 54,Char.ofNat 48,Char.ofNat 57,Char.ofNat 54,Char.ofNat 97,Char.ofNat 57,Char.ofNat 99,Char.ofNat 53,Char.ofNat 55,Char.ofNat 48,Char.ofNat 52,Char.ofNat 102,Char.ofNat 56,Char.ofNat 49,Char.ofNat 53,Char.ofNat 50,Char.ofNat 50,Char.ofNat 51,Char.ofNat 51,Char.ofNat 48,Char.ofNat 55,Char.ofNat 49,Char.ofNat 55,Char.ofNat 102,Char.ofNat 98,Char.ofNat 100,Char.ofNat 102,Char.ofNat 97,Char.ofNat 101,Char.ofNat 98,Char.ofNat 54,Char.ofNat 101,Char.ofNat 101,Char.ofNat 53,Char.ofNat 50,Char.ofNat 49,Char.ofNat 52,Char.ofNat 56,Char.ofNat 57,Char.ofNat 51,Char.ofNat 51,Char.ofNat 98,Char.ofNat 49,Char.ofNat 48,Char.ofNat 102,Char.ofNat 57,Char.ofNat 102]
theorem TA:("f1a14fdc8bb91e6606096a9c5704f81522330717fbdfaeb6ee52148933b10f9f" : String)=String.ofList JW:=by kernel_rfl
theorem Ux:("f1a14fdc8bb91e6606096a9c5704f81522330717fbdfaeb6ee52148933b10f9f" : String).toList=JW:=(congrArg String.toList TA).trans String.toList_ofList
theorem mainIs:Tryd.prog.mainIs=some (true,("f1a14fdc8bb91e6606096a9c5704f81522330717fbdfaeb6ee52148933b10f9f" : String).toList):=by
 unfold Program.mainIs;rw [L9,Ux]
 kernel_rfl
theorem keys:Tryd.prog.plainKeys=true:=by kernel_rfl
end Go.Proofs.YtkpogcflgghfiaaDoor
