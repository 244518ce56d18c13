import Derived.Test.YtaemcekcancpdabGreatDoorRows
import Derived.ProofKit
import Derived.JoinedOf
set_option linter.all false
set_option maxRecDepth 100000
set_option maxHeartbeats 8000000
namespace Go.Proofs.YtaemcekcancpdabGreatDoor
open Go.RowKit
def F9:List Char:=[
 Char.ofNat 104,Char.ofNat 97,Char.ofNat 114,Char.ofNat 110,Char.ofNat 101,Char.ofNat 115,Char.ofNat 115,Char.ofNat 32,Char.ofNat 57,Char.ofNat 97,Char.ofNat 48,Char.ofNat 99,
 Char.ofNat 51,Char.ofNat 100,Char.ofNat 51,Char.ofNat 52,Char.ofNat 97,Char.ofNat 52,Char.ofNat 53,Char.ofNat 100,Char.ofNat 97,Char.ofNat 55,Char.ofNat 100,Char.ofNat 53,
 Char.ofNat 51,Char.ofNat 100,Char.ofNat 56,Char.ofNat 98,Char.ofNat 56,Char.ofNat 54,Char.ofNat 57,Char.ofNat 53,Char.ofNat 101,Char.ofNat 99,Char.ofNat 101,Char.ofNat 101,
 Char.ofNat 51,Char.ofNat 48,Char.ofNat 101,Char.ofNat 54,Char.ofNat 48,Char.ofNat 53,Char.ofNat 55,Char.ofNat 102,Char.ofNat 49,Char.ofNat 49,Char.ofNat 49,Char.ofNat 50,
 Char.ofNat 100,Char.ofNat 101,Char.ofNat 48,Char.ofNat 52,Char.ofNat 48,Char.ofNat 102,Char.ofNat 98,Char.ofNat 50,Char.ofNat 57,Char.ofNat 49,Char.ofNat 97,Char.ofNat 50,
 Char.ofNat 53,Char.ofNat 101,Char.ofNat 98,Char.ofNat 50,Char.ofNat 50,Char.ofNat 55,Char.ofNat 99,Char.ofNat 50,Char.ofNat 50,Char.ofNat 52,Char.ofNat 97,Char.ofNat 98,
 Char.ofNat 32,Char.ofNat 99,Char.ofNat 117,Char.ofNat 116,Char.ofNat 32,Char.ofNat 97,Char.ofNat 116,Char.ofNat 32,Char.ofNat 108,Char.ofNat 111,Char.ofNat 111,Char.ofNat 112,
 Char.ofNat 46,Char.ofNat 101,Char.ofNat 120,Char.ofNat 97,Char.ofNat 109,Char.ofNat 112,Char.ofNat 108,Char.ofNat 101,Char.ofNat 47,Char.ofNat 114,Char.ofNat 101,Char.ofNat 112,
 Char.ofNat 108,Char.ofNat 97,Char.ofNat 121,Char.ofNat 118,Char.ofNat 101,Char.ofNat 114,Char.ofNat 105,Char.ofNat 102,Char.ofNat 105,Char.ofNat 101,Char.ofNat 114,Char.ofNat 47,
 Char.ofNat 108,Char.ofNat 97,Char.ofNat 119,Char.ofNat 115,Char.ofNat 46,Char.ofNat 70,Char.ofNat 110,Char.ofNat 83,Char.ofNat 99,Char.ofNat 111,Char.ofNat 114,Char.ofNat 101,
 Char.ofNat 73,Char.ofNat 108,Char.ofNat 108,Char.ofNat 101,Char.ofNat 103,Char.ofNat 97,Char.ofNat 108,Char.ofNat 32,Char.ofNat 108,Char.ofNat 111,Char.ofNat 111,Char.ofNat 112,
 Char.ofNat 46,Char.ofNat 101,Char.ofNat 120,Char.ofNat 97,Char.ofNat 109,Char.ofNat 112,Char.ofNat 108,Char.ofNat 101,Char.ofNat 47,Char.ofNat 114,Char.ofNat 101,Char.ofNat 112,
 Char.ofNat 108,Char.ofNat 97,Char.ofNat 121,Char.ofNat 118,Char.ofNat 101,Char.ofNat 114,Char.ofNat 105,Char.ofNat 102,Char.ofNat 105,Char.ofNat 101,Char.ofNat 114,Char.ofNat 47,
 Char.ofNat 108,Char.ofNat 97,Char.ofNat 119,Char.ofNat 115,Char.ofNat 46,Char.ofNat 70,Char.ofNat 110,Char.ofNat 72,Char.ofNat 97,Char.ofNat 115,Char.ofNat 104,Char.ofNat 101,
 Char.ofNat 115,Char.ofNat 32,Char.ofNat 108,Char.ofNat 111,Char.ofNat 111,Char.ofNat 112,Char.ofNat 46,Char.ofNat 101,Char.ofNat 120,Char.ofNat 97,Char.ofNat 109,Char.ofNat 112,
 Char.ofNat 108,Char.ofNat 101,Char.ofNat 47,Char.ofNat 114,Char.ofNat 101,Char.ofNat 112,Char.ofNat 108,Char.ofNat 97,Char.ofNat 121,Char.ofNat 118,Char.ofNat 101,Char.ofNat 114,
 Char.ofNat 105,Char.ofNat 102,Char.ofNat 105,Char.ofNat 101,Char.ofNat 114,Char.ofNat 47,Char.ofNat 108,Char.ofNat 97,Char.ofNat 119,Char.ofNat 115,Char.ofNat 46,Char.ofNat 70,
 Char.ofNat 110,Char.ofNat 72,Char.ofNat 97,Char.ofNat 115,Char.ofNat 104,Char.ofNat 101,Char.ofNat 115,Char.ofNat 80,Char.ofNat 114,Char.ofNat 101,Char.ofNat 102,Char.ofNat 105,
 Char.ofNat 120,Char.ofNat 32,Char.ofNat 108,Char.ofNat 111,Char.ofNat 111,Char.ofNat 112,Char.ofNat 46,Char.ofNat 101,Char.ofNat 120,Char.ofNat 97,Char.ofNat 109,Char.ofNat 112,
 Char.ofNat 108,Char.ofNat 101,Char.ofNat 47,Char.ofNat 114,Char.ofNat 101,Char.ofNat 112,Char.ofNat 108,Char.ofNat 97,Char.ofNat 121,Char.ofNat 118,Char.ofNat 101,Char.ofNat 114,
 Char.ofNat 105,Char.ofNat 102,Char.ofNat 105,Char.ofNat 101,Char.ofNat 114,Char.ofNat 47,Char.ofNat 108,Char.ofNat 97,Char.ofNat 119,Char.ofNat 115,Char.ofNat 46,Char.ofNat 70,
 Char.ofNat 110,Char.ofNat 83,Char.ofNat 99,Char.ofNat 111,Char.ofNat 114,Char.ofNat 101,Char.ofNat 80,Char.ofNat 97,Char.ofNat 117,Char.ofNat 115,Char.ofNat 101,Char.ofNat 32,
 Char.ofNat 108,Char.ofNat 111,Char.ofNat 111,Char.ofNat 112,Char.ofNat 46,Char.ofNat 101,Char.ofNat 120,Char.ofNat 97,Char.ofNat 109,Char.ofNat 112,Char.ofNat 108,Char.ofNat 101,
 Char.ofNat 47,Char.ofNat 114,Char.ofNat 101,Char.ofNat 112,Char.ofNat 108,Char.ofNat 97,Char.ofNat 121,Char.ofNat 118,Char.ofNat 101,Char.ofNat 114,Char.ofNat 105,Char.ofNat 102,
 Char.ofNat 105,Char.ofNat 101,Char.ofNat 114,Char.ofNat 47,Char.ofNat 108,Char.ofNat 97,Char.ofNat 119,Char.ofNat 115,Char.ofNat 46,Char.ofNat 70,Char.ofNat 110,Char.ofNat 69,
 Char.ofNat 120,Char.ofNat 97,Char.ofNat 99,Char.ofNat 116,Char.ofNat 82,Char.ofNat 117,Char.ofNat 110,Char.ofNat 84,Char.ofNat 111,Char.ofNat 32,Char.ofNat 108,Char.ofNat 111,
 Char.ofNat 111,Char.ofNat 112,Char.ofNat 46,Char.ofNat 101,Char.ofNat 120,Char.ofNat 97,Char.ofNat 109,Char.ofNat 112,Char.ofNat 108,Char.ofNat 101,Char.ofNat 47,Char.ofNat 114,
 Char.ofNat 101,Char.ofNat 112,Char.ofNat 108,Char.ofNat 97,Char.ofNat 121,Char.ofNat 118,Char.ofNat 101,Char.ofNat 114,Char.ofNat 105,Char.ofNat 102,Char.ofNat 105,Char.ofNat 101,
 Char.ofNat 114,Char.ofNat 47,Char.ofNat 108,Char.ofNat 97,Char.ofNat 119,Char.ofNat 115,Char.ofNat 46,Char.ofNat 70,Char.ofNat 110,Char.ofNat 69,Char.ofNat 120,Char.ofNat 97,
 Char.ofNat 99,Char.ofNat 116,Char.ofNat 82,Char.ofNat 117,Char.ofNat 110,Char.ofNat 83,Char.ofNat 99,Char.ofNat 111,Char.ofNat 114,Char.ofNat 101]
theorem Ty:Tryz.prog.initOrder=String.ofList F9:=by kernel_rfl
theorem M4:Tryz.prog.initOrder.toList=F9:=(congrArg String.toList Ty).trans String.toList_ofList
def headWords:List (List Char):=[
 [Char.ofNat 99,Char.ofNat 117,Char.ofNat 116],
 [Char.ofNat 97,Char.ofNat 116],
 [Char.ofNat 108,Char.ofNat 111,Char.ofNat 111,Char.ofNat 112,Char.ofNat 46,Char.ofNat 101,Char.ofNat 120,Char.ofNat 97,Char.ofNat 109,Char.ofNat 112,Char.ofNat 108,Char.ofNat 101,Char.ofNat 47,Char.ofNat 114,Char.ofNat 101,Char.ofNat 112,Char.ofNat 108,Char.ofNat 97,Char.ofNat 121,Char.ofNat 118,Char.ofNat 101,Char.ofNat 114,Char.ofNat 105,Char.ofNat 102,Char.ofNat 105,Char.ofNat 101,Char.ofNat 114,Char.ofNat 47,Char.ofNat 108,Char.ofNat 97,Char.ofNat 119,Char.ofNat 115,Char.ofNat 46,Char.ofNat 70,Char.ofNat 110,Char.ofNat 83,Char.ofNat 99,Char.ofNat 111,Char.ofNat 114,Char.ofNat 101,Char.ofNat 73,Char.ofNat 108,Char.ofNat 108,Char.ofNat 101,Char.ofNat 103,Char.ofNat 97,Char.ofNat 108],
 [Char.ofNat 108,Char.ofNat 111,Char.ofNat 111,Char.ofNat 112,Char.ofNat 46,Char.ofNat 101,Char.ofNat 120,Char.ofNat 97,Char.ofNat 109,Char.ofNat 112,Char.ofNat 108,Char.ofNat 101,Char.ofNat 47,Char.ofNat 114,Char.ofNat 101,Char.ofNat 112,Char.ofNat 108,Char.ofNat 97,Char.ofNat 121,Char.ofNat 118,Char.ofNat 101,Char.ofNat 114,Char.ofNat 105,Char.ofNat 102,Char.ofNat 105,Char.ofNat 101,Char.ofNat 114,Char.ofNat 47,Char.ofNat 108,Char.ofNat 97,Char.ofNat 119,Char.ofNat 115,Char.ofNat 46,Char.ofNat 70,Char.ofNat 110,Char.ofNat 72,Char.ofNat 97,Char.ofNat 115,Char.ofNat 104,Char.ofNat 101,Char.ofNat 115],
 [Char.ofNat 108,Char.ofNat 111,Char.ofNat 111,Char.ofNat 112,Char.ofNat 46,Char.ofNat 101,Char.ofNat 120,Char.ofNat 97,Char.ofNat 109,Char.ofNat 112,Char.ofNat 108,Char.ofNat 101,Char.ofNat 47,Char.ofNat 114,Char.ofNat 101,Char.ofNat 112,Char.ofNat 108,Char.ofNat 97,Char.ofNat 121,Char.ofNat 118,Char.ofNat 101,Char.ofNat 114,Char.ofNat 105,Char.ofNat 102,Char.ofNat 105,Char.ofNat 101,Char.ofNat 114,Char.ofNat 47,Char.ofNat 108,Char.ofNat 97,Char.ofNat 119,Char.ofNat 115,Char.ofNat 46,Char.ofNat 70,Char.ofNat 110,Char.ofNat 72,Char.ofNat 97,Char.ofNat 115,Char.ofNat 104,Char.ofNat 101,Char.ofNat 115,Char.ofNat 80,Char.ofNat 114,Char.ofNat 101,Char.ofNat 102,Char.ofNat 105,Char.ofNat 120],
 [Char.ofNat 108,Char.ofNat 111,Char.ofNat 111,Char.ofNat 112,Char.ofNat 46,Char.ofNat 101,Char.ofNat 120,Char.ofNat 97,Char.ofNat 109,Char.ofNat 112,Char.ofNat 108,Char.ofNat 101,Char.ofNat 47,Char.ofNat 114,Char.ofNat 101,Char.ofNat 112,Char.ofNat 108,Char.ofNat 97,Char.ofNat 121,Char.ofNat 118,Char.ofNat 101,Char.ofNat 114,Char.ofNat 105,Char.ofNat 102,Char.ofNat 105,Char.ofNat 101,Char.ofNat 114,Char.ofNat 47,Char.ofNat 108,Char.ofNat 97,Char.ofNat 119,Char.ofNat 115,Char.ofNat 46,Char.ofNat 70,Char.ofNat 110,Char.ofNat 83,Char.ofNat 99,Char.ofNat 111,Char.ofNat 114,Char.ofNat 101,Char.ofNat 80,Char.ofNat 97,Char.ofNat 117,Char.ofNat 115,Char.ofNat 101],
 [Char.ofNat 108,Char.ofNat 111,Char.ofNat 111,Char.ofNat 112,Char.ofNat 46,Char.ofNat 101,Char.ofNat 120,Char.ofNat 97,Char.ofNat 109,Char.ofNat 112,Char.ofNat 108,Char.ofNat 101,Char.ofNat 47,Char.ofNat 114,Char.ofNat 101,Char.ofNat 112,Char.ofNat 108,Char.ofNat 97,Char.ofNat 121,Char.ofNat 118,Char.ofNat 101,Char.ofNat 114,Char.ofNat 105,Char.ofNat 102,Char.ofNat 105,Char.ofNat 101,Char.ofNat 114,Char.ofNat 47,Char.ofNat 108,Char.ofNat 97,Char.ofNat 119,Char.ofNat 115,Char.ofNat 46,Char.ofNat 70,Char.ofNat 110,Char.ofNat 69,Char.ofNat 120,Char.ofNat 97,Char.ofNat 99,Char.ofNat 116,Char.ofNat 82,Char.ofNat 117,Char.ofNat 110,Char.ofNat 84,Char.ofNat 111],
 [Char.ofNat 108,Char.ofNat 111,Char.ofNat 111,Char.ofNat 112,Char.ofNat 46,Char.ofNat 101,Char.ofNat 120,Char.ofNat 97,Char.ofNat 109,Char.ofNat 112,Char.ofNat 108,Char.ofNat 101,Char.ofNat 47,Char.ofNat 114,Char.ofNat 101,Char.ofNat 112,Char.ofNat 108,Char.ofNat 97,Char.ofNat 121,Char.ofNat 118,Char.ofNat 101,Char.ofNat 114,Char.ofNat 105,Char.ofNat 102,Char.ofNat 105,Char.ofNat 101,Char.ofNat 114,Char.ofNat 47,Char.ofNat 108,Char.ofNat 97,Char.ofNat 119,Char.ofNat 115,Char.ofNat 46,Char.ofNat 70,Char.ofNat 110,Char.ofNat 69,Char.ofNat 120,Char.ofNat 97,Char.ofNat 99,Char.ofNat 116,Char.ofNat 82,Char.ofNat 117,Char.ofNat 110,Char.ofNat 83,Char.ofNat 99,Char.ofNat 111,Char.ofNat 114,Char.ofNat 101]]
theorem words:behindMainWord (wordsSigns F9)=headWords:=by kernel_rfl
theorem own:ownKnob Tryz.prog.godebug=none:=by kernel_rfl
theorem laidOut:laidOutB Tryz.prog=true:=by kernel_rfl
theorem PC:mapsRowed Tryz.prog=true:=by kernel_rfl
theorem heard:Tryz.prog.stopsHeard=true:=by kernel_rfl
def Hi:List Char:=[Char.ofNat 99,Char.ofNat 117,Char.ofNat 116]
theorem NX(rest:List (List Char)):stripLifts liftWords (Hi::rest)=([],Hi::rest):=by kernel_rfl
theorem KN{P:Program}{l:List Char}{rest:List (List Char)}(e:P.initOrder.toList=l)(w:behindMainWord (wordsSigns l)=Hi::rest)(h1:P.laysLater=false)(h2:P.bearsReflect=false)(h3:P.doorFits []=true):P.mayEnter=true:=by
 unfold Program.mayEnter;rw[e,w];simp only[NX,h1,h2,h3]
 kernel_rfl
theorem RB{P:Program}{l:List Char}{rest:List (List Char)}(e:P.initOrder.toList=l)(w:behindMainWord (wordsSigns l)=Hi::rest):P.make=some .cut:=by
 unfold Program.make;rw[e,w]
 kernel_rfl
theorem lays:Tryz.prog.laysLater=false:=by kernel_rfl
theorem PD:Tryz.prog.bearsReflect=false:=by kernel_rfl
theorem door:Tryz.prog.doorFits []=true:=by kernel_rfl
theorem enters:Tryz.prog.mayEnter=true:=KN (rest:=headWords.tail) M4 words lays PD door
theorem PE:Tryz.prog.liftsFinal=false:=by
 unfold Program.liftsFinal Program.headLifts;rw[M4,words]
 kernel_rfl
theorem made:Tryz.prog.make=some .cut:=RB (rest:=headWords.tail) M4 words
def KO:List Char:=[Char.ofNat 57,Char.ofNat 97,Char.ofNat 48,Char.ofNat 99,Char.ofNat 51,Char.ofNat 100,Char.ofNat 51,Char.ofNat 52,Char.ofNat 97,Char.ofNat 52,Char.ofNat 53,Char.ofNat 100,Char.ofNat 97,Char.ofNat 55,Char.ofNat 100,Char.ofNat 53,Char.ofNat 51,Char.ofNat 100,Char.ofNat 56,Char.ofNat 98,Char.ofNat 56,Char.ofNat 54,Char.ofNat 57,Char.ofNat 53,Char.ofNat 101,Char.ofNat 99,Char.ofNat 101,Char.ofNat 101,Char.ofNat 51,Char.ofNat 48,Char.ofNat 101,Char.ofNat 54,Char.ofNat 48,Char.ofNat 53,Char.ofNat 55,Char.ofNat 102,Char.ofNat 49,Char.ofNat 49,Char.ofNat 49,Char.ofNat 50,Char.ofNat 100,Char.ofNat 101,Char.ofNat 48,Char.ofNat 52,Char.ofNat 48,Char.ofNat 102,Char.ofNat 98,Char.ofNat 50,Char.ofNat 57,Char.ofNat 49,Char.ofNat 97,Char.ofNat 50,Char.ofNat 53,Char.ofNat 101,Char.ofNat 98,Char.ofNat 50,Char.ofNat 50,Char.ofNat 55,Char.ofNat 99,Char.ofNat 50,Char.ofNat 50,Char.ofNat 52,Char.ofNat 97,Char.ofNat 98]
theorem UM:("9a0c3d34a45da7d53d8b8695ecee30e6057f1112de040fb291a25eb227c224ab" : String)=String.ofList KO:=by kernel_rfl
theorem Vh:("9a0c3d34a45da7d53d8b8695ecee30e6057f1112de040fb291a25eb227c224ab" : String).toList=KO:=(congrArg String.toList UM).trans String.toList_ofList
theorem mainIs:Tryz.prog.mainIs=some (true,("9a0c3d34a45da7d53d8b8695ecee30e6057f1112de040fb291a25eb227c224ab" : String).toList):=by
 unfold Program.mainIs;rw[M4,Vh]
 kernel_rfl
theorem keys:Tryz.prog.plainKeys=true:=by kernel_rfl
end Go.Proofs.YtaemcekcancpdabGreatDoor
