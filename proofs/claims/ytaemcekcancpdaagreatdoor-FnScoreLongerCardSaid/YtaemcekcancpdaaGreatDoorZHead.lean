import Derived.Test.YtaemcekcancpdaaGreatDoorRows
import Derived.ProofKit
import Derived.JoinedOf
set_option linter.all false
set_option maxRecDepth 100000
set_option maxHeartbeats 8000000
namespace Go.Proofs.YtaemcekcancpdaaGreatDoor
open Go.RowKit
def Gh:List Char:=[
 Char.ofNat 104,Char.ofNat 97,Char.ofNat 114,Char.ofNat 110,Char.ofNat 101,Char.ofNat 115,Char.ofNat 115,Char.ofNat 32,Char.ofNat 51,Char.ofNat 53,Char.ofNat 51,Char.ofNat 50,
 Char.ofNat 100,Char.ofNat 54,Char.ofNat 49,Char.ofNat 54,Char.ofNat 98,Char.ofNat 51,Char.ofNat 48,Char.ofNat 98,Char.ofNat 48,Char.ofNat 48,Char.ofNat 48,Char.ofNat 54,
 Char.ofNat 54,Char.ofNat 97,Char.ofNat 101,Char.ofNat 53,Char.ofNat 55,Char.ofNat 98,Char.ofNat 98,Char.ofNat 54,Char.ofNat 97,Char.ofNat 48,Char.ofNat 54,Char.ofNat 48,
 Char.ofNat 98,Char.ofNat 97,Char.ofNat 49,Char.ofNat 48,Char.ofNat 49,Char.ofNat 98,Char.ofNat 54,Char.ofNat 50,Char.ofNat 48,Char.ofNat 97,Char.ofNat 101,Char.ofNat 50,
 Char.ofNat 48,Char.ofNat 97,Char.ofNat 51,Char.ofNat 53,Char.ofNat 102,Char.ofNat 49,Char.ofNat 98,Char.ofNat 52,Char.ofNat 99,Char.ofNat 98,Char.ofNat 56,Char.ofNat 55,
 Char.ofNat 51,Char.ofNat 56,Char.ofNat 97,Char.ofNat 101,Char.ofNat 51,Char.ofNat 57,Char.ofNat 57,Char.ofNat 102,Char.ofNat 48,Char.ofNat 55,Char.ofNat 56,Char.ofNat 50,
 Char.ofNat 32,Char.ofNat 99,Char.ofNat 117,Char.ofNat 116,Char.ofNat 32,Char.ofNat 97,Char.ofNat 116,Char.ofNat 32,Char.ofNat 108,Char.ofNat 111,Char.ofNat 111,Char.ofNat 112,
 Char.ofNat 46,Char.ofNat 101,Char.ofNat 120,Char.ofNat 97,Char.ofNat 109,Char.ofNat 112,Char.ofNat 108,Char.ofNat 101,Char.ofNat 47,Char.ofNat 114,Char.ofNat 101,Char.ofNat 112,
 Char.ofNat 108,Char.ofNat 97,Char.ofNat 121,Char.ofNat 118,Char.ofNat 101,Char.ofNat 114,Char.ofNat 105,Char.ofNat 102,Char.ofNat 105,Char.ofNat 101,Char.ofNat 114,Char.ofNat 47,
 Char.ofNat 108,Char.ofNat 97,Char.ofNat 119,Char.ofNat 115,Char.ofNat 46,Char.ofNat 70,Char.ofNat 110,Char.ofNat 82,Char.ofNat 117,Char.ofNat 110,Char.ofNat 66,Char.ofNat 101,
 Char.ofNat 103,Char.ofNat 105,Char.ofNat 110,Char.ofNat 32,Char.ofNat 108,Char.ofNat 111,Char.ofNat 111,Char.ofNat 112,Char.ofNat 46,Char.ofNat 101,Char.ofNat 120,Char.ofNat 97,
 Char.ofNat 109,Char.ofNat 112,Char.ofNat 108,Char.ofNat 101,Char.ofNat 47,Char.ofNat 114,Char.ofNat 101,Char.ofNat 112,Char.ofNat 108,Char.ofNat 97,Char.ofNat 121,Char.ofNat 118,
 Char.ofNat 101,Char.ofNat 114,Char.ofNat 105,Char.ofNat 102,Char.ofNat 105,Char.ofNat 101,Char.ofNat 114,Char.ofNat 47,Char.ofNat 108,Char.ofNat 97,Char.ofNat 119,Char.ofNat 115,
 Char.ofNat 46,Char.ofNat 70,Char.ofNat 110,Char.ofNat 82,Char.ofNat 117,Char.ofNat 110,Char.ofNat 87,Char.ofNat 97,Char.ofNat 108,Char.ofNat 108,Char.ofNat 115,Char.ofNat 32,
 Char.ofNat 108,Char.ofNat 111,Char.ofNat 111,Char.ofNat 112,Char.ofNat 46,Char.ofNat 101,Char.ofNat 120,Char.ofNat 97,Char.ofNat 109,Char.ofNat 112,Char.ofNat 108,Char.ofNat 101,
 Char.ofNat 47,Char.ofNat 114,Char.ofNat 101,Char.ofNat 112,Char.ofNat 108,Char.ofNat 97,Char.ofNat 121,Char.ofNat 118,Char.ofNat 101,Char.ofNat 114,Char.ofNat 105,Char.ofNat 102,
 Char.ofNat 105,Char.ofNat 101,Char.ofNat 114,Char.ofNat 47,Char.ofNat 108,Char.ofNat 97,Char.ofNat 119,Char.ofNat 115,Char.ofNat 46,Char.ofNat 70,Char.ofNat 110,Char.ofNat 82,
 Char.ofNat 117,Char.ofNat 110,Char.ofNat 80,Char.ofNat 97,Char.ofNat 116,Char.ofNat 104,Char.ofNat 32,Char.ofNat 108,Char.ofNat 111,Char.ofNat 111,Char.ofNat 112,Char.ofNat 46,
 Char.ofNat 101,Char.ofNat 120,Char.ofNat 97,Char.ofNat 109,Char.ofNat 112,Char.ofNat 108,Char.ofNat 101,Char.ofNat 47,Char.ofNat 114,Char.ofNat 101,Char.ofNat 112,Char.ofNat 108,
 Char.ofNat 97,Char.ofNat 121,Char.ofNat 118,Char.ofNat 101,Char.ofNat 114,Char.ofNat 105,Char.ofNat 102,Char.ofNat 105,Char.ofNat 101,Char.ofNat 114,Char.ofNat 47,Char.ofNat 108,
 Char.ofNat 97,Char.ofNat 119,Char.ofNat 115,Char.ofNat 46,Char.ofNat 70,Char.ofNat 110,Char.ofNat 83,Char.ofNat 99,Char.ofNat 111,Char.ofNat 114,Char.ofNat 101,Char.ofNat 32,
 Char.ofNat 108,Char.ofNat 111,Char.ofNat 111,Char.ofNat 112,Char.ofNat 46,Char.ofNat 101,Char.ofNat 120,Char.ofNat 97,Char.ofNat 109,Char.ofNat 112,Char.ofNat 108,Char.ofNat 101,
 Char.ofNat 47,Char.ofNat 114,Char.ofNat 101,Char.ofNat 112,Char.ofNat 108,Char.ofNat 97,Char.ofNat 121,Char.ofNat 118,Char.ofNat 101,Char.ofNat 114,Char.ofNat 105,Char.ofNat 102,
 Char.ofNat 105,Char.ofNat 101,Char.ofNat 114,Char.ofNat 47,Char.ofNat 108,Char.ofNat 97,Char.ofNat 119,Char.ofNat 115,Char.ofNat 46,Char.ofNat 70,Char.ofNat 110,Char.ofNat 83,
 Char.ofNat 99,Char.ofNat 111,Char.ofNat 114,Char.ofNat 101,Char.ofNat 76,Char.ofNat 111,Char.ofNat 110,Char.ofNat 103,Char.ofNat 101,Char.ofNat 114,Char.ofNat 32,Char.ofNat 108,
 Char.ofNat 111,Char.ofNat 111,Char.ofNat 112,Char.ofNat 46,Char.ofNat 101,Char.ofNat 120,Char.ofNat 97,Char.ofNat 109,Char.ofNat 112,Char.ofNat 108,Char.ofNat 101,Char.ofNat 47,
 Char.ofNat 114,Char.ofNat 101,Char.ofNat 112,Char.ofNat 108,Char.ofNat 97,Char.ofNat 121,Char.ofNat 118,Char.ofNat 101,Char.ofNat 114,Char.ofNat 105,Char.ofNat 102,Char.ofNat 105,
 Char.ofNat 101,Char.ofNat 114,Char.ofNat 47,Char.ofNat 108,Char.ofNat 97,Char.ofNat 119,Char.ofNat 115,Char.ofNat 46,Char.ofNat 70,Char.ofNat 110,Char.ofNat 83,Char.ofNat 99,
 Char.ofNat 111,Char.ofNat 114,Char.ofNat 101,Char.ofNat 71,Char.ofNat 97,Char.ofNat 116,Char.ofNat 101,Char.ofNat 115]
theorem SX:Tryz.prog.initOrder=String.ofList Gh:=by kernel_rfl
theorem MR:Tryz.prog.initOrder.toList=Gh:=(congrArg String.toList SX).trans String.toList_ofList
def headWords:List (List Char):=[
 [Char.ofNat 99,Char.ofNat 117,Char.ofNat 116],
 [Char.ofNat 97,Char.ofNat 116],
 [Char.ofNat 108,Char.ofNat 111,Char.ofNat 111,Char.ofNat 112,Char.ofNat 46,Char.ofNat 101,Char.ofNat 120,Char.ofNat 97,Char.ofNat 109,Char.ofNat 112,Char.ofNat 108,Char.ofNat 101,Char.ofNat 47,Char.ofNat 114,Char.ofNat 101,Char.ofNat 112,Char.ofNat 108,Char.ofNat 97,Char.ofNat 121,Char.ofNat 118,Char.ofNat 101,Char.ofNat 114,Char.ofNat 105,Char.ofNat 102,Char.ofNat 105,Char.ofNat 101,Char.ofNat 114,Char.ofNat 47,Char.ofNat 108,Char.ofNat 97,Char.ofNat 119,Char.ofNat 115,Char.ofNat 46,Char.ofNat 70,Char.ofNat 110,Char.ofNat 82,Char.ofNat 117,Char.ofNat 110,Char.ofNat 66,Char.ofNat 101,Char.ofNat 103,Char.ofNat 105,Char.ofNat 110],
 [Char.ofNat 108,Char.ofNat 111,Char.ofNat 111,Char.ofNat 112,Char.ofNat 46,Char.ofNat 101,Char.ofNat 120,Char.ofNat 97,Char.ofNat 109,Char.ofNat 112,Char.ofNat 108,Char.ofNat 101,Char.ofNat 47,Char.ofNat 114,Char.ofNat 101,Char.ofNat 112,Char.ofNat 108,Char.ofNat 97,Char.ofNat 121,Char.ofNat 118,Char.ofNat 101,Char.ofNat 114,Char.ofNat 105,Char.ofNat 102,Char.ofNat 105,Char.ofNat 101,Char.ofNat 114,Char.ofNat 47,Char.ofNat 108,Char.ofNat 97,Char.ofNat 119,Char.ofNat 115,Char.ofNat 46,Char.ofNat 70,Char.ofNat 110,Char.ofNat 82,Char.ofNat 117,Char.ofNat 110,Char.ofNat 87,Char.ofNat 97,Char.ofNat 108,Char.ofNat 108,Char.ofNat 115],
 [Char.ofNat 108,Char.ofNat 111,Char.ofNat 111,Char.ofNat 112,Char.ofNat 46,Char.ofNat 101,Char.ofNat 120,Char.ofNat 97,Char.ofNat 109,Char.ofNat 112,Char.ofNat 108,Char.ofNat 101,Char.ofNat 47,Char.ofNat 114,Char.ofNat 101,Char.ofNat 112,Char.ofNat 108,Char.ofNat 97,Char.ofNat 121,Char.ofNat 118,Char.ofNat 101,Char.ofNat 114,Char.ofNat 105,Char.ofNat 102,Char.ofNat 105,Char.ofNat 101,Char.ofNat 114,Char.ofNat 47,Char.ofNat 108,Char.ofNat 97,Char.ofNat 119,Char.ofNat 115,Char.ofNat 46,Char.ofNat 70,Char.ofNat 110,Char.ofNat 82,Char.ofNat 117,Char.ofNat 110,Char.ofNat 80,Char.ofNat 97,Char.ofNat 116,Char.ofNat 104],
 [Char.ofNat 108,Char.ofNat 111,Char.ofNat 111,Char.ofNat 112,Char.ofNat 46,Char.ofNat 101,Char.ofNat 120,Char.ofNat 97,Char.ofNat 109,Char.ofNat 112,Char.ofNat 108,Char.ofNat 101,Char.ofNat 47,Char.ofNat 114,Char.ofNat 101,Char.ofNat 112,Char.ofNat 108,Char.ofNat 97,Char.ofNat 121,Char.ofNat 118,Char.ofNat 101,Char.ofNat 114,Char.ofNat 105,Char.ofNat 102,Char.ofNat 105,Char.ofNat 101,Char.ofNat 114,Char.ofNat 47,Char.ofNat 108,Char.ofNat 97,Char.ofNat 119,Char.ofNat 115,Char.ofNat 46,Char.ofNat 70,Char.ofNat 110,Char.ofNat 83,Char.ofNat 99,Char.ofNat 111,Char.ofNat 114,Char.ofNat 101],
 [Char.ofNat 108,Char.ofNat 111,Char.ofNat 111,Char.ofNat 112,Char.ofNat 46,Char.ofNat 101,Char.ofNat 120,Char.ofNat 97,Char.ofNat 109,Char.ofNat 112,Char.ofNat 108,Char.ofNat 101,Char.ofNat 47,Char.ofNat 114,Char.ofNat 101,Char.ofNat 112,Char.ofNat 108,Char.ofNat 97,Char.ofNat 121,Char.ofNat 118,Char.ofNat 101,Char.ofNat 114,Char.ofNat 105,Char.ofNat 102,Char.ofNat 105,Char.ofNat 101,Char.ofNat 114,Char.ofNat 47,Char.ofNat 108,Char.ofNat 97,Char.ofNat 119,Char.ofNat 115,Char.ofNat 46,Char.ofNat 70,Char.ofNat 110,Char.ofNat 83,Char.ofNat 99,Char.ofNat 111,Char.ofNat 114,Char.ofNat 101,Char.ofNat 76,Char.ofNat 111,Char.ofNat 110,Char.ofNat 103,Char.ofNat 101,Char.ofNat 114],
 [Char.ofNat 108,Char.ofNat 111,Char.ofNat 111,Char.ofNat 112,Char.ofNat 46,Char.ofNat 101,Char.ofNat 120,Char.ofNat 97,Char.ofNat 109,Char.ofNat 112,Char.ofNat 108,Char.ofNat 101,Char.ofNat 47,Char.ofNat 114,Char.ofNat 101,Char.ofNat 112,Char.ofNat 108,Char.ofNat 97,Char.ofNat 121,Char.ofNat 118,Char.ofNat 101,Char.ofNat 114,Char.ofNat 105,Char.ofNat 102,Char.ofNat 105,Char.ofNat 101,Char.ofNat 114,Char.ofNat 47,Char.ofNat 108,Char.ofNat 97,Char.ofNat 119,Char.ofNat 115,Char.ofNat 46,Char.ofNat 70,Char.ofNat 110,Char.ofNat 83,Char.ofNat 99,Char.ofNat 111,Char.ofNat 114,Char.ofNat 101,Char.ofNat 71,Char.ofNat 97,Char.ofNat 116,Char.ofNat 101,Char.ofNat 115]]
theorem words:behindMainWord (wordsSigns Gh)=headWords:=by kernel_rfl
theorem own:ownKnob Tryz.prog.godebug=none:=by kernel_rfl
theorem laidOut:laidOutB Tryz.prog=true:=by kernel_rfl
theorem Jd:mapsRowed Tryz.prog=true:=by kernel_rfl
theorem heard:Tryz.prog.stopsHeard=true:=by kernel_rfl
def Hm:List Char:=[Char.ofNat 99,Char.ofNat 117,Char.ofNat 116]
theorem NT(rest:List (List Char)):stripLifts liftWords (Hm::rest)=([],Hm::rest):=by kernel_rfl
theorem KE{P:Program}{l:List Char}{rest:List (List Char)}(e:P.initOrder.toList=l)(w:behindMainWord (wordsSigns l)=Hm::rest)(h1:P.laysLater=false)(h2:P.bearsReflect=false)(h3:P.doorFits []=true):P.mayEnter=true:=by
 unfold Program.mayEnter;rw[e,w];simp only[NT,h1,h2,h3]
 kernel_rfl
theorem Rk{P:Program}{l:List Char}{rest:List (List Char)}(e:P.initOrder.toList=l)(w:behindMainWord (wordsSigns l)=Hm::rest):P.make=some .cut:=by
 unfold Program.make;rw[e,w]
 kernel_rfl
theorem lays:Tryz.prog.laysLater=false:=by kernel_rfl
theorem Pr:Tryz.prog.bearsReflect=false:=by kernel_rfl
theorem door:Tryz.prog.doorFits []=true:=by kernel_rfl
theorem enters:Tryz.prog.mayEnter=true:=KE (rest:=headWords.tail) MR words lays Pr door
theorem Je:Tryz.prog.liftsFinal=false:=by
 unfold Program.liftsFinal Program.headLifts;rw[MR,words]
 kernel_rfl
theorem made:Tryz.prog.make=some .cut:=Rk (rest:=headWords.tail) MR words
def KF:List Char:=[Char.ofNat 51,Char.ofNat 53,Char.ofNat 51,Char.ofNat 50,Char.ofNat 100,Char.ofNat 54,Char.ofNat 49,Char.ofNat 54,Char.ofNat 98,Char.ofNat 51,Char.ofNat 48,Char.ofNat 98,Char.ofNat 48,Char.ofNat 48,Char.ofNat 48,Char.ofNat 54,Char.ofNat 54,Char.ofNat 97,Char.ofNat 101,Char.ofNat 53,Char.ofNat 55,Char.ofNat 98,Char.ofNat 98,Char.ofNat 54,Char.ofNat 97,Char.ofNat 48,Char.ofNat 54,Char.ofNat 48,Char.ofNat 98,Char.ofNat 97,Char.ofNat 49,Char.ofNat 48,Char.ofNat 49,Char.ofNat 98,Char.ofNat 54,Char.ofNat 50,Char.ofNat 48,Char.ofNat 97,Char.ofNat 101,Char.ofNat 50,Char.ofNat 48,Char.ofNat 97,Char.ofNat 51,Char.ofNat 53,Char.ofNat 102,Char.ofNat 49,Char.ofNat 98,Char.ofNat 52,Char.ofNat 99,Char.ofNat 98,Char.ofNat 56,Char.ofNat 55,Char.ofNat 51,Char.ofNat 56,Char.ofNat 97,Char.ofNat 101,Char.ofNat 51,Char.ofNat 57,Char.ofNat 57,Char.ofNat 102,Char.ofNat 48,Char.ofNat 55,Char.ofNat 56,Char.ofNat 50]
theorem Uj:("3532d616b30b00066ae57bb6a060ba101b620ae20a35f1b4cb8738ae399f0782" : String)=String.ofList KF:=by kernel_rfl
theorem UT:("3532d616b30b00066ae57bb6a060ba101b620ae20a35f1b4cb8738ae399f0782" : String).toList=KF:=(congrArg String.toList Uj).trans String.toList_ofList
theorem mainIs:Tryz.prog.mainIs=some (true,("3532d616b30b00066ae57bb6a060ba101b620ae20a35f1b4cb8738ae399f0782" : String).toList):=by
 unfold Program.mainIs;rw[MR,UT]
 kernel_rfl
theorem keys:Tryz.prog.plainKeys=true:=by kernel_rfl
end Go.Proofs.YtaemcekcancpdaaGreatDoor
