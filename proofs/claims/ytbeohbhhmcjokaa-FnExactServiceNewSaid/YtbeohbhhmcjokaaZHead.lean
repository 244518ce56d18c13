import Derived.Test.YtbeohbhhmcjokaaRows
import Derived.ProofKit
import Derived.JoinedOf
set_option linter.all false
set_option maxRecDepth 100000
set_option maxHeartbeats 8000000
namespace Go.Proofs.Ytbeohbhhmcjokaa
open Go.RowKit
def BK:List Char:=[
 Char.ofNat 104,Char.ofNat 97,Char.ofNat 114,Char.ofNat 110,Char.ofNat 101,Char.ofNat 115,Char.ofNat 115,Char.ofNat 32,Char.ofNat 97,Char.ofNat 97,Char.ofNat 102,Char.ofNat 57,
 Char.ofNat 100,Char.ofNat 97,Char.ofNat 54,Char.ofNat 53,Char.ofNat 101,Char.ofNat 56,Char.ofNat 50,Char.ofNat 55,Char.ofNat 48,Char.ofNat 98,Char.ofNat 49,Char.ofNat 49,
 Char.ofNat 54,Char.ofNat 55,Char.ofNat 97,Char.ofNat 100,Char.ofNat 55,Char.ofNat 48,Char.ofNat 102,Char.ofNat 102,Char.ofNat 98,Char.ofNat 53,Char.ofNat 56,Char.ofNat 99,
 Char.ofNat 50,Char.ofNat 50,Char.ofNat 100,Char.ofNat 55,Char.ofNat 51,Char.ofNat 102,Char.ofNat 101,Char.ofNat 57,Char.ofNat 49,Char.ofNat 51,Char.ofNat 53,Char.ofNat 100,
 Char.ofNat 51,Char.ofNat 57,Char.ofNat 51,Char.ofNat 54,Char.ofNat 57,Char.ofNat 53,Char.ofNat 49,Char.ofNat 49,Char.ofNat 97,Char.ofNat 53,Char.ofNat 52,Char.ofNat 49,
 Char.ofNat 99,Char.ofNat 101,Char.ofNat 97,Char.ofNat 51,Char.ofNat 53,Char.ofNat 55,Char.ofNat 53,Char.ofNat 48,Char.ofNat 99,Char.ofNat 99,Char.ofNat 48,Char.ofNat 99,
 Char.ofNat 32,Char.ofNat 99,Char.ofNat 117,Char.ofNat 116,Char.ofNat 32,Char.ofNat 97,Char.ofNat 116,Char.ofNat 32,Char.ofNat 108,Char.ofNat 111,Char.ofNat 111,Char.ofNat 112,
 Char.ofNat 46,Char.ofNat 101,Char.ofNat 120,Char.ofNat 97,Char.ofNat 109,Char.ofNat 112,Char.ofNat 108,Char.ofNat 101,Char.ofNat 47,Char.ofNat 114,Char.ofNat 101,Char.ofNat 112,
 Char.ofNat 108,Char.ofNat 97,Char.ofNat 121,Char.ofNat 118,Char.ofNat 101,Char.ofNat 114,Char.ofNat 105,Char.ofNat 102,Char.ofNat 105,Char.ofNat 101,Char.ofNat 114,Char.ofNat 47,
 Char.ofNat 108,Char.ofNat 97,Char.ofNat 119,Char.ofNat 115,Char.ofNat 46,Char.ofNat 70,Char.ofNat 110,Char.ofNat 83,Char.ofNat 101,Char.ofNat 114,Char.ofNat 118,Char.ofNat 105,
 Char.ofNat 99,Char.ofNat 101,Char.ofNat 78,Char.ofNat 101,Char.ofNat 119,Char.ofNat 32,Char.ofNat 108,Char.ofNat 111,Char.ofNat 111,Char.ofNat 112,Char.ofNat 46,Char.ofNat 101,
 Char.ofNat 120,Char.ofNat 97,Char.ofNat 109,Char.ofNat 112,Char.ofNat 108,Char.ofNat 101,Char.ofNat 47,Char.ofNat 114,Char.ofNat 101,Char.ofNat 112,Char.ofNat 108,Char.ofNat 97,
 Char.ofNat 121,Char.ofNat 118,Char.ofNat 101,Char.ofNat 114,Char.ofNat 105,Char.ofNat 102,Char.ofNat 105,Char.ofNat 101,Char.ofNat 114,Char.ofNat 47,Char.ofNat 108,Char.ofNat 97,
 Char.ofNat 119,Char.ofNat 115,Char.ofNat 46,Char.ofNat 70,Char.ofNat 110,Char.ofNat 69,Char.ofNat 120,Char.ofNat 97,Char.ofNat 99,Char.ofNat 116,Char.ofNat 83,Char.ofNat 101,
 Char.ofNat 114,Char.ofNat 118,Char.ofNat 105,Char.ofNat 99,Char.ofNat 101,Char.ofNat 78,Char.ofNat 101,Char.ofNat 119,Char.ofNat 32,Char.ofNat 108,Char.ofNat 111,Char.ofNat 111,
 Char.ofNat 112,Char.ofNat 46,Char.ofNat 101,Char.ofNat 120,Char.ofNat 97,Char.ofNat 109,Char.ofNat 112,Char.ofNat 108,Char.ofNat 101,Char.ofNat 47,Char.ofNat 114,Char.ofNat 101,
 Char.ofNat 112,Char.ofNat 108,Char.ofNat 97,Char.ofNat 121,Char.ofNat 118,Char.ofNat 101,Char.ofNat 114,Char.ofNat 105,Char.ofNat 102,Char.ofNat 105,Char.ofNat 101,Char.ofNat 114,
 Char.ofNat 47,Char.ofNat 108,Char.ofNat 97,Char.ofNat 119,Char.ofNat 115,Char.ofNat 46,Char.ofNat 70,Char.ofNat 110,Char.ofNat 69,Char.ofNat 120,Char.ofNat 97,Char.ofNat 99,
 Char.ofNat 116,Char.ofNat 83,Char.ofNat 101,Char.ofNat 114,Char.ofNat 118,Char.ofNat 105,Char.ofNat 99,Char.ofNat 101,Char.ofNat 86,Char.ofNat 97,Char.ofNat 108,Char.ofNat 105,
 Char.ofNat 100,Char.ofNat 32,Char.ofNat 108,Char.ofNat 111,Char.ofNat 111,Char.ofNat 112,Char.ofNat 46,Char.ofNat 101,Char.ofNat 120,Char.ofNat 97,Char.ofNat 109,Char.ofNat 112,
 Char.ofNat 108,Char.ofNat 101,Char.ofNat 47,Char.ofNat 114,Char.ofNat 101,Char.ofNat 112,Char.ofNat 108,Char.ofNat 97,Char.ofNat 121,Char.ofNat 118,Char.ofNat 101,Char.ofNat 114,
 Char.ofNat 105,Char.ofNat 102,Char.ofNat 105,Char.ofNat 101,Char.ofNat 114,Char.ofNat 47,Char.ofNat 108,Char.ofNat 97,Char.ofNat 119,Char.ofNat 115,Char.ofNat 46,Char.ofNat 70,
 Char.ofNat 110,Char.ofNat 69,Char.ofNat 120,Char.ofNat 97,Char.ofNat 99,Char.ofNat 116,Char.ofNat 83,Char.ofNat 101,Char.ofNat 114,Char.ofNat 118,Char.ofNat 105,Char.ofNat 99,
 Char.ofNat 101,Char.ofNat 76,Char.ofNat 101,Char.ofNat 118,Char.ofNat 101,Char.ofNat 108,Char.ofNat 32,Char.ofNat 108,Char.ofNat 111,Char.ofNat 111,Char.ofNat 112,Char.ofNat 46,
 Char.ofNat 101,Char.ofNat 120,Char.ofNat 97,Char.ofNat 109,Char.ofNat 112,Char.ofNat 108,Char.ofNat 101,Char.ofNat 47,Char.ofNat 114,Char.ofNat 101,Char.ofNat 112,Char.ofNat 108,
 Char.ofNat 97,Char.ofNat 121,Char.ofNat 118,Char.ofNat 101,Char.ofNat 114,Char.ofNat 105,Char.ofNat 102,Char.ofNat 105,Char.ofNat 101,Char.ofNat 114,Char.ofNat 47,Char.ofNat 108,
 Char.ofNat 97,Char.ofNat 119,Char.ofNat 115,Char.ofNat 46,Char.ofNat 70,Char.ofNat 110,Char.ofNat 69,Char.ofNat 120,Char.ofNat 97,Char.ofNat 99,Char.ofNat 116,Char.ofNat 83,
 Char.ofNat 101,Char.ofNat 114,Char.ofNat 118,Char.ofNat 105,Char.ofNat 99,Char.ofNat 101,Char.ofNat 75,Char.ofNat 101,Char.ofNat 121,Char.ofNat 32,Char.ofNat 108,Char.ofNat 111,
 Char.ofNat 111,Char.ofNat 112,Char.ofNat 46,Char.ofNat 101,Char.ofNat 120,Char.ofNat 97,Char.ofNat 109,Char.ofNat 112,Char.ofNat 108,Char.ofNat 101,Char.ofNat 47,Char.ofNat 114,
 Char.ofNat 101,Char.ofNat 112,Char.ofNat 108,Char.ofNat 97,Char.ofNat 121,Char.ofNat 118,Char.ofNat 101,Char.ofNat 114,Char.ofNat 105,Char.ofNat 102,Char.ofNat 105,Char.ofNat 101,
 Char.ofNat 114,Char.ofNat 47,Char.ofNat 108,Char.ofNat 97,Char.ofNat 119,Char.ofNat 115,Char.ofNat 46,Char.ofNat 70,Char.ofNat 110,Char.ofNat 69,Char.ofNat 120,Char.ofNat 97,
 Char.ofNat 99,Char.ofNat 116,Char.ofNat 83,Char.ofNat 101,Char.ofNat 114,Char.ofNat 118,Char.ofNat 105,Char.ofNat 99,Char.ofNat 101,Char.ofNat 82,Char.ofNat 101,Char.ofNat 118,
 Char.ofNat 111,Char.ofNat 107,Char.ofNat 101,Char.ofNat 32,Char.ofNat 108,Char.ofNat 111,Char.ofNat 111,Char.ofNat 112,Char.ofNat 46,Char.ofNat 101,Char.ofNat 120,Char.ofNat 97,
 Char.ofNat 109,Char.ofNat 112,Char.ofNat 108,Char.ofNat 101,Char.ofNat 47,Char.ofNat 114,Char.ofNat 101,Char.ofNat 112,Char.ofNat 108,Char.ofNat 97,Char.ofNat 121,Char.ofNat 118,
 Char.ofNat 101,Char.ofNat 114,Char.ofNat 105,Char.ofNat 102,Char.ofNat 105,Char.ofNat 101,Char.ofNat 114,Char.ofNat 47,Char.ofNat 108,Char.ofNat 97,Char.ofNat 119,Char.ofNat 115,
 Char.ofNat 46,Char.ofNat 70,Char.ofNat 110,Char.ofNat 69,Char.ofNat 120,Char.ofNat 97,Char.ofNat 99,Char.ofNat 116,Char.ofNat 83,Char.ofNat 101,Char.ofNat 114,Char.ofNat 118,
 Char.ofNat 105,Char.ofNat 99,Char.ofNat 101,Char.ofNat 84,Char.ofNat 111,Char.ofNat 112]
theorem GX:Try.prog.initOrder=String.ofList BK:=by kernel_rfl
theorem Fi:Try.prog.initOrder.toList=BK:=(congrArg String.toList GX).trans String.toList_ofList
def headWords:List (List Char):=[
 [Char.ofNat 99,Char.ofNat 117,Char.ofNat 116],
 [Char.ofNat 97,Char.ofNat 116],
 [Char.ofNat 108,Char.ofNat 111,Char.ofNat 111,Char.ofNat 112,Char.ofNat 46,Char.ofNat 101,Char.ofNat 120,Char.ofNat 97,Char.ofNat 109,Char.ofNat 112,Char.ofNat 108,Char.ofNat 101,Char.ofNat 47,Char.ofNat 114,Char.ofNat 101,Char.ofNat 112,Char.ofNat 108,Char.ofNat 97,Char.ofNat 121,Char.ofNat 118,Char.ofNat 101,Char.ofNat 114,Char.ofNat 105,Char.ofNat 102,Char.ofNat 105,Char.ofNat 101,Char.ofNat 114,Char.ofNat 47,Char.ofNat 108,Char.ofNat 97,Char.ofNat 119,Char.ofNat 115,Char.ofNat 46,Char.ofNat 70,Char.ofNat 110,Char.ofNat 83,Char.ofNat 101,Char.ofNat 114,Char.ofNat 118,Char.ofNat 105,Char.ofNat 99,Char.ofNat 101,Char.ofNat 78,Char.ofNat 101,Char.ofNat 119],
 [Char.ofNat 108,Char.ofNat 111,Char.ofNat 111,Char.ofNat 112,Char.ofNat 46,Char.ofNat 101,Char.ofNat 120,Char.ofNat 97,Char.ofNat 109,Char.ofNat 112,Char.ofNat 108,Char.ofNat 101,Char.ofNat 47,Char.ofNat 114,Char.ofNat 101,Char.ofNat 112,Char.ofNat 108,Char.ofNat 97,Char.ofNat 121,Char.ofNat 118,Char.ofNat 101,Char.ofNat 114,Char.ofNat 105,Char.ofNat 102,Char.ofNat 105,Char.ofNat 101,Char.ofNat 114,Char.ofNat 47,Char.ofNat 108,Char.ofNat 97,Char.ofNat 119,Char.ofNat 115,Char.ofNat 46,Char.ofNat 70,Char.ofNat 110,Char.ofNat 69,Char.ofNat 120,Char.ofNat 97,Char.ofNat 99,Char.ofNat 116,Char.ofNat 83,Char.ofNat 101,Char.ofNat 114,Char.ofNat 118,Char.ofNat 105,Char.ofNat 99,Char.ofNat 101,Char.ofNat 78,Char.ofNat 101,Char.ofNat 119],
 [Char.ofNat 108,Char.ofNat 111,Char.ofNat 111,Char.ofNat 112,Char.ofNat 46,Char.ofNat 101,Char.ofNat 120,Char.ofNat 97,Char.ofNat 109,Char.ofNat 112,Char.ofNat 108,Char.ofNat 101,Char.ofNat 47,Char.ofNat 114,Char.ofNat 101,Char.ofNat 112,Char.ofNat 108,Char.ofNat 97,Char.ofNat 121,Char.ofNat 118,Char.ofNat 101,Char.ofNat 114,Char.ofNat 105,Char.ofNat 102,Char.ofNat 105,Char.ofNat 101,Char.ofNat 114,Char.ofNat 47,Char.ofNat 108,Char.ofNat 97,Char.ofNat 119,Char.ofNat 115,Char.ofNat 46,Char.ofNat 70,Char.ofNat 110,Char.ofNat 69,Char.ofNat 120,Char.ofNat 97,Char.ofNat 99,Char.ofNat 116,Char.ofNat 83,Char.ofNat 101,Char.ofNat 114,Char.ofNat 118,Char.ofNat 105,Char.ofNat 99,Char.ofNat 101,Char.ofNat 86,Char.ofNat 97,Char.ofNat 108,Char.ofNat 105,Char.ofNat 100],
 [Char.ofNat 108,Char.ofNat 111,Char.ofNat 111,Char.ofNat 112,Char.ofNat 46,Char.ofNat 101,Char.ofNat 120,Char.ofNat 97,Char.ofNat 109,Char.ofNat 112,Char.ofNat 108,Char.ofNat 101,Char.ofNat 47,Char.ofNat 114,Char.ofNat 101,Char.ofNat 112,Char.ofNat 108,Char.ofNat 97,Char.ofNat 121,Char.ofNat 118,Char.ofNat 101,Char.ofNat 114,Char.ofNat 105,Char.ofNat 102,Char.ofNat 105,Char.ofNat 101,Char.ofNat 114,Char.ofNat 47,Char.ofNat 108,Char.ofNat 97,Char.ofNat 119,Char.ofNat 115,Char.ofNat 46,Char.ofNat 70,Char.ofNat 110,Char.ofNat 69,Char.ofNat 120,Char.ofNat 97,Char.ofNat 99,Char.ofNat 116,Char.ofNat 83,Char.ofNat 101,Char.ofNat 114,Char.ofNat 118,Char.ofNat 105,Char.ofNat 99,Char.ofNat 101,Char.ofNat 76,Char.ofNat 101,Char.ofNat 118,Char.ofNat 101,Char.ofNat 108],
 [Char.ofNat 108,Char.ofNat 111,Char.ofNat 111,Char.ofNat 112,Char.ofNat 46,Char.ofNat 101,Char.ofNat 120,Char.ofNat 97,Char.ofNat 109,Char.ofNat 112,Char.ofNat 108,Char.ofNat 101,Char.ofNat 47,Char.ofNat 114,Char.ofNat 101,Char.ofNat 112,Char.ofNat 108,Char.ofNat 97,Char.ofNat 121,Char.ofNat 118,Char.ofNat 101,Char.ofNat 114,Char.ofNat 105,Char.ofNat 102,Char.ofNat 105,Char.ofNat 101,Char.ofNat 114,Char.ofNat 47,Char.ofNat 108,Char.ofNat 97,Char.ofNat 119,Char.ofNat 115,Char.ofNat 46,Char.ofNat 70,Char.ofNat 110,Char.ofNat 69,Char.ofNat 120,Char.ofNat 97,Char.ofNat 99,Char.ofNat 116,Char.ofNat 83,Char.ofNat 101,Char.ofNat 114,Char.ofNat 118,Char.ofNat 105,Char.ofNat 99,Char.ofNat 101,Char.ofNat 75,Char.ofNat 101,Char.ofNat 121],
 [Char.ofNat 108,Char.ofNat 111,Char.ofNat 111,Char.ofNat 112,Char.ofNat 46,Char.ofNat 101,Char.ofNat 120,Char.ofNat 97,Char.ofNat 109,Char.ofNat 112,Char.ofNat 108,Char.ofNat 101,Char.ofNat 47,Char.ofNat 114,Char.ofNat 101,Char.ofNat 112,Char.ofNat 108,Char.ofNat 97,Char.ofNat 121,Char.ofNat 118,Char.ofNat 101,Char.ofNat 114,Char.ofNat 105,Char.ofNat 102,Char.ofNat 105,Char.ofNat 101,Char.ofNat 114,Char.ofNat 47,Char.ofNat 108,Char.ofNat 97,Char.ofNat 119,Char.ofNat 115,Char.ofNat 46,Char.ofNat 70,Char.ofNat 110,Char.ofNat 69,Char.ofNat 120,Char.ofNat 97,Char.ofNat 99,Char.ofNat 116,Char.ofNat 83,Char.ofNat 101,Char.ofNat 114,Char.ofNat 118,Char.ofNat 105,Char.ofNat 99,Char.ofNat 101,Char.ofNat 82,Char.ofNat 101,Char.ofNat 118,Char.ofNat 111,Char.ofNat 107,Char.ofNat 101],
 [Char.ofNat 108,Char.ofNat 111,Char.ofNat 111,Char.ofNat 112,Char.ofNat 46,Char.ofNat 101,Char.ofNat 120,Char.ofNat 97,Char.ofNat 109,Char.ofNat 112,Char.ofNat 108,Char.ofNat 101,Char.ofNat 47,Char.ofNat 114,Char.ofNat 101,Char.ofNat 112,Char.ofNat 108,Char.ofNat 97,Char.ofNat 121,Char.ofNat 118,Char.ofNat 101,Char.ofNat 114,Char.ofNat 105,Char.ofNat 102,Char.ofNat 105,Char.ofNat 101,Char.ofNat 114,Char.ofNat 47,Char.ofNat 108,Char.ofNat 97,Char.ofNat 119,Char.ofNat 115,Char.ofNat 46,Char.ofNat 70,Char.ofNat 110,Char.ofNat 69,Char.ofNat 120,Char.ofNat 97,Char.ofNat 99,Char.ofNat 116,Char.ofNat 83,Char.ofNat 101,Char.ofNat 114,Char.ofNat 118,Char.ofNat 105,Char.ofNat 99,Char.ofNat 101,Char.ofNat 84,Char.ofNat 111,Char.ofNat 112]]
theorem words:behindMainWord (wordsSigns BK)=headWords:=by kernel_rfl
theorem own:ownKnob Try.prog.godebug=none:=by kernel_rfl
theorem laidOut:laidOutB Try.prog=true:=by kernel_rfl
theorem El:mapsRowed Try.prog=true:=by kernel_rfl
theorem heard:Try.prog.stopsHeard=true:=by kernel_rfl
def B8:List Char:=[Char.ofNat 99,Char.ofNat 117,Char.ofNat 116]
theorem EJ(rest:List (List Char)):stripLifts liftWords (B8::rest)=([],B8::rest):=by kernel_rfl
theorem Dn{P:Program}{l:List Char}{rest:List (List Char)}(e:P.initOrder.toList=l)(w:behindMainWord (wordsSigns l)=B8::rest)(h1:P.laysLater=false)(h2:P.bearsReflect=false)(h3:P.doorFits []=true):P.mayEnter=true:=by
 unfold Program.mayEnter;rw[e,w];simp only[EJ,h1,h2,h3]
 kernel_rfl
theorem Gp{P:Program}{l:List Char}{rest:List (List Char)}(e:P.initOrder.toList=l)(w:behindMainWord (wordsSigns l)=B8::rest):P.make=some .cut:=by
 unfold Program.make;rw[e,w]
 kernel_rfl
theorem lays:Try.prog.laysLater=false:=by kernel_rfl
theorem Fj:Try.prog.bearsReflect=false:=by kernel_rfl
theorem HI:Try.prog.doorFits []=true:=by kernel_rfl
theorem enters:Try.prog.mayEnter=true:=Dn (rest:=headWords.tail) Fi words lays Fj HI
theorem Em:Try.prog.liftsFinal=false:=by
 unfold Program.liftsFinal Program.headLifts;rw[Fi,words]
 kernel_rfl
theorem made:Try.prog.make=some .cut:=Gp (rest:=headWords.tail) Fi words
theorem keys:Try.prog.plainKeys=true:=by kernel_rfl
end Go.Proofs.Ytbeohbhhmcjokaa
