import Derived.Test.YtienbaikhliniaaRows
import Derived.ProofKit
import Derived.JoinedOf
set_option linter.all false
set_option maxRecDepth 100000
set_option maxHeartbeats 8000000
namespace Go.Proofs.Ytienbaikhliniaa
open Go.RowKit
def Ay:List Char:=[
 Char.ofNat 104,Char.ofNat 97,Char.ofNat 114,Char.ofNat 110,Char.ofNat 101,Char.ofNat 115,Char.ofNat 115,Char.ofNat 32,Char.ofNat 56,Char.ofNat 101,Char.ofNat 50,Char.ofNat 101,
 Char.ofNat 101,Char.ofNat 54,Char.ofNat 48,Char.ofNat 50,Char.ofNat 102,Char.ofNat 56,Char.ofNat 48,Char.ofNat 55,Char.ofNat 56,Char.ofNat 56,Char.ofNat 98,Char.ofNat 99,
 Char.ofNat 51,Char.ofNat 97,Char.ofNat 98,Char.ofNat 52,Char.ofNat 100,Char.ofNat 56,Char.ofNat 56,Char.ofNat 57,Char.ofNat 98,Char.ofNat 55,Char.ofNat 54,Char.ofNat 100,
 Char.ofNat 48,Char.ofNat 99,Char.ofNat 97,Char.ofNat 56,Char.ofNat 55,Char.ofNat 102,Char.ofNat 102,Char.ofNat 55,Char.ofNat 51,Char.ofNat 49,Char.ofNat 52,Char.ofNat 97,
 Char.ofNat 97,Char.ofNat 57,Char.ofNat 101,Char.ofNat 48,Char.ofNat 53,Char.ofNat 102,Char.ofNat 51,Char.ofNat 55,Char.ofNat 49,Char.ofNat 49,Char.ofNat 53,Char.ofNat 53,
 Char.ofNat 57,Char.ofNat 97,Char.ofNat 56,Char.ofNat 55,Char.ofNat 48,Char.ofNat 54,Char.ofNat 56,Char.ofNat 98,Char.ofNat 98,Char.ofNat 54,Char.ofNat 49,Char.ofNat 97,
 Char.ofNat 32,Char.ofNat 99,Char.ofNat 117,Char.ofNat 116,Char.ofNat 32,Char.ofNat 97,Char.ofNat 116,Char.ofNat 32,Char.ofNat 108,Char.ofNat 111,Char.ofNat 111,Char.ofNat 112,
 Char.ofNat 46,Char.ofNat 101,Char.ofNat 120,Char.ofNat 97,Char.ofNat 109,Char.ofNat 112,Char.ofNat 108,Char.ofNat 101,Char.ofNat 47,Char.ofNat 114,Char.ofNat 101,Char.ofNat 112,
 Char.ofNat 108,Char.ofNat 97,Char.ofNat 121,Char.ofNat 118,Char.ofNat 101,Char.ofNat 114,Char.ofNat 105,Char.ofNat 102,Char.ofNat 105,Char.ofNat 101,Char.ofNat 114,Char.ofNat 47,
 Char.ofNat 108,Char.ofNat 97,Char.ofNat 119,Char.ofNat 115,Char.ofNat 46,Char.ofNat 70,Char.ofNat 110,Char.ofNat 84,Char.ofNat 97,Char.ofNat 103,Char.ofNat 32,Char.ofNat 108,
 Char.ofNat 111,Char.ofNat 111,Char.ofNat 112,Char.ofNat 46,Char.ofNat 101,Char.ofNat 120,Char.ofNat 97,Char.ofNat 109,Char.ofNat 112,Char.ofNat 108,Char.ofNat 101,Char.ofNat 47,
 Char.ofNat 114,Char.ofNat 101,Char.ofNat 112,Char.ofNat 108,Char.ofNat 97,Char.ofNat 121,Char.ofNat 118,Char.ofNat 101,Char.ofNat 114,Char.ofNat 105,Char.ofNat 102,Char.ofNat 105,
 Char.ofNat 101,Char.ofNat 114,Char.ofNat 47,Char.ofNat 108,Char.ofNat 97,Char.ofNat 119,Char.ofNat 115,Char.ofNat 46,Char.ofNat 70,Char.ofNat 110,Char.ofNat 84,Char.ofNat 97,
 Char.ofNat 103,Char.ofNat 67,Char.ofNat 104,Char.ofNat 97,Char.ofNat 110,Char.ofNat 103,Char.ofNat 101,Char.ofNat 32,Char.ofNat 108,Char.ofNat 111,Char.ofNat 111,Char.ofNat 112,
 Char.ofNat 46,Char.ofNat 101,Char.ofNat 120,Char.ofNat 97,Char.ofNat 109,Char.ofNat 112,Char.ofNat 108,Char.ofNat 101,Char.ofNat 47,Char.ofNat 114,Char.ofNat 101,Char.ofNat 112,
 Char.ofNat 108,Char.ofNat 97,Char.ofNat 121,Char.ofNat 118,Char.ofNat 101,Char.ofNat 114,Char.ofNat 105,Char.ofNat 102,Char.ofNat 105,Char.ofNat 101,Char.ofNat 114,Char.ofNat 47,
 Char.ofNat 108,Char.ofNat 97,Char.ofNat 119,Char.ofNat 115,Char.ofNat 46,Char.ofNat 70,Char.ofNat 110,Char.ofNat 84,Char.ofNat 97,Char.ofNat 103,Char.ofNat 73,Char.ofNat 110,
 Char.ofNat 118,Char.ofNat 97,Char.ofNat 108,Char.ofNat 105,Char.ofNat 100,Char.ofNat 32,Char.ofNat 108,Char.ofNat 111,Char.ofNat 111,Char.ofNat 112,Char.ofNat 46,Char.ofNat 101,
 Char.ofNat 120,Char.ofNat 97,Char.ofNat 109,Char.ofNat 112,Char.ofNat 108,Char.ofNat 101,Char.ofNat 47,Char.ofNat 114,Char.ofNat 101,Char.ofNat 112,Char.ofNat 108,Char.ofNat 97,
 Char.ofNat 121,Char.ofNat 118,Char.ofNat 101,Char.ofNat 114,Char.ofNat 105,Char.ofNat 102,Char.ofNat 105,Char.ofNat 101,Char.ofNat 114,Char.ofNat 47,Char.ofNat 108,Char.ofNat 97,
 Char.ofNat 119,Char.ofNat 115,Char.ofNat 46,Char.ofNat 70,Char.ofNat 110,Char.ofNat 84,Char.ofNat 97,Char.ofNat 103,Char.ofNat 75,Char.ofNat 101,Char.ofNat 121,Char.ofNat 32,
 Char.ofNat 108,Char.ofNat 111,Char.ofNat 111,Char.ofNat 112,Char.ofNat 46,Char.ofNat 101,Char.ofNat 120,Char.ofNat 97,Char.ofNat 109,Char.ofNat 112,Char.ofNat 108,Char.ofNat 101,
 Char.ofNat 47,Char.ofNat 114,Char.ofNat 101,Char.ofNat 112,Char.ofNat 108,Char.ofNat 97,Char.ofNat 121,Char.ofNat 118,Char.ofNat 101,Char.ofNat 114,Char.ofNat 105,Char.ofNat 102,
 Char.ofNat 105,Char.ofNat 101,Char.ofNat 114,Char.ofNat 47,Char.ofNat 108,Char.ofNat 97,Char.ofNat 119,Char.ofNat 115,Char.ofNat 46,Char.ofNat 70,Char.ofNat 110,Char.ofNat 69,
 Char.ofNat 120,Char.ofNat 97,Char.ofNat 99,Char.ofNat 116,Char.ofNat 84,Char.ofNat 97,Char.ofNat 103,Char.ofNat 79,Char.ofNat 102,Char.ofNat 32,Char.ofNat 108,Char.ofNat 111,
 Char.ofNat 111,Char.ofNat 112,Char.ofNat 46,Char.ofNat 101,Char.ofNat 120,Char.ofNat 97,Char.ofNat 109,Char.ofNat 112,Char.ofNat 108,Char.ofNat 101,Char.ofNat 47,Char.ofNat 114,
 Char.ofNat 101,Char.ofNat 112,Char.ofNat 108,Char.ofNat 97,Char.ofNat 121,Char.ofNat 118,Char.ofNat 101,Char.ofNat 114,Char.ofNat 105,Char.ofNat 102,Char.ofNat 105,Char.ofNat 101,
 Char.ofNat 114,Char.ofNat 47,Char.ofNat 108,Char.ofNat 97,Char.ofNat 119,Char.ofNat 115,Char.ofNat 46,Char.ofNat 70,Char.ofNat 110,Char.ofNat 69,Char.ofNat 120,Char.ofNat 97,
 Char.ofNat 99,Char.ofNat 116,Char.ofNat 84,Char.ofNat 97,Char.ofNat 103,Char.ofNat 67,Char.ofNat 104,Char.ofNat 101,Char.ofNat 99,Char.ofNat 107]
theorem Cp:Try.prog.initOrder=String.ofList Ay:=by kernel_rfl
theorem BH:Try.prog.initOrder.toList=Ay:=(congrArg String.toList Cp).trans String.toList_ofList
def headWords:List (List Char):=[
 [Char.ofNat 99,Char.ofNat 117,Char.ofNat 116],
 [Char.ofNat 97,Char.ofNat 116],
 [Char.ofNat 108,Char.ofNat 111,Char.ofNat 111,Char.ofNat 112,Char.ofNat 46,Char.ofNat 101,Char.ofNat 120,Char.ofNat 97,Char.ofNat 109,Char.ofNat 112,Char.ofNat 108,Char.ofNat 101,Char.ofNat 47,Char.ofNat 114,Char.ofNat 101,Char.ofNat 112,Char.ofNat 108,Char.ofNat 97,Char.ofNat 121,Char.ofNat 118,Char.ofNat 101,Char.ofNat 114,Char.ofNat 105,Char.ofNat 102,Char.ofNat 105,Char.ofNat 101,Char.ofNat 114,Char.ofNat 47,Char.ofNat 108,Char.ofNat 97,Char.ofNat 119,Char.ofNat 115,Char.ofNat 46,Char.ofNat 70,Char.ofNat 110,Char.ofNat 84,Char.ofNat 97,Char.ofNat 103],
 [Char.ofNat 108,Char.ofNat 111,Char.ofNat 111,Char.ofNat 112,Char.ofNat 46,Char.ofNat 101,Char.ofNat 120,Char.ofNat 97,Char.ofNat 109,Char.ofNat 112,Char.ofNat 108,Char.ofNat 101,Char.ofNat 47,Char.ofNat 114,Char.ofNat 101,Char.ofNat 112,Char.ofNat 108,Char.ofNat 97,Char.ofNat 121,Char.ofNat 118,Char.ofNat 101,Char.ofNat 114,Char.ofNat 105,Char.ofNat 102,Char.ofNat 105,Char.ofNat 101,Char.ofNat 114,Char.ofNat 47,Char.ofNat 108,Char.ofNat 97,Char.ofNat 119,Char.ofNat 115,Char.ofNat 46,Char.ofNat 70,Char.ofNat 110,Char.ofNat 84,Char.ofNat 97,Char.ofNat 103,Char.ofNat 67,Char.ofNat 104,Char.ofNat 97,Char.ofNat 110,Char.ofNat 103,Char.ofNat 101],
 [Char.ofNat 108,Char.ofNat 111,Char.ofNat 111,Char.ofNat 112,Char.ofNat 46,Char.ofNat 101,Char.ofNat 120,Char.ofNat 97,Char.ofNat 109,Char.ofNat 112,Char.ofNat 108,Char.ofNat 101,Char.ofNat 47,Char.ofNat 114,Char.ofNat 101,Char.ofNat 112,Char.ofNat 108,Char.ofNat 97,Char.ofNat 121,Char.ofNat 118,Char.ofNat 101,Char.ofNat 114,Char.ofNat 105,Char.ofNat 102,Char.ofNat 105,Char.ofNat 101,Char.ofNat 114,Char.ofNat 47,Char.ofNat 108,Char.ofNat 97,Char.ofNat 119,Char.ofNat 115,Char.ofNat 46,Char.ofNat 70,Char.ofNat 110,Char.ofNat 84,Char.ofNat 97,Char.ofNat 103,Char.ofNat 73,Char.ofNat 110,Char.ofNat 118,Char.ofNat 97,Char.ofNat 108,Char.ofNat 105,Char.ofNat 100],
 [Char.ofNat 108,Char.ofNat 111,Char.ofNat 111,Char.ofNat 112,Char.ofNat 46,Char.ofNat 101,Char.ofNat 120,Char.ofNat 97,Char.ofNat 109,Char.ofNat 112,Char.ofNat 108,Char.ofNat 101,Char.ofNat 47,Char.ofNat 114,Char.ofNat 101,Char.ofNat 112,Char.ofNat 108,Char.ofNat 97,Char.ofNat 121,Char.ofNat 118,Char.ofNat 101,Char.ofNat 114,Char.ofNat 105,Char.ofNat 102,Char.ofNat 105,Char.ofNat 101,Char.ofNat 114,Char.ofNat 47,Char.ofNat 108,Char.ofNat 97,Char.ofNat 119,Char.ofNat 115,Char.ofNat 46,Char.ofNat 70,Char.ofNat 110,Char.ofNat 84,Char.ofNat 97,Char.ofNat 103,Char.ofNat 75,Char.ofNat 101,Char.ofNat 121],
 [Char.ofNat 108,Char.ofNat 111,Char.ofNat 111,Char.ofNat 112,Char.ofNat 46,Char.ofNat 101,Char.ofNat 120,Char.ofNat 97,Char.ofNat 109,Char.ofNat 112,Char.ofNat 108,Char.ofNat 101,Char.ofNat 47,Char.ofNat 114,Char.ofNat 101,Char.ofNat 112,Char.ofNat 108,Char.ofNat 97,Char.ofNat 121,Char.ofNat 118,Char.ofNat 101,Char.ofNat 114,Char.ofNat 105,Char.ofNat 102,Char.ofNat 105,Char.ofNat 101,Char.ofNat 114,Char.ofNat 47,Char.ofNat 108,Char.ofNat 97,Char.ofNat 119,Char.ofNat 115,Char.ofNat 46,Char.ofNat 70,Char.ofNat 110,Char.ofNat 69,Char.ofNat 120,Char.ofNat 97,Char.ofNat 99,Char.ofNat 116,Char.ofNat 84,Char.ofNat 97,Char.ofNat 103,Char.ofNat 79,Char.ofNat 102],
 [Char.ofNat 108,Char.ofNat 111,Char.ofNat 111,Char.ofNat 112,Char.ofNat 46,Char.ofNat 101,Char.ofNat 120,Char.ofNat 97,Char.ofNat 109,Char.ofNat 112,Char.ofNat 108,Char.ofNat 101,Char.ofNat 47,Char.ofNat 114,Char.ofNat 101,Char.ofNat 112,Char.ofNat 108,Char.ofNat 97,Char.ofNat 121,Char.ofNat 118,Char.ofNat 101,Char.ofNat 114,Char.ofNat 105,Char.ofNat 102,Char.ofNat 105,Char.ofNat 101,Char.ofNat 114,Char.ofNat 47,Char.ofNat 108,Char.ofNat 97,Char.ofNat 119,Char.ofNat 115,Char.ofNat 46,Char.ofNat 70,Char.ofNat 110,Char.ofNat 69,Char.ofNat 120,Char.ofNat 97,Char.ofNat 99,Char.ofNat 116,Char.ofNat 84,Char.ofNat 97,Char.ofNat 103,Char.ofNat 67,Char.ofNat 104,Char.ofNat 101,Char.ofNat 99,Char.ofNat 107]]
theorem words:behindMainWord (wordsSigns Ay)=headWords:=by kernel_rfl
theorem own:ownKnob Try.prog.godebug=none:=by kernel_rfl
theorem laidOut:laidOutB Try.prog=true:=by kernel_rfl
theorem AO:mapsRowed Try.prog=true:=by kernel_rfl
theorem heard:Try.prog.stopsHeard=true:=by kernel_rfl
def AC:List Char:=[Char.ofNat 99,Char.ofNat 117,Char.ofNat 116]
theorem Bt(rest:List (List Char)):stripLifts liftWords (AC::rest)=([],AC::rest):=by kernel_rfl
theorem A8{P:Program}{l:List Char}{rest:List (List Char)}(e:P.initOrder.toList=l)(w:behindMainWord (wordsSigns l)=AC::rest)(h1:P.laysLater=false)(h2:P.bearsReflect=false)(h3:P.doorFits []=true):P.mayEnter=true:=by
 unfold Program.mayEnter;rw[e,w];simp only[Bt,h1,h2,h3]
 kernel_rfl
theorem Ch{P:Program}{l:List Char}{rest:List (List Char)}(e:P.initOrder.toList=l)(w:behindMainWord (wordsSigns l)=AC::rest):P.make=some .cut:=by
 unfold Program.make;rw[e,w]
 kernel_rfl
theorem lays:Try.prog.laysLater=false:=by kernel_rfl
theorem BI:Try.prog.bearsReflect=false:=by kernel_rfl
theorem Cz:Try.prog.doorFits []=true:=by kernel_rfl
theorem enters:Try.prog.mayEnter=true:=A8 (rest:=headWords.tail) BH words lays BI Cz
theorem AP:Try.prog.liftsFinal=false:=by
 unfold Program.liftsFinal Program.headLifts;rw[BH,words]
 kernel_rfl
theorem made:Try.prog.make=some .cut:=Ch (rest:=headWords.tail) BH words
theorem keys:Try.prog.plainKeys=true:=by kernel_rfl
end Go.Proofs.Ytienbaikhliniaa
