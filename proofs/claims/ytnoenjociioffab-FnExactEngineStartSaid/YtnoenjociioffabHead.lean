/-
  Facts of the whole program that every row asks: how its head reads, and that a call may enter it.
-/
import Derived.Test.YtnoenjociioffabRows
import Derived.ProofKit
import Derived.JoinedOf
namespace Go.Proofs.Ytnoenjociioffab
open Go.RowKit

/-- The head's signs. -/
def headSigns : List Char := [
  Char.ofNat 104, Char.ofNat 97, Char.ofNat 114, Char.ofNat 110, Char.ofNat 101, Char.ofNat 115, Char.ofNat 115, Char.ofNat 32, Char.ofNat 99, Char.ofNat 49, Char.ofNat 57, Char.ofNat 55,
  Char.ofNat 101, Char.ofNat 50, Char.ofNat 55, Char.ofNat 99, Char.ofNat 51, Char.ofNat 53, Char.ofNat 55, Char.ofNat 98, Char.ofNat 56, Char.ofNat 53, Char.ofNat 48, Char.ofNat 55,
  Char.ofNat 51, Char.ofNat 99, Char.ofNat 53, Char.ofNat 51, Char.ofNat 57, Char.ofNat 102, Char.ofNat 50, Char.ofNat 50, Char.ofNat 57, Char.ofNat 98, Char.ofNat 97, Char.ofNat 49,
  Char.ofNat 57, Char.ofNat 97, Char.ofNat 100, Char.ofNat 99, Char.ofNat 53, Char.ofNat 101, Char.ofNat 101, Char.ofNat 97, Char.ofNat 98, Char.ofNat 49, Char.ofNat 48, Char.ofNat 98,
  Char.ofNat 54, Char.ofNat 97, Char.ofNat 54, Char.ofNat 102, Char.ofNat 48, Char.ofNat 51, Char.ofNat 99, Char.ofNat 99, Char.ofNat 49, Char.ofNat 51, Char.ofNat 97, Char.ofNat 52,
  Char.ofNat 56, Char.ofNat 48, Char.ofNat 51, Char.ofNat 102, Char.ofNat 97, Char.ofNat 57, Char.ofNat 51, Char.ofNat 48, Char.ofNat 100, Char.ofNat 101, Char.ofNat 52, Char.ofNat 101,
  Char.ofNat 32, Char.ofNat 99, Char.ofNat 117, Char.ofNat 116, Char.ofNat 32, Char.ofNat 97, Char.ofNat 116, Char.ofNat 32, Char.ofNat 108, Char.ofNat 111, Char.ofNat 111, Char.ofNat 112,
  Char.ofNat 46, Char.ofNat 101, Char.ofNat 120, Char.ofNat 97, Char.ofNat 109, Char.ofNat 112, Char.ofNat 108, Char.ofNat 101, Char.ofNat 47, Char.ofNat 114, Char.ofNat 101, Char.ofNat 112,
  Char.ofNat 108, Char.ofNat 97, Char.ofNat 121, Char.ofNat 118, Char.ofNat 101, Char.ofNat 114, Char.ofNat 105, Char.ofNat 102, Char.ofNat 105, Char.ofNat 101, Char.ofNat 114, Char.ofNat 47,
  Char.ofNat 108, Char.ofNat 97, Char.ofNat 119, Char.ofNat 115, Char.ofNat 46, Char.ofNat 70, Char.ofNat 110, Char.ofNat 83, Char.ofNat 116, Char.ofNat 97, Char.ofNat 114, Char.ofNat 116,
  Char.ofNat 32, Char.ofNat 108, Char.ofNat 111, Char.ofNat 111, Char.ofNat 112, Char.ofNat 46, Char.ofNat 101, Char.ofNat 120, Char.ofNat 97, Char.ofNat 109, Char.ofNat 112, Char.ofNat 108,
  Char.ofNat 101, Char.ofNat 47, Char.ofNat 114, Char.ofNat 101, Char.ofNat 112, Char.ofNat 108, Char.ofNat 97, Char.ofNat 121, Char.ofNat 118, Char.ofNat 101, Char.ofNat 114, Char.ofNat 105,
  Char.ofNat 102, Char.ofNat 105, Char.ofNat 101, Char.ofNat 114, Char.ofNat 47, Char.ofNat 108, Char.ofNat 97, Char.ofNat 119, Char.ofNat 115, Char.ofNat 46, Char.ofNat 70, Char.ofNat 110,
  Char.ofNat 69, Char.ofNat 110, Char.ofNat 103, Char.ofNat 105, Char.ofNat 110, Char.ofNat 101, Char.ofNat 72, Char.ofNat 97, Char.ofNat 115, Char.ofNat 104, Char.ofNat 32, Char.ofNat 108,
  Char.ofNat 111, Char.ofNat 111, Char.ofNat 112, Char.ofNat 46, Char.ofNat 101, Char.ofNat 120, Char.ofNat 97, Char.ofNat 109, Char.ofNat 112, Char.ofNat 108, Char.ofNat 101, Char.ofNat 47,
  Char.ofNat 114, Char.ofNat 101, Char.ofNat 112, Char.ofNat 108, Char.ofNat 97, Char.ofNat 121, Char.ofNat 118, Char.ofNat 101, Char.ofNat 114, Char.ofNat 105, Char.ofNat 102, Char.ofNat 105,
  Char.ofNat 101, Char.ofNat 114, Char.ofNat 47, Char.ofNat 108, Char.ofNat 97, Char.ofNat 119, Char.ofNat 115, Char.ofNat 46, Char.ofNat 70, Char.ofNat 110, Char.ofNat 69, Char.ofNat 110,
  Char.ofNat 103, Char.ofNat 105, Char.ofNat 110, Char.ofNat 101, Char.ofNat 72, Char.ofNat 97, Char.ofNat 115, Char.ofNat 104, Char.ofNat 65, Char.ofNat 116, Char.ofNat 32, Char.ofNat 108,
  Char.ofNat 111, Char.ofNat 111, Char.ofNat 112, Char.ofNat 46, Char.ofNat 101, Char.ofNat 120, Char.ofNat 97, Char.ofNat 109, Char.ofNat 112, Char.ofNat 108, Char.ofNat 101, Char.ofNat 47,
  Char.ofNat 114, Char.ofNat 101, Char.ofNat 112, Char.ofNat 108, Char.ofNat 97, Char.ofNat 121, Char.ofNat 118, Char.ofNat 101, Char.ofNat 114, Char.ofNat 105, Char.ofNat 102, Char.ofNat 105,
  Char.ofNat 101, Char.ofNat 114, Char.ofNat 47, Char.ofNat 108, Char.ofNat 97, Char.ofNat 119, Char.ofNat 115, Char.ofNat 46, Char.ofNat 70, Char.ofNat 110, Char.ofNat 83, Char.ofNat 112,
  Char.ofNat 101, Char.ofNat 101, Char.ofNat 100, Char.ofNat 32, Char.ofNat 108, Char.ofNat 111, Char.ofNat 111, Char.ofNat 112, Char.ofNat 46, Char.ofNat 101, Char.ofNat 120, Char.ofNat 97,
  Char.ofNat 109, Char.ofNat 112, Char.ofNat 108, Char.ofNat 101, Char.ofNat 47, Char.ofNat 114, Char.ofNat 101, Char.ofNat 112, Char.ofNat 108, Char.ofNat 97, Char.ofNat 121, Char.ofNat 118,
  Char.ofNat 101, Char.ofNat 114, Char.ofNat 105, Char.ofNat 102, Char.ofNat 105, Char.ofNat 101, Char.ofNat 114, Char.ofNat 47, Char.ofNat 108, Char.ofNat 97, Char.ofNat 119, Char.ofNat 115,
  Char.ofNat 46, Char.ofNat 70, Char.ofNat 110, Char.ofNat 69, Char.ofNat 120, Char.ofNat 97, Char.ofNat 99, Char.ofNat 116, Char.ofNat 69, Char.ofNat 110, Char.ofNat 103, Char.ofNat 105,
  Char.ofNat 110, Char.ofNat 101, Char.ofNat 83, Char.ofNat 116, Char.ofNat 97, Char.ofNat 114, Char.ofNat 116, Char.ofNat 32, Char.ofNat 108, Char.ofNat 111, Char.ofNat 111, Char.ofNat 112,
  Char.ofNat 46, Char.ofNat 101, Char.ofNat 120, Char.ofNat 97, Char.ofNat 109, Char.ofNat 112, Char.ofNat 108, Char.ofNat 101, Char.ofNat 47, Char.ofNat 114, Char.ofNat 101, Char.ofNat 112,
  Char.ofNat 108, Char.ofNat 97, Char.ofNat 121, Char.ofNat 118, Char.ofNat 101, Char.ofNat 114, Char.ofNat 105, Char.ofNat 102, Char.ofNat 105, Char.ofNat 101, Char.ofNat 114, Char.ofNat 47,
  Char.ofNat 108, Char.ofNat 97, Char.ofNat 119, Char.ofNat 115, Char.ofNat 46, Char.ofNat 70, Char.ofNat 110, Char.ofNat 69, Char.ofNat 120, Char.ofNat 97, Char.ofNat 99, Char.ofNat 116,
  Char.ofNat 69, Char.ofNat 110, Char.ofNat 103, Char.ofNat 105, Char.ofNat 110, Char.ofNat 101, Char.ofNat 86, Char.ofNat 97, Char.ofNat 108, Char.ofNat 105, Char.ofNat 100, Char.ofNat 32,
  Char.ofNat 108, Char.ofNat 111, Char.ofNat 111, Char.ofNat 112, Char.ofNat 46, Char.ofNat 101, Char.ofNat 120, Char.ofNat 97, Char.ofNat 109, Char.ofNat 112, Char.ofNat 108, Char.ofNat 101,
  Char.ofNat 47, Char.ofNat 114, Char.ofNat 101, Char.ofNat 112, Char.ofNat 108, Char.ofNat 97, Char.ofNat 121, Char.ofNat 118, Char.ofNat 101, Char.ofNat 114, Char.ofNat 105, Char.ofNat 102,
  Char.ofNat 105, Char.ofNat 101, Char.ofNat 114, Char.ofNat 47, Char.ofNat 108, Char.ofNat 97, Char.ofNat 119, Char.ofNat 115, Char.ofNat 46, Char.ofNat 70, Char.ofNat 110, Char.ofNat 69,
  Char.ofNat 120, Char.ofNat 97, Char.ofNat 99, Char.ofNat 116, Char.ofNat 69, Char.ofNat 110, Char.ofNat 103, Char.ofNat 105, Char.ofNat 110, Char.ofNat 101, Char.ofNat 72, Char.ofNat 97,
  Char.ofNat 115, Char.ofNat 104, Char.ofNat 32, Char.ofNat 108, Char.ofNat 111, Char.ofNat 111, Char.ofNat 112, Char.ofNat 46, Char.ofNat 101, Char.ofNat 120, Char.ofNat 97, Char.ofNat 109,
  Char.ofNat 112, Char.ofNat 108, Char.ofNat 101, Char.ofNat 47, Char.ofNat 114, Char.ofNat 101, Char.ofNat 112, Char.ofNat 108, Char.ofNat 97, Char.ofNat 121, Char.ofNat 118, Char.ofNat 101,
  Char.ofNat 114, Char.ofNat 105, Char.ofNat 102, Char.ofNat 105, Char.ofNat 101, Char.ofNat 114, Char.ofNat 47, Char.ofNat 108, Char.ofNat 97, Char.ofNat 119, Char.ofNat 115, Char.ofNat 46,
  Char.ofNat 70, Char.ofNat 110, Char.ofNat 69, Char.ofNat 120, Char.ofNat 97, Char.ofNat 99, Char.ofNat 116, Char.ofNat 69, Char.ofNat 110, Char.ofNat 103, Char.ofNat 105, Char.ofNat 110,
  Char.ofNat 101, Char.ofNat 83, Char.ofNat 112, Char.ofNat 101, Char.ofNat 101, Char.ofNat 100]
set_option maxRecDepth 100000 in
theorem headEq : Try.prog.initOrder = String.ofList headSigns := by kernel_rfl
theorem headL : Try.prog.initOrder.toList = headSigns := (congrArg String.toList headEq).trans String.toList_ofList
/-- The head's words behind the harness's sum. -/
def headWords : List (List Char) := [
  [Char.ofNat 99, Char.ofNat 117, Char.ofNat 116],
  [Char.ofNat 97, Char.ofNat 116],
  [Char.ofNat 108, Char.ofNat 111, Char.ofNat 111, Char.ofNat 112, Char.ofNat 46, Char.ofNat 101, Char.ofNat 120, Char.ofNat 97, Char.ofNat 109, Char.ofNat 112, Char.ofNat 108, Char.ofNat 101, Char.ofNat 47, Char.ofNat 114, Char.ofNat 101, Char.ofNat 112, Char.ofNat 108, Char.ofNat 97, Char.ofNat 121, Char.ofNat 118, Char.ofNat 101, Char.ofNat 114, Char.ofNat 105, Char.ofNat 102, Char.ofNat 105, Char.ofNat 101, Char.ofNat 114, Char.ofNat 47, Char.ofNat 108, Char.ofNat 97, Char.ofNat 119, Char.ofNat 115, Char.ofNat 46, Char.ofNat 70, Char.ofNat 110, Char.ofNat 83, Char.ofNat 116, Char.ofNat 97, Char.ofNat 114, Char.ofNat 116],
  [Char.ofNat 108, Char.ofNat 111, Char.ofNat 111, Char.ofNat 112, Char.ofNat 46, Char.ofNat 101, Char.ofNat 120, Char.ofNat 97, Char.ofNat 109, Char.ofNat 112, Char.ofNat 108, Char.ofNat 101, Char.ofNat 47, Char.ofNat 114, Char.ofNat 101, Char.ofNat 112, Char.ofNat 108, Char.ofNat 97, Char.ofNat 121, Char.ofNat 118, Char.ofNat 101, Char.ofNat 114, Char.ofNat 105, Char.ofNat 102, Char.ofNat 105, Char.ofNat 101, Char.ofNat 114, Char.ofNat 47, Char.ofNat 108, Char.ofNat 97, Char.ofNat 119, Char.ofNat 115, Char.ofNat 46, Char.ofNat 70, Char.ofNat 110, Char.ofNat 69, Char.ofNat 110, Char.ofNat 103, Char.ofNat 105, Char.ofNat 110, Char.ofNat 101, Char.ofNat 72, Char.ofNat 97, Char.ofNat 115, Char.ofNat 104],
  [Char.ofNat 108, Char.ofNat 111, Char.ofNat 111, Char.ofNat 112, Char.ofNat 46, Char.ofNat 101, Char.ofNat 120, Char.ofNat 97, Char.ofNat 109, Char.ofNat 112, Char.ofNat 108, Char.ofNat 101, Char.ofNat 47, Char.ofNat 114, Char.ofNat 101, Char.ofNat 112, Char.ofNat 108, Char.ofNat 97, Char.ofNat 121, Char.ofNat 118, Char.ofNat 101, Char.ofNat 114, Char.ofNat 105, Char.ofNat 102, Char.ofNat 105, Char.ofNat 101, Char.ofNat 114, Char.ofNat 47, Char.ofNat 108, Char.ofNat 97, Char.ofNat 119, Char.ofNat 115, Char.ofNat 46, Char.ofNat 70, Char.ofNat 110, Char.ofNat 69, Char.ofNat 110, Char.ofNat 103, Char.ofNat 105, Char.ofNat 110, Char.ofNat 101, Char.ofNat 72, Char.ofNat 97, Char.ofNat 115, Char.ofNat 104, Char.ofNat 65, Char.ofNat 116],
  [Char.ofNat 108, Char.ofNat 111, Char.ofNat 111, Char.ofNat 112, Char.ofNat 46, Char.ofNat 101, Char.ofNat 120, Char.ofNat 97, Char.ofNat 109, Char.ofNat 112, Char.ofNat 108, Char.ofNat 101, Char.ofNat 47, Char.ofNat 114, Char.ofNat 101, Char.ofNat 112, Char.ofNat 108, Char.ofNat 97, Char.ofNat 121, Char.ofNat 118, Char.ofNat 101, Char.ofNat 114, Char.ofNat 105, Char.ofNat 102, Char.ofNat 105, Char.ofNat 101, Char.ofNat 114, Char.ofNat 47, Char.ofNat 108, Char.ofNat 97, Char.ofNat 119, Char.ofNat 115, Char.ofNat 46, Char.ofNat 70, Char.ofNat 110, Char.ofNat 83, Char.ofNat 112, Char.ofNat 101, Char.ofNat 101, Char.ofNat 100],
  [Char.ofNat 108, Char.ofNat 111, Char.ofNat 111, Char.ofNat 112, Char.ofNat 46, Char.ofNat 101, Char.ofNat 120, Char.ofNat 97, Char.ofNat 109, Char.ofNat 112, Char.ofNat 108, Char.ofNat 101, Char.ofNat 47, Char.ofNat 114, Char.ofNat 101, Char.ofNat 112, Char.ofNat 108, Char.ofNat 97, Char.ofNat 121, Char.ofNat 118, Char.ofNat 101, Char.ofNat 114, Char.ofNat 105, Char.ofNat 102, Char.ofNat 105, Char.ofNat 101, Char.ofNat 114, Char.ofNat 47, Char.ofNat 108, Char.ofNat 97, Char.ofNat 119, Char.ofNat 115, Char.ofNat 46, Char.ofNat 70, Char.ofNat 110, Char.ofNat 69, Char.ofNat 120, Char.ofNat 97, Char.ofNat 99, Char.ofNat 116, Char.ofNat 69, Char.ofNat 110, Char.ofNat 103, Char.ofNat 105, Char.ofNat 110, Char.ofNat 101, Char.ofNat 83, Char.ofNat 116, Char.ofNat 97, Char.ofNat 114, Char.ofNat 116],
  [Char.ofNat 108, Char.ofNat 111, Char.ofNat 111, Char.ofNat 112, Char.ofNat 46, Char.ofNat 101, Char.ofNat 120, Char.ofNat 97, Char.ofNat 109, Char.ofNat 112, Char.ofNat 108, Char.ofNat 101, Char.ofNat 47, Char.ofNat 114, Char.ofNat 101, Char.ofNat 112, Char.ofNat 108, Char.ofNat 97, Char.ofNat 121, Char.ofNat 118, Char.ofNat 101, Char.ofNat 114, Char.ofNat 105, Char.ofNat 102, Char.ofNat 105, Char.ofNat 101, Char.ofNat 114, Char.ofNat 47, Char.ofNat 108, Char.ofNat 97, Char.ofNat 119, Char.ofNat 115, Char.ofNat 46, Char.ofNat 70, Char.ofNat 110, Char.ofNat 69, Char.ofNat 120, Char.ofNat 97, Char.ofNat 99, Char.ofNat 116, Char.ofNat 69, Char.ofNat 110, Char.ofNat 103, Char.ofNat 105, Char.ofNat 110, Char.ofNat 101, Char.ofNat 86, Char.ofNat 97, Char.ofNat 108, Char.ofNat 105, Char.ofNat 100],
  [Char.ofNat 108, Char.ofNat 111, Char.ofNat 111, Char.ofNat 112, Char.ofNat 46, Char.ofNat 101, Char.ofNat 120, Char.ofNat 97, Char.ofNat 109, Char.ofNat 112, Char.ofNat 108, Char.ofNat 101, Char.ofNat 47, Char.ofNat 114, Char.ofNat 101, Char.ofNat 112, Char.ofNat 108, Char.ofNat 97, Char.ofNat 121, Char.ofNat 118, Char.ofNat 101, Char.ofNat 114, Char.ofNat 105, Char.ofNat 102, Char.ofNat 105, Char.ofNat 101, Char.ofNat 114, Char.ofNat 47, Char.ofNat 108, Char.ofNat 97, Char.ofNat 119, Char.ofNat 115, Char.ofNat 46, Char.ofNat 70, Char.ofNat 110, Char.ofNat 69, Char.ofNat 120, Char.ofNat 97, Char.ofNat 99, Char.ofNat 116, Char.ofNat 69, Char.ofNat 110, Char.ofNat 103, Char.ofNat 105, Char.ofNat 110, Char.ofNat 101, Char.ofNat 72, Char.ofNat 97, Char.ofNat 115, Char.ofNat 104],
  [Char.ofNat 108, Char.ofNat 111, Char.ofNat 111, Char.ofNat 112, Char.ofNat 46, Char.ofNat 101, Char.ofNat 120, Char.ofNat 97, Char.ofNat 109, Char.ofNat 112, Char.ofNat 108, Char.ofNat 101, Char.ofNat 47, Char.ofNat 114, Char.ofNat 101, Char.ofNat 112, Char.ofNat 108, Char.ofNat 97, Char.ofNat 121, Char.ofNat 118, Char.ofNat 101, Char.ofNat 114, Char.ofNat 105, Char.ofNat 102, Char.ofNat 105, Char.ofNat 101, Char.ofNat 114, Char.ofNat 47, Char.ofNat 108, Char.ofNat 97, Char.ofNat 119, Char.ofNat 115, Char.ofNat 46, Char.ofNat 70, Char.ofNat 110, Char.ofNat 69, Char.ofNat 120, Char.ofNat 97, Char.ofNat 99, Char.ofNat 116, Char.ofNat 69, Char.ofNat 110, Char.ofNat 103, Char.ofNat 105, Char.ofNat 110, Char.ofNat 101, Char.ofNat 83, Char.ofNat 112, Char.ofNat 101, Char.ofNat 101, Char.ofNat 100]]
set_option maxRecDepth 100000 in
theorem words : behindMainWord (wordsSigns headSigns) = headWords := by kernel_rfl
theorem own : ownKnob Try.prog.godebug = none := by kernel_rfl
theorem laidOut : laidOutB Try.prog = true := by kernel_rfl
theorem rowed : mapsRowed Try.prog = true := by kernel_rfl
theorem heard : Try.prog.stopsHeard = true := by kernel_rfl
/-- The first word of a plain cut's head. -/
def cutWord : List Char := [Char.ofNat 99, Char.ofNat 117, Char.ofNat 116]
theorem strip_cut (rest : List (List Char)) : stripLifts liftWords (cutWord :: rest) = ([], cutWord :: rest) := by kernel_rfl
theorem enters_of {P : Program} {l : List Char} {rest : List (List Char)} (e : P.initOrder.toList = l) (w : behindMainWord (wordsSigns l) = cutWord :: rest) (h1 : P.laysLater = false) (h2 : P.bearsReflect = false) (h3 : P.doorFits [] = true) : P.mayEnter = true := by
  unfold Program.mayEnter
  rw [e, w]
  simp only [strip_cut, h1, h2, h3]
  kernel_rfl
theorem make_of {P : Program} {l : List Char} {rest : List (List Char)} (e : P.initOrder.toList = l) (w : behindMainWord (wordsSigns l) = cutWord :: rest) : P.make = some .cut := by
  unfold Program.make
  rw [e, w]
  kernel_rfl
theorem lays : Try.prog.laysLater = false := by kernel_rfl
theorem reflects : Try.prog.bearsReflect = false := by kernel_rfl
theorem door : Try.prog.doorFits [] = true := by kernel_rfl
theorem enters : Try.prog.mayEnter = true := enters_of (rest := headWords.tail) headL words lays reflects door
theorem lifts : Try.prog.liftsFinal = false := by
  unfold Program.liftsFinal Program.headLifts
  rw [headL, words]
  kernel_rfl
theorem made : Try.prog.make = some .cut := make_of (rest := headWords.tail) headL words
/-- The harness's sum. -/
def sumSigns : List Char := [Char.ofNat 99, Char.ofNat 49, Char.ofNat 57, Char.ofNat 55, Char.ofNat 101, Char.ofNat 50, Char.ofNat 55, Char.ofNat 99, Char.ofNat 51, Char.ofNat 53, Char.ofNat 55, Char.ofNat 98, Char.ofNat 56, Char.ofNat 53, Char.ofNat 48, Char.ofNat 55, Char.ofNat 51, Char.ofNat 99, Char.ofNat 53, Char.ofNat 51, Char.ofNat 57, Char.ofNat 102, Char.ofNat 50, Char.ofNat 50, Char.ofNat 57, Char.ofNat 98, Char.ofNat 97, Char.ofNat 49, Char.ofNat 57, Char.ofNat 97, Char.ofNat 100, Char.ofNat 99, Char.ofNat 53, Char.ofNat 101, Char.ofNat 101, Char.ofNat 97, Char.ofNat 98, Char.ofNat 49, Char.ofNat 48, Char.ofNat 98, Char.ofNat 54, Char.ofNat 97, Char.ofNat 54, Char.ofNat 102, Char.ofNat 48, Char.ofNat 51, Char.ofNat 99, Char.ofNat 99, Char.ofNat 49, Char.ofNat 51, Char.ofNat 97, Char.ofNat 52, Char.ofNat 56, Char.ofNat 48, Char.ofNat 51, Char.ofNat 102, Char.ofNat 97, Char.ofNat 57, Char.ofNat 51, Char.ofNat 48, Char.ofNat 100, Char.ofNat 101, Char.ofNat 52, Char.ofNat 101]
theorem sumEq : ("c197e27c357b85073c539f229ba19adc5eeab10b6a6f03cc13a4803fa930de4e" : String) = String.ofList sumSigns := by kernel_rfl
theorem sumL : ("c197e27c357b85073c539f229ba19adc5eeab10b6a6f03cc13a4803fa930de4e" : String).toList = sumSigns := (congrArg String.toList sumEq).trans String.toList_ofList
set_option maxRecDepth 100000 in
theorem mainIs : Try.prog.mainIs = some (true, ("c197e27c357b85073c539f229ba19adc5eeab10b6a6f03cc13a4803fa930de4e" : String).toList) := by
  unfold Program.mainIs
  rw [headL, sumL]
  kernel_rfl
theorem keys : Try.prog.plainKeys = true := by kernel_rfl

end Go.Proofs.Ytnoenjociioffab
