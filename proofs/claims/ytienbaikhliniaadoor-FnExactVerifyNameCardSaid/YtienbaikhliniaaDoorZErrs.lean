import Derived.WalkSmall
import Derived.Test.YtienbaikhliniaaDoorZRowS
set_option linter.all false
set_option maxRecDepth 100000
set_option maxHeartbeats 8000000
open Go.Lib
namespace Go.Proofs.YtienbaikhliniaaDoor
open Go.RowKit
abbrev AE(l:List UInt8):ByteArray:=⟨l.toArray⟩
def ErrAt(w:World)(g:Nat)(s:List UInt8):Prop:=∃ a:Addr,w.cell? ⟨g,0,none⟩=some (.iface 39 (.pointer (some a)))/\w.cell? a=some (.string (AE s))
structure Errs(w:World):Prop where
 errText:ErrAt w 0 [116,101,120,116]
 errLevel:ErrAt w 1 [108,101,118,101,108]
 errKey:ErrAt w 2 [107,101,121]
 errTag:ErrAt w 3 [116,97,103]
 errInput:ErrAt w 4 [105,110,112,117,116]
 errRange:ErrAt w 5 [114,97,110,103,101]
 errHash:ErrAt w 6 [104,97,115,104]
 errOpen:ErrAt w 7 [111,112,101,110]
 errScore:ErrAt w 8 [115,99,111,114,101]
theorem Aa{w:World}{p:Addr}{v:Value}(h:w.cell? p=some v):p.block<w.heap.size:=by
 rcases Nat.lt_or_ge p.block w.heap.size with k | k
 . exact k
 . simp[World.cell?,Array.getElem?_eq_none k] at h
theorem ErrAt.step{w w':World}{g:Nat}{s:List UInt8}(h:ErrAt w g s)(B:Below w.heap.size w w'):ErrAt w' g s:=by
 obtain⟨a,h1,h2⟩:=h;exact⟨a,(B.cell (Aa h1)).trans h1,(B.cell (Aa h2)).trans h2⟩
theorem Errs.step{w w':World}(h:Errs w)(B:Below w.heap.size w w'):Errs w' :=
 ⟨h.errText.step B,h.errLevel.step B,h.errKey.step B,h.errTag.step B,h.errInput.step B,h.errRange.step B,h.errHash.step B,h.errOpen.step B,h.errScore.step B⟩
def Bn(w w':World)(e:Ending):Prop:=∃ b,e=.returned (.slice (some ⟨b,0,none⟩) 9 9)/\Below w.heap.size w w'/\w.heap.size<=b/\b<w'.heap.size /\
 (∃ a:Addr,w'.cell? ⟨b,0,none⟩=some (.iface 39 (.pointer (some a)))/\w'.cell? a=some (.string (AE [116,101,120,116]))) /\
 (∃ a:Addr,w'.cell? ⟨b,1,none⟩=some (.iface 39 (.pointer (some a)))/\w'.cell? a=some (.string (AE [108,101,118,101,108]))) /\
 (∃ a:Addr,w'.cell? ⟨b,2,none⟩=some (.iface 39 (.pointer (some a)))/\w'.cell? a=some (.string (AE [107,101,121]))) /\
 (∃ a:Addr,w'.cell? ⟨b,3,none⟩=some (.iface 39 (.pointer (some a)))/\w'.cell? a=some (.string (AE [116,97,103]))) /\
 (∃ a:Addr,w'.cell? ⟨b,4,none⟩=some (.iface 39 (.pointer (some a)))/\w'.cell? a=some (.string (AE [105,110,112,117,116]))) /\
 (∃ a:Addr,w'.cell? ⟨b,5,none⟩=some (.iface 39 (.pointer (some a)))/\w'.cell? a=some (.string (AE [114,97,110,103,101]))) /\
 (∃ a:Addr,w'.cell? ⟨b,6,none⟩=some (.iface 39 (.pointer (some a)))/\w'.cell? a=some (.string (AE [104,97,115,104]))) /\
 (∃ a:Addr,w'.cell? ⟨b,7,none⟩=some (.iface 39 (.pointer (some a)))/\w'.cell? a=some (.string (AE [111,112,101,110]))) /\
 (∃ a:Addr,w'.cell? ⟨b,8,none⟩=some (.iface 39 (.pointer (some a)))/\w'.cell? a=some (.string (AE [115,99,111,114,101])))
theorem AP(w:World)(E:Errs w):Calls Tryd.prog 10 #[] w fun e w'=>Bn w w' e:=by
 obtain⟨a0,p0,q0⟩:=E.errText;obtain⟨a1,p1,q1⟩:=E.errLevel;obtain⟨a2,p2,q2⟩:=E.errKey;obtain⟨a3,p3,q3⟩:=E.errTag;obtain⟨a4,p4,q4⟩:=E.errInput;obtain⟨a5,p5,q5⟩:=E.errRange;obtain⟨a6,p6,q6⟩:=E.errHash;obtain⟨a7,p7,q7⟩:=E.errOpen;obtain⟨a8,p8,q8⟩:=E.errScore;clear E;have q0:=hid q0;have q1:=hid q1;have q2:=hid q2;have q3:=hid q3;have q4:=hid q4;have q5:=hid q5;have q6:=hid q6;have q7:=hid q7;have q8:=hid q8;go_enter Tryd.func10,Tryd.ntmps10;go_wp2;go_ret
 have bel:=AL (An w) (.cells #[.iface 39 (.pointer (some a0)),.iface 39 (.pointer (some a1)),.iface 39 (.pointer (some a2)),.iface 39 (.pointer (some a3)),.iface 39 (.pointer (some a4)),.iface 39 (.pointer (some a5)),.iface 39 (.pointer (some a6)),.iface 39 (.pointer (some a7)),.iface 39 (.pointer (some a8))] 31)
 refine⟨w.heap.size,rfl,bel,Nat.le_refl _,by simp,⟨a0,by simp,(bel.cell (Aa q0.out)).trans q0.out⟩,⟨a1,by simp,(bel.cell (Aa q1.out)).trans q1.out⟩,⟨a2,by simp,(bel.cell (Aa q2.out)).trans q2.out⟩,⟨a3,by simp,(bel.cell (Aa q3.out)).trans q3.out⟩,⟨a4,by simp,(bel.cell (Aa q4.out)).trans q4.out⟩,⟨a5,by simp,(bel.cell (Aa q5.out)).trans q5.out⟩,⟨a6,by simp,(bel.cell (Aa q6.out)).trans q6.out⟩,⟨a7,by simp,(bel.cell (Aa q7.out)).trans q7.out⟩,⟨a8,by simp,(bel.cell (Aa q8.out)).trans q8.out⟩⟩
theorem A3(a:Addr):a.add 0=a:=by
 obtain⟨b,o,p⟩:=a;cases p<;>simp[Addr.add]
theorem Ac(a:Addr)(s:ByteArray)(w:World)(h:w.cell? a=some (.string s)):Calls Tryd.prog 27 #[.pointer (some a)] w fun e w'=>e=.returned (.string s)/\w=w':=by
 have h0:=A3 a;go_enter Tryd.func27,Tryd.ntmps27;go_wp2;go_ret;exact⟨rfl,rfl⟩
def vNames:List (List UInt8):=[[102,105,110,101],[116,101,120,116],[108,101,118,101,108],[107,101,121],[116,97,103],[105,110,112,117,116],[114,97,110,103,101],[104,97,115,104],[111,112,101,110],[115,99,111,114,101]]
def Ab(v:Int):List UInt8:=if 0<=v/\v<=9 then vNames.getD v.toNat [] else []
end Go.Proofs.YtienbaikhliniaaDoor
