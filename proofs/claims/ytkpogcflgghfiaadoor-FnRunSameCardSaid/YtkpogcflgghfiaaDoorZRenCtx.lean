import Derived.Test.YtkpogcflgghfiaaDoorZRen2
import Derived.Test.YtkpogcflgghfiaaDoorProg
import Derived.KernelRfl
import Derived.Test.YtkpogcflgghfiaaDoorZDrawLev
import Derived.Test.YtkpogcflgghfiaaDoorZInRow
import Derived.Test.YtkpogcflgghfiaaDoorZEngC
import Derived.Test.YtkpogcflgghfiaaDoorZVecDir
import Derived.Test.YtkpogcflgghfiaaDoorZEngG
import Derived.Test.YtkpogcflgghfiaaDoorZEngP
import Derived.Laws.StructEq
set_option linter.all false
set_option maxRecDepth 100000
set_option maxHeartbeats 8000000
namespace Go.Proofs.YtkpogcflgghfiaaDoor
open Ren
noncomputable def C9 (f:Nat):Bool:=Nat.testBit 996926067441087817595461273432882816 f
noncomputable def Do (n:Nat):Bool:=Nat.beq n 0
theorem SL {f:Nat} (h:C9 f=true):f<126:=by
 by_cases hf:f<126
 · exact hf
 · exfalso
   unfold C9 at h;rw [Nat.testBit_lt_two_pow (Nat.lt_of_lt_of_le (show 996926067441087817595461273432882816<2 ^ 126 by decide) (Nat.pow_le_pow_right (by decide) (Nat.le_of_not_lt hf)))] at h;cases h
theorem Rj:(List.range 126).all (fun f=>!C9 f||KI Tryd.prog C9 Do f)=true:=by kernel_rfl
theorem SN (f:FuncId) (h:C9 f=true):KI Tryd.prog C9 Do f=true:=by
 have:=List.all_eq_true.1 Rj f (List.mem_range.2 (SL h))
 rwa [h,Bool.not_true,Bool.false_or] at this
noncomputable abbrev XR:Ctx:=Fp Tryd.prog C9 Do
abbrev gR:Nat→Prop:=RA Do
theorem Bc:Lawful XR:=Q7 SN
theorem Bd:CodeLaws XR gR:=ND
theorem AH:XR.C (.refuse ""):=rfl
end Go.Proofs.YtkpogcflgghfiaaDoor
namespace Go.Proofs.YtkpogcflgghfiaaDoor
open Go.RowKit
open M
open Ren
structure Hp (h0:Array Obj) (u:World):Prop where
 size:h0.size≤u.heap.size
 block:∀ j,j<h0.size→u.heap[j]?=h0[j]?
theorem Hp.step {h0:Array Obj} {u u':World} (h:Hp h0 u) (B:Below u.heap.size u u'):Hp h0 u':=⟨Nat.le_trans h.size B.size,fun j hj=>(B.block j (Nat.lt_of_lt_of_le hj h.size)).trans (h.block j hj)⟩
theorem Hp.kept {h0:Array Obj} {u u':World} {b:Nat} (h:Hp h0 u) (K:Kept b u u') (hb:h0.size≤b):Hp h0 u':=⟨Nat.le_trans h.size K.size,fun j hj=>(K.block j (Nat.lt_of_lt_of_le hj h.size) (by omega)).trans (h.block j hj)⟩
theorem Hp.same {h0:Array Obj} {u u':World} (h:Hp h0 u) (e:u'.heap=u.heap):Hp h0 u':=⟨e▸h.size,fun j hj=>e▸h.block j hj⟩
theorem Hp.refl {u:World} {h0:Array Obj} (e:u.heap=h0):Hp h0 u:=⟨by rw [e]; exact Nat.le_refl _,fun j _=>by rw [e]⟩
theorem CellsAt.same {u u':World} {b:Nat} {vs:List Value} (h:CellsAt u b vs) (e:u'.heap=u.heap):CellsAt u' b vs:=h.of (by rw [e]) (by rw [e]; exact Nat.le_refl _)
section
variable {w u:World}
theorem Bt (h:Hp (vh w w.heap.size) u) {b o:Nat} (hb:b<w.heap.size) {v:Value} (hv:w.cell? ⟨b,o,none⟩=some v):u.cell? ⟨b,o,none⟩=some (vl v) :=
 MR (Nat.le_refl _) hb (h.block b (by rw [EP (Nat.le_refl _)]; exact hb)) hv
theorem JE (h:Hp (vh w w.heap.size) u) {b:Nat} (hb:b<w.heap.size):b<u.heap.size:=Nat.lt_of_lt_of_le hb (by have:=h.size; rwa [EP (Nat.le_refl _)] at this)
theorem BoxAt.veil (h:Hp (vh w w.heap.size) u) {b o:Nat} {q:Bx} (hb:b<w.heap.size) (k:BoxAt w b o q):BoxAt u b o q :=
 ⟨(Bt h hb k.c0).trans (by rw [Cq]),(Bt h hb k.c1).trans (by rw [Cq]),(Bt h hb k.c2).trans (by rw [Cq]),(Bt h hb k.c3).trans (by rw [Cq])⟩
theorem Boxes.veil (h:Hp (vh w w.heap.size) u) {A:Option Addr} {n:Nat} {bs:List Bx} (k:Boxes w A n bs):Boxes u A n bs :=
 ⟨k.1,fun hn=>by
  obtain ⟨b,off,e,hb,hc⟩:=k.2 hn;exact ⟨b,off,e,JE h hb,fun k hk=>(hc k hk).veil h hb⟩⟩
theorem InAt.veil (h:Hp (vh w w.heap.size) u) {b o:Nat} {q:In} (hb:b<w.heap.size) (k:InAt w b o q):InAt u b o q :=
 ⟨(Bt h hb k.c0).trans (by rw [Cq]),(Bt h hb k.c1).trans (by rw [Cq]),(Bt h hb k.c2).trans (by rw [Rh])⟩
theorem Inputs.veil (h:Hp (vh w w.heap.size) u) {A:Option Addr} {n:Nat} {xs:List In} (k:Inputs w A n xs):Inputs u A n xs :=
 ⟨k.1,fun hn=>by
  obtain ⟨b,off,e,hb,hc⟩:=k.2 hn;exact ⟨b,off,e,JE h hb,fun k hk=>(hc k hk).veil h hb⟩⟩
theorem FP {a:Addr} {v:Value} (h:w.cell? a=some v):∃ c t f,w.heap[a.block]?=some (.cells c t f):=by
 unfold World.cell? at h;split at h
 · exact ⟨_,_,_,‹_›⟩
 · cases h
theorem Quarter.veil (h:Hp (vh w w.heap.size) u) (k:Quarter w):Quarter u:=by
 have hb:=D8 k.q0;exact ⟨(Bt h hb k.q0).trans (by rw [Cq]),(Bt h hb k.q1).trans (by rw [Cq]),(Bt h hb k.q2).trans (by rw [Cq]),(Bt h hb k.q3).trans (by rw [Cq]),
  (Bt h hb k.q4).trans (by rw [Cq]),(Bt h hb k.q5).trans (by rw [Cq]),(Bt h hb k.q6).trans (by rw [Cq]),(Bt h hb k.q7).trans (by rw [Cq]),JE h hb⟩
theorem BQ {L:Ren.Good} {A:Option Addr} {n c:Nat} (h:Cel w A):VR L (vr w w.heap.size) (.slice A n c) (.slice A n c):=by
 cases A with
 | none=>exact .snil n c
 | some a=>exact .slice n c ⟨⟨rfl,h.lt rfl,(h a rfl).2⟩,rfl,rfl⟩
theorem Boxes.cel {A:Option Addr} {n:Nat} {bs:List Bx} (k:Boxes w A n bs) (h:n=0→Cel w A):Cel w A:=by
 rcases Nat.eq_zero_or_pos n with rfl | hn
 · exact h rfl
 · obtain ⟨b,off,rfl,hb,hc⟩:=k.2 hn;intro a ha;cases ha
   exact ⟨rfl,FP (hc 0 hn).c0⟩
theorem Inputs.cel {A:Option Addr} {n:Nat} {xs:List In} (k:Inputs w A n xs) (h:n=0→Cel w A):Cel w A:=by
 rcases Nat.eq_zero_or_pos n with rfl | hn
 · exact h rfl
 · obtain ⟨b,off,rfl,hb,hc⟩:=k.2 hn;intro a ha;cases ha
   exact ⟨rfl,FP (hc 0 hn).c0⟩
end
section
variable {X:Ctx} {r:Rho} {u w:World}
theorem Bu (wr:WR X r u w) {b b' o:Nat} (hb:r b b') {v:Value} (hp:Plain v) (h:u.cell? ⟨b,o,none⟩=some v):w.cell? ⟨b',o,none⟩=some v:=by
 obtain ⟨v',h1,h2⟩:=wr.cell (a:=⟨b,o,none⟩) (b:=⟨b',o,none⟩) ⟨hb,rfl,rfl⟩ h;rw [h1,hp.eq h2]
theorem BoxAt.over (wr:WR X r u w) {b b' o:Nat} {q:Bx} (hb:r b b') (k:BoxAt u b o q):BoxAt w b' o q :=
 ⟨Bu wr hb (.int _ _) k.c0,Bu wr hb (.int _ _) k.c1,Bu wr hb (.int _ _) k.c2,Bu wr hb (.int _ _) k.c3⟩
theorem InAt.over (wr:WR X r u w) {b b' o:Nat} {q:In} (hb:r b b') (k:InAt u b o q):InAt w b' o q :=
 ⟨Bu wr hb (.int _ _) k.c0,Bu wr hb (.int _ _) k.c1,Bu wr hb (.bool _) k.c2⟩
theorem Ed {L:Ren.Good} {A:Option Addr} {n c:Nat} {v':Value} (h:VR L r (.slice A n c) v'):∃ A',v'=.slice A' n c∧(A=none∧A'=none∨∃ a a',A=some a∧A'=some a'∧AR r a a'):=by
 cases h with
 | snil n c=>exact ⟨none,rfl,.inl ⟨rfl,rfl⟩⟩
 | slice n c h=>exact ⟨_,rfl,.inr ⟨_,_,rfl,rfl,h⟩⟩
theorem Boxes.over (wr:WR X r u w) {A A':Option Addr} (hA:A=none∧A'=none∨∃ a a',A=some a∧A'=some a'∧AR r a a') {n:Nat} {bs:List Bx} (k:Boxes u A n bs):Boxes w A' n bs :=
 ⟨k.1,fun hn=>by
  obtain ⟨b,off,rfl,hb,hc⟩:=k.2 hn;rcases hA with ⟨h,_⟩ | ⟨a,⟨b',o',s'⟩,h,rfl,h1,h2,h3⟩
  · cases h
  · cases h
    dsimp only at h1 h2 h3;subst h2 h3;exact ⟨b',off,rfl,wr.lt h1,fun k hk=>(hc k hk).over wr h1⟩⟩
theorem Inputs.over (wr:WR X r u w) {A A':Option Addr} (hA:A=none∧A'=none∨∃ a a',A=some a∧A'=some a'∧AR r a a') {n:Nat} {xs:List In} (k:Inputs u A n xs):Inputs w A' n xs :=
 ⟨k.1,fun hn=>by
  obtain ⟨b,off,rfl,hb,hc⟩:=k.2 hn;rcases hA with ⟨h,_⟩ | ⟨a,⟨b',o',s'⟩,h,rfl,h1,h2,h3⟩
  · cases h
  · cases h
    dsimp only at h1 h2 h3;subst h2 h3;exact ⟨b',off,rfl,wr.lt h1,fun k hk=>(hc k hk).over wr h1⟩⟩
theorem Cel.over (wr:WR X r u w) {A A':Option Addr} (hA:A=none∧A'=none∨∃ a a',A=some a∧A'=some a'∧AR r a a') (k:Cel u A):Cel w A':=by
 rcases hA with ⟨_,rfl⟩ | ⟨a,a',rfl,rfl,h1,h2,h3⟩
 · intro a ha; cases ha
 · intro a2 ha2;cases ha2
   obtain ⟨k1,c,t,f,k2⟩:=k a rfl;refine ⟨h3▸k1,?_⟩;obtain ⟨o,o',e1,e2,e3⟩:=wr _ _ h1;rw [k2] at e1;cases e1
   cases e3
   exact ⟨_,_,_,e2⟩
theorem Quarter.over (wr:WR X r u w) (h0:r 0 0) (k:Quarter u):Quarter w :=
 ⟨Bu wr h0 (.int _ _) k.q0,Bu wr h0 (.int _ _) k.q1,Bu wr h0 (.int _ _) k.q2,Bu wr h0 (.int _ _) k.q3,Bu wr h0 (.int _ _) k.q4,Bu wr h0 (.int _ _) k.q5,Bu wr h0 (.int _ _) k.q6,Bu wr h0 (.int _ _) k.q7,wr.lt h0⟩
end
structure Lv where
 i:Int
 t:Int
 x:Int
 y:Int
 A:Option Addr
 n:Nat
 c:Nat
 G:Option Addr
 m:Nat
 kk:Nat
 fp:Int
 fq:Int
 fs:Int
 fz:Int
 b:Int
 ws:List Bx
 gs:List Bx
abbrev Lv.cs (L:Lv):List Value:=AV L.i L.t L.x L.y L.A L.n L.c L.G L.m L.kk L.fp L.fq L.fs L.fz L.b
abbrev Lv.val (L:Lv):Value:=CR L.i L.t L.x L.y L.A L.n L.c L.G L.m L.kk L.fp L.fq L.fs L.fz L.b
def Lv.ok (L:Lv):Bool:=Cm L.i L.t L.x L.y L.ws L.gs L.fp L.fq L.fs L.fz L.b
structure Lv.At (L:Lv) (w:World):Prop where
 I:Boxes w L.A L.n L.ws
 J:Boxes w L.G L.m L.gs
 n:L.n≤281474976710656
 m:L.m≤281474976710656
 ca:Cel w L.A
 cg:Cel w L.G
abbrev M.svs (s:St):List Value:=Ax s.k s.ax s.ay s.fx s.fy s.u s.g s.d s.o
abbrev M.sva (s:St):Value:=BZ s.k s.ax s.ay s.fx s.fy s.u s.g s.d s.o
abbrev M.z0:St:=⟨0,0,0,0,0,0,0,false,false⟩
def Lv.s0 (L:Lv):St:=if L.ok then ⟨0,L.x,L.y,0,0,0,0,false,false⟩ else z0
def Lv.nx (L:Lv) (s:St) (q:In):St:=esS L.i L.t L.x L.y L.ws L.gs L.fp L.fq L.fs L.fz L.b s.k s.ax s.ay s.fx s.fy s.u s.g s.d s.o q.s q.p q.z
def Lv.run (L:Lv) (xs:List In):St:=xs.foldl L.nx L.s0
def Lv.tail (L:Lv) (s:St):List In→List Value
 | []=>[]
 | q::xs=>sva (L.nx s q)::L.tail (L.nx s q) xs
theorem Ie (s:St):Flat (sva s):=.agg fun x hx=>by
 simp only [List.mem_toArray,List.mem_cons,List.not_mem_nil,or_false] at hx;rcases hx with rfl | rfl | rfl | rfl | rfl | rfl | rfl | rfl | rfl<;>first | exact .int _ _ | exact .bool _
theorem Lv.At.self {L:Lv} {w:World} (h:L.At w) {K:Ren.Good}:VR K (vr w w.heap.size) L.val L.val:=by
 refine .agg rfl fun i x y hx hy=>?_;rw [hx] at hy;cases hy
 have:=List.mem_of_getElem? (l:=L.cs) (i:=i) (a:=x) (by simpa using hx);simp only [List.mem_cons,List.not_mem_nil,or_false] at this;rcases this with rfl | rfl | rfl | rfl | rfl | rfl | rfl | rfl | rfl | rfl | rfl<;>first | exact .int _ _ | exact BQ h.ca | exact BQ h.cg
end Go.Proofs.YtkpogcflgghfiaaDoor
namespace Go.Proofs.YtkpogcflgghfiaaDoor
open Go.RowKit
open M
theorem Ig (i t x y:Int) (A:Option Addr) (n c:Nat) (G:Option Addr) (m kk:Nat) (fp fq fs fz b:Int) (ws gs:List Bx) (k ax ay fx fy u g:Int) (d o:Bool) (s p:Int) (z:Bool) {K' X' Y' P' Q' U' V':Int} {D' O':Bool} {r:Bool} (hE:esS i t x y ws gs fp fq fs fz b k ax ay fx fy u g d o s p z=⟨K',X',Y',P',Q',U',V',D',O'⟩) (hr:eoB i t x y ws gs fp fq fs fz b k ax ay fx fy u g d o s p z=r) (hn:n≤281474976710656) (hm:m≤281474976710656) (w:World) (I:Boxes w A n ws) (J:Boxes w G m gs) (R:Quarter w) :
 Calls Tryd.prog 10 #[CR i t x y A n c G m kk fp fq fs fz b,BZ k ax ay fx fy u g d o,Dx s p z] w fun e w'=>e=.returned (.tuple #[BZ K' X' Y' P' Q' U' V' D' O',.bool r])∧Below w.heap.size w w':=by
 refine (M8 i t x y A n c G m kk fp fq fs fz b ws gs k ax ay fx fy u g d o s p z w I J hn hm R).mono ?_;rintro e w' ⟨⟨_,_,_,_,_,_,_,_,_,e1,rfl⟩,B⟩;rw [hE] at e1;injection e1 with a1 a2 a3 a4 a5 a6 a7 a8 a9;subst a1 a2 a3 a4 a5 a6 a7 a8 a9 hr;exact ⟨rfl,B⟩
end Go.Proofs.YtkpogcflgghfiaaDoor
namespace Go.Proofs.YtkpogcflgghfiaaDoor
open Go.RowKit
open M
theorem Ih (x y:Int) (w:World):(Op.equalIn 9999 24 (.agg #[.int .i64 x,.int .i64 y]) (.agg #[.int .i64 x,.int .i64 y])).run Tryd.prog w=.ok true w:=by
 have u3:=Tryd.underlying3;have a3:=Tryd.isAgg3;have z3:=Tryd.sizeOf3;have hS:Tryd.prog.underlying 24=some (.struct (Tryd.prog.fieldsOf 24)):=by kernel_rfl
 have hp:Tryd.prog.stoodInHeld 24=false:=by kernel_rfl
 rw [show (9999:Nat)=9998+1 from rfl,run_equalIn_agg w 9998 24 _ _ hS hp];clear hS;simp only [Program.fieldsOf,Tryd.underlying24];go_simp
theorem GI (k ax ay fx fy u g:Int) (d o:Bool) (w:World):(Op.equalIn 10000 34 (BZ k ax ay fx fy u g d o) (BZ k ax ay fx fy u g d o)).run Tryd.prog w=.ok true w:=by
 have u3:=Tryd.underlying3;have a3:=Tryd.isAgg3;have z3:=Tryd.sizeOf3;have u4:=Tryd.underlying4;have a4:=Tryd.isAgg4;have z4:=Tryd.sizeOf4;have a5:=Tryd.isAgg24;have z5:=Tryd.sizeOf24;have V1:=Ih ax ay w;have V2:=Ih fx fy w;have hS:Tryd.prog.underlying 34=some (.struct (Tryd.prog.fieldsOf 34)):=by kernel_rfl
 have hp:Tryd.prog.stoodInHeld 34=false:=by kernel_rfl
 rw [show (10000:Nat)=9999+1 from rfl,run_equalIn_agg w 9999 34 _ _ hS hp];clear hS;simp only [Program.fieldsOf,Tryd.underlying34];go_simp
theorem DT (k ax ay fx fy u g:Int) (d o:Bool) (w:World):(binOp .eql 34 (BZ k ax ay fx fy u g d o) (BZ k ax ay fx fy u g d o)).run Tryd.prog w=.ok (.bool true) w:=by
 rw [run_eql_struct,GI];rfl
theorem EQ (k ax ay fx fy u g:Int) (d o:Bool) (w:World):(binOp .neq 34 (BZ k ax ay fx fy u g d o) (BZ k ax ay fx fy u g d o)).run Tryd.prog w=.ok (.bool false) w:=by
 rw [run_neq_struct,GI];rfl
theorem Ct:Tryd.prog.eqGuardType Tryd.prog.depth 34=false:=by kernel_rfl
end Go.Proofs.YtkpogcflgghfiaaDoor
