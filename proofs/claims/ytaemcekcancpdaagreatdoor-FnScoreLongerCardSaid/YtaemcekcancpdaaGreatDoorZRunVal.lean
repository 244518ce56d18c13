import Derived.Test.YtaemcekcancpdaaGreatDoorZDrawLev
import Derived.Test.YtaemcekcancpdaaGreatDoorZEngC
import Derived.Test.YtaemcekcancpdaaGreatDoorZVecDir
import Derived.Test.YtaemcekcancpdaaGreatDoorZRenCtx
set_option linter.all false
set_option maxRecDepth 100000
set_option maxHeartbeats 8000000
namespace Go.Proofs.YtaemcekcancpdaaGreatDoor
open Go.RowKit
open M
open Ren
structure Hp(h0:Array Obj)(u:World):Prop where
 size:h0.size<=u.heap.size
 block:∀ j,j<h0.size->u.heap[j]?=h0[j]?
theorem Hp.step{h0:Array Obj}{u u':World}(h:Hp h0 u)(B:Below u.heap.size u u'):Hp h0 u':=⟨Nat.le_trans h.size B.size,fun j hj=>(B.block j (Nat.lt_of_lt_of_le hj h.size)).trans (h.block j hj)⟩
theorem Hp.kept{h0:Array Obj}{u u':World}{b:Nat}(h:Hp h0 u)(K:Kept b u u')(hb:h0.size<=b):Hp h0 u':=⟨Nat.le_trans h.size K.size,fun j hj=>(K.block j (Nat.lt_of_lt_of_le hj h.size) (by omega)).trans (h.block j hj)⟩
theorem Hp.same{h0:Array Obj}{u u':World}(h:Hp h0 u)(e:u'.heap=u.heap):Hp h0 u':=⟨e▸h.size,fun j hj=>e▸h.block j hj⟩
theorem Hp.refl{u:World}{h0:Array Obj}(e:u.heap=h0):Hp h0 u:=⟨by rw[e]; exact Nat.le_refl _,fun j _=>by rw[e]⟩
theorem CellsAt.same{u u':World}{b:Nat}{vs:List Value}(h:CellsAt u b vs)(e:u'.heap=u.heap):CellsAt u' b vs:=h.of (by rw[e]) (by rw[e]; exact Nat.le_refl _)
section
variable {w u:World}
theorem BA(h:Hp (vh w w.heap.size) u){b o:Nat}(hb:b<w.heap.size){v:Value}(hv:w.cell? ⟨b,o,none⟩=some v):u.cell? ⟨b,o,none⟩=some (vl v) :=
 Nu (Nat.le_refl _) hb (h.block b (by rw[DD (Nat.le_refl _)]; exact hb)) hv
theorem Kq(h:Hp (vh w w.heap.size) u){b:Nat}(hb:b<w.heap.size):b<u.heap.size:=Nat.lt_of_lt_of_le hb (by have:=h.size; rwa [DD (Nat.le_refl _)] at this)
theorem BoxAt.veil(h:Hp (vh w w.heap.size) u){b o:Nat}{q:Bx}(hb:b<w.heap.size)(k:BoxAt w b o q):BoxAt u b o q :=
 ⟨(BA h hb k.c0).trans (by rw[Cu]),(BA h hb k.c1).trans (by rw[Cu]),(BA h hb k.c2).trans (by rw[Cu]),(BA h hb k.c3).trans (by rw[Cu])⟩
theorem Boxes.veil(h:Hp (vh w w.heap.size) u){A:Option Addr}{n:Nat}{bs:List Bx}(k:Boxes w A n bs):Boxes u A n bs :=
 ⟨k.1,fun hn=>by
  obtain⟨b,off,e,hb,hc⟩:=k.2 hn;exact⟨b,off,e,Kq h hb,fun k hk=>(hc k hk).veil h hb⟩⟩
theorem InAt.veil(h:Hp (vh w w.heap.size) u){b o:Nat}{q:In}(hb:b<w.heap.size)(k:InAt w b o q):InAt u b o q :=
 ⟨(BA h hb k.c0).trans (by rw[Cu]),(BA h hb k.c1).trans (by rw[Cu]),(BA h hb k.c2).trans (by rw[Sb])⟩
theorem Inputs.veil(h:Hp (vh w w.heap.size) u){A:Option Addr}{n:Nat}{xs:List In}(k:Inputs w A n xs):Inputs u A n xs :=
 ⟨k.1,fun hn=>by
  obtain⟨b,off,e,hb,hc⟩:=k.2 hn;exact⟨b,off,e,Kq h hb,fun k hk=>(hc k hk).veil h hb⟩⟩
theorem F7{a:Addr}{v:Value}(h:w.cell? a=some v):∃ c t f,w.heap[a.block]?=some (.cells c t f):=by
 unfold World.cell? at h;split at h
 . exact⟨_,_,_,‹_›⟩
 . cases h
theorem Quarter.veil(h:Hp (vh w w.heap.size) u)(k:Quarter w):Quarter u:=by
 have hb:=Ef k.q0;exact⟨(BA h hb k.q0).trans (by rw[Cu]),(BA h hb k.q1).trans (by rw[Cu]),(BA h hb k.q2).trans (by rw[Cu]),(BA h hb k.q3).trans (by rw[Cu]),
  (BA h hb k.q4).trans (by rw[Cu]),(BA h hb k.q5).trans (by rw[Cu]),(BA h hb k.q6).trans (by rw[Cu]),(BA h hb k.q7).trans (by rw[Cu]),Kq h hb⟩
theorem Br{L:Ren.Good}{A:Option Addr}{n c:Nat}(h:Cel w A):VR L (vr w w.heap.size) (.slice A n c) (.slice A n c):=by
 cases A with
 | none=>exact .snil n c
 | some a=>exact .slice n c ⟨⟨rfl,h.lt rfl,(h a rfl).2⟩,rfl,rfl⟩
theorem Boxes.cel{A:Option Addr}{n:Nat}{bs:List Bx}(k:Boxes w A n bs)(h:n=0->Cel w A):Cel w A:=by
 rcases Nat.eq_zero_or_pos n with rfl | hn
 . exact h rfl
 . obtain⟨b,off,rfl,hb,hc⟩:=k.2 hn;intro a ha;cases ha
   exact⟨rfl,F7 (hc 0 hn).c0⟩
theorem Inputs.cel{A:Option Addr}{n:Nat}{xs:List In}(k:Inputs w A n xs)(h:n=0->Cel w A):Cel w A:=by
 rcases Nat.eq_zero_or_pos n with rfl | hn
 . exact h rfl
 . obtain⟨b,off,rfl,hb,hc⟩:=k.2 hn;intro a ha;cases ha
   exact⟨rfl,F7 (hc 0 hn).c0⟩
end
section
variable {X:Ctx} {r:Rho} {u w:World}
theorem BB(wr:WR X r u w){b b' o:Nat}(hb:r b b'){v:Value}(hp:Plain v)(h:u.cell? ⟨b,o,none⟩=some v):w.cell? ⟨b',o,none⟩=some v:=by
 obtain⟨v',h1,h2⟩:=wr.cell (a:=⟨b,o,none⟩) (b:=⟨b',o,none⟩) ⟨hb,rfl,rfl⟩ h;rw[h1,hp.eq h2]
theorem BoxAt.over(wr:WR X r u w){b b' o:Nat}{q:Bx}(hb:r b b')(k:BoxAt u b o q):BoxAt w b' o q :=
 ⟨BB wr hb (.int _ _) k.c0,BB wr hb (.int _ _) k.c1,BB wr hb (.int _ _) k.c2,BB wr hb (.int _ _) k.c3⟩
theorem InAt.over(wr:WR X r u w){b b' o:Nat}{q:In}(hb:r b b')(k:InAt u b o q):InAt w b' o q :=
 ⟨BB wr hb (.int _ _) k.c0,BB wr hb (.int _ _) k.c1,BB wr hb (.bool _) k.c2⟩
theorem CQ{L:Ren.Good}{A:Option Addr}{n c:Nat}{v':Value}(h:VR L r (.slice A n c) v'):∃ A',v'=.slice A' n c/\(A=none/\A'=none\/∃ a a',A=some a/\A'=some a'/\AR r a a'):=by
 cases h with
 | snil n c=>exact⟨none,rfl,.inl ⟨rfl,rfl⟩⟩
 | slice n c h=>exact⟨_,rfl,.inr ⟨_,_,rfl,rfl,h⟩⟩
theorem Boxes.over(wr:WR X r u w){A A':Option Addr}(hA:A=none/\A'=none\/∃ a a',A=some a/\A'=some a'/\AR r a a'){n:Nat}{bs:List Bx}(k:Boxes u A n bs):Boxes w A' n bs :=
 ⟨k.1,fun hn=>by
  obtain⟨b,off,rfl,hb,hc⟩:=k.2 hn;rcases hA with⟨h,_⟩ | ⟨a,⟨b',o',s'⟩,h,rfl,h1,h2,h3⟩
  . cases h
  . cases h
    dsimp only at h1 h2 h3;subst h2 h3;exact⟨b',off,rfl,wr.lt h1,fun k hk=>(hc k hk).over wr h1⟩⟩
theorem Inputs.over(wr:WR X r u w){A A':Option Addr}(hA:A=none/\A'=none\/∃ a a',A=some a/\A'=some a'/\AR r a a'){n:Nat}{xs:List In}(k:Inputs u A n xs):Inputs w A' n xs :=
 ⟨k.1,fun hn=>by
  obtain⟨b,off,rfl,hb,hc⟩:=k.2 hn;rcases hA with⟨h,_⟩ | ⟨a,⟨b',o',s'⟩,h,rfl,h1,h2,h3⟩
  . cases h
  . cases h
    dsimp only at h1 h2 h3;subst h2 h3;exact⟨b',off,rfl,wr.lt h1,fun k hk=>(hc k hk).over wr h1⟩⟩
theorem Cel.over(wr:WR X r u w){A A':Option Addr}(hA:A=none/\A'=none\/∃ a a',A=some a/\A'=some a'/\AR r a a')(k:Cel u A):Cel w A':=by
 rcases hA with⟨_,rfl⟩ | ⟨a,a',rfl,rfl,h1,h2,h3⟩
 . intro a ha; cases ha
 . intro a2 ha2;cases ha2
   obtain⟨k1,c,t,f,k2⟩:=k a rfl;refine⟨h3▸k1,?_⟩;obtain⟨o,o',e1,e2,e3⟩:=wr _ _ h1;rw[k2] at e1;cases e1
   cases e3
   exact⟨_,_,_,e2⟩
theorem Quarter.over(wr:WR X r u w)(h0:r 0 0)(k:Quarter u):Quarter w :=
 ⟨BB wr h0 (.int _ _) k.q0,BB wr h0 (.int _ _) k.q1,BB wr h0 (.int _ _) k.q2,BB wr h0 (.int _ _) k.q3,BB wr h0 (.int _ _) k.q4,BB wr h0 (.int _ _) k.q5,BB wr h0 (.int _ _) k.q6,BB wr h0 (.int _ _) k.q7,wr.lt h0⟩
end
structure Lv where
 i:Int
 t:Int
 x:Int
 y:Int
 A:Option Addr
 n:Nat
 c:Nat
 G:Option Addr
 m:Nat
 kk:Nat
 fp:Int
 fq:Int
 fs:Int
 fz:Int
 b:Int
 ws:List Bx
 gs:List Bx
abbrev Lv.cs(L:Lv):List Value:=AX L.i L.t L.x L.y L.A L.n L.c L.G L.m L.kk L.fp L.fq L.fs L.fz L.b
abbrev Lv.val(L:Lv):Value:=CX L.i L.t L.x L.y L.A L.n L.c L.G L.m L.kk L.fp L.fq L.fs L.fz L.b
def Lv.ok(L:Lv):Bool:=Cr L.i L.t L.x L.y L.ws L.gs L.fp L.fq L.fs L.fz L.b
structure Lv.At(L:Lv)(w:World):Prop where
 I:Boxes w L.A L.n L.ws
 J:Boxes w L.G L.m L.gs
 n:L.n<=281474976710656
 m:L.m<=281474976710656
 ca:Cel w L.A
 cg:Cel w L.G
abbrev M.svs(s:St):List Value:=AB s.k s.ax s.ay s.fx s.fy s.u s.g s.d s.o
abbrev M.sva(s:St):Value:=Cd s.k s.ax s.ay s.fx s.fy s.u s.g s.d s.o
abbrev M.z0:St:=⟨0,0,0,0,0,0,0,false,false⟩
def Lv.s0(L:Lv):St:=if L.ok then ⟨0,L.x,L.y,0,0,0,0,false,false⟩ else z0
def Lv.nx(L:Lv)(s:St)(q:In):St:=esS L.i L.t L.x L.y L.ws L.gs L.fp L.fq L.fs L.fz L.b s.k s.ax s.ay s.fx s.fy s.u s.g s.d s.o q.s q.p q.z
def Lv.run(L:Lv)(xs:List In):St:=xs.foldl L.nx L.s0
def Lv.tail(L:Lv)(s:St):List In->List Value
 | []=>[]
 | q::xs=>sva (L.nx s q)::L.tail (L.nx s q) xs
theorem IM(s:St):Flat (sva s):=.agg fun x hx=>by
 simp only[List.mem_toArray,List.mem_cons,List.not_mem_nil,or_false] at hx;rcases hx with rfl | rfl | rfl | rfl | rfl | rfl | rfl | rfl | rfl<;>first | exact .int _ _ | exact .bool _
theorem Lv.At.self{L:Lv}{w:World}(h:L.At w){K:Ren.Good}:VR K (vr w w.heap.size) L.val L.val:=by
 refine .agg rfl fun i x y hx hy=>?_;rw[hx] at hy;cases hy
 have:=List.mem_of_getElem? (l:=L.cs) (i:=i) (a:=x) (by simpa using hx);simp only[List.mem_cons,List.not_mem_nil,or_false] at this;rcases this with rfl | rfl | rfl | rfl | rfl | rfl | rfl | rfl | rfl | rfl | rfl<;>first | exact .int _ _ | exact Br h.ca | exact Br h.cg
open Go.RowKit
open M
open Ren
def cA:Code->Code | .seq a _=>a | c=>c
def cB:Code->Code | .seq _ b=>b | c=>c
def cI:Code->Code | .block _ a=>a | .loop a=>a | c=>c
def cO:Code->Array Oper | .region _ ops _=>ops | _=>#[]
noncomputable def Dr(f:Func):Code:=match f.body with | some c=>c | none=>.skip
noncomputable abbrev sB:Code:=Dr Tryz.f39
noncomputable def s0:Code:=cA sB
noncomputable def s1:Code:=cA (cB sB)
noncomputable def s2:Code:=cA (cB (cB sB))
noncomputable def sM:Code:=cB (cB (cB sB))
noncomputable def s3:Code:=cA (cA sM)
noncomputable def sL:Code:=cI (cI (cB (cA sM)))
noncomputable def s9:Code:=cB sM
noncomputable def s4:Code:=cA sL
noncomputable def sK:Code:=cI (cA (cB (cB sL)))
noncomputable def s5:Code:=cA sK
noncomputable def s6:Code:=cA (cB sK)
noncomputable def s7:Code:=cB (cB sK)
noncomputable def s8:Code:=cB (cB (cB sL))
theorem UK:sB=.seq s0 (.seq s1 (.seq s2 (.seq (.seq s3 (.block 0 (.loop sL))) s9))):=rfl
theorem SE:sL=.seq s4 (.seq (.cond (.tmp 20) .skip (.exit 0)) (.seq (.block 1 (.seq s5 (.seq s6 s7))) s8)):=rfl
abbrev TS(J:Nat->Value):Array Value:=#[J 0,J 1,J 2,J 3,J 4,J 5,J 6,J 7,J 8,J 9,J 10,J 11,J 12,J 13,J 14,J 15,J 16,J 17,J 18,J 19,J 20,J 21,J 22,J 23,J 24,J 25,J 26,J 27,J 28,J 29,J 30,J 31,J 32,J 33]
theorem F8{T:Array Value}(h:T.size=34):T=TS fun n=>T.getD n undef:=by
 refine Array.ext h fun i h1 h2=>?_;have e:∀ n (hn:n<T.size),T.getD n undef=T[n]:=fun n hn=>by simp[Array.getD,hn]
 simp only[TS];have:i<34:=h▸h1
 iterate 34 (rcases i with _ | i; · exact(e _ _).symm)
 omega
abbrev AA(b:Nat):Value:=.pointer (some ⟨b,0,none⟩)
structure Sl(h0:Array Obj)(lv:List Value)(is ch:Value)(b:Nat)(T:Array Value)(u:World):Prop where
 size:T.size=34
 t1:T.getD 1 undef=is
 t2:T.getD 2 undef=ch
 t3:T.getD 3 undef=AA b
 L:CellsAt u b lv
 hp:Hp h0 u
 le:h0.size<=b
structure Ss(h0:Array Obj)(lv:List Value)(is ch:Value)(b c:Nat)(st:List Value)(T:Array Value)(u:World):Prop extends Sl h0 lv is ch b T u where
 t6:T.getD 6 undef=AA c
 S:CellsAt u c st
 lc:h0.size<=c
 ne:b≠c
theorem Ah{P:Program}{ops:Array Oper}{Q:Exit->Act->World->Prop}:∀{l:List Nat} {os:List Oper},l.map (fun i=>ops[i]?)=os.map some->wpOps P ops Q l=wpList P ops Q os
 | [],[],_=>rfl
 | i::l,o::os,h=>by
  simp only[List.map_cons,List.cons.injEq] at h;funext a w;simp only[wpOps,h.1,wpList,Ah h.2]
 | [],_::_,h=>by cases h
 | _::_,[],h=>by cases h
structure Sc(h0:Array Obj)(lv:List Value)(is ch:Value)(n:Nat)(b c:Nat)(j:Nat)(st:List Value)(T:Array Value)(u:World):Prop extends Ss h0 lv is ch b c st T u where
 t17:T.getD 17 undef=is
 t18:T.getD 18 undef=.int .i64 n
 t19:T.getD 19 undef=.int .i64 j
section
variable {lv:List Value} {is ch:Value} {h0:Array Obj}
theorem w0(h11:lv.length=11)(h1:lv.all (·.oneCell')=true){J:Nat->Value}{w:World}(H:Hp h0 w)(j0:J 0=.agg lv.toArray)(j1:J 1=is)(j2:J 2=ch):s0.wp Tryz.prog (fun e a u=>e=.normal/\a.defers=[]/\∃ b,Sl h0 lv is ch b a.tmps u) ⟨TS J,[]⟩ w:=by
 rw[show s0=.region 0 _ false from rfl];go_wp;refine⟨rfl,rfl,w.heap.size,rfl,rfl,rfl,rfl,CellsAt.new w _ lv 29 rfl,H.step (Aa (Ac w) _),H.size⟩
theorem w1(h11:lv.length=11){st:List Value}(h9:st.length=9)(hs1:st.all (·.oneCell')=true)(b:Bool)
 (hS:∀ u,Hp h0 u->Calls Tryz.prog 12 #[.agg lv.toArray] u fun e w'=>e=.returned (.tuple #[.agg st.toArray,.bool b])/\Below u.heap.size u w') {B:Nat} {T:Array Value} {w:World} (H:Sl h0 lv is ch B T w) :
 s1.wp Tryz.prog (fun e a u=>e=.normal/\a.defers=[]/\∃ b c,Ss h0 lv is ch b c st a.tmps u) ⟨T,[]⟩ w:=by
 obtain⟨J,rfl⟩:∃ J,T=TS J:=⟨_,F8 H.size⟩;have j1:J 1=is:=H.t1;have j2:J 2=ch:=H.t2;have j3:J 3=AA B:=H.t3;rw[show s1=.region 1 _ false from rfl];apply wp_region_lit;refine Af rfl 29 (.tmp 3) rfl B j3 lv H.L Tryz.underlying29 rfl (by rw[h11]; kernel_rfl) ?_;go_wp;refine(hS _ H.hp).mono ?_;rintro e w1 ⟨rfl,B1⟩;dsimp only
 iterate 13 go_step
 refine Ai rfl 34 (.tmp 6) (.tmp 13) rfl w1.heap.size rfl st rfl _ (CellsAt.new w1 _ [_,_,_,_,_,_,_,_,_] 34 rfl) (by simp[h9]) (by rw[h9]; kernel_rfl) hs1 ?_;intro w2 K S;go_wp;have B2:=Aa B1 (.cells #[.int .i64 0,.int .i64 0,.int .i64 0,.int .i64 0,.int .i64 0,.int .i64 0,.int .i64 0,.bool false,.bool false] 34);refine⟨rfl,rfl,B,w1.heap.size,⟨rfl,rfl,rfl,rfl,(H.L.step B2).kept K ?_,(H.hp.step B2).kept K ?_,H.le⟩,rfl,S,?_,?_⟩
 all_goals have:=H.L.lt
 all_goals have:=B1.size
 all_goals have:=H.hp.size
 all_goals omega
theorem w2{st:List Value}(h9:st.length=9){b c:Nat}{T:Array Value}{w:World}(H:Ss h0 lv is ch b c st T w) :
 wpOps Tryz.prog (cO s2) (fun e a u=>e=.normal/\a.defers=[]/\Ss h0 lv is ch b c st a.tmps u/\a.tmps.getD 15 undef=ch/\a.tmps.getD 16 undef=.agg st.toArray) [0,1] ⟨T,[]⟩ w:=by
 obtain⟨J,rfl⟩:∃ J,T=TS J:=⟨_,F8 H.size⟩;have j1:J 1=is:=H.t1;have j2:J 2=ch:=H.t2;have j3:J 3=AA b:=H.t3;have j6:J 6=AA c:=H.t6;have e:cO s2=#[_,_,_]:=rfl;rw[Ah (os:=[_,_]) rfl];simp only[e,List.getElem_toArray,List.getElem_cons_zero,List.getElem_cons_succ]
 iterate 3 go_step
 refine Af rfl 34 (.tmp 6) rfl c rfl st H.S Tryz.underlying34 rfl (by rw[h9]; kernel_rfl) ?_;go_wp;exact⟨rfl,rfl,⟨⟨rfl,rfl,rfl,rfl,H.L,H.hp,H.le⟩,rfl,H.S,H.lc,H.ne⟩,rfl,rfl⟩
theorem w3{A:Option Addr}{n k:Nat}(hi:is=.slice A n k){st:List Value}{b c:Nat}{T:Array Value}{w:World}(H:Ss h0 lv is ch b c st T w) :
 s3.wp Tryz.prog (fun e a u=>e=.normal/\a.defers=[]/\Sc h0 lv is ch n b c 0 st a.tmps u) ⟨T,[]⟩ w:=by
 obtain⟨J,rfl⟩:∃ J,T=TS J:=⟨_,F8 H.size⟩;have j1:J 1=.slice A n k:=hi▸H.t1;have j2:J 2=ch:=H.t2;have j3:J 3=AA b:=H.t3;have j6:J 6=AA c:=H.t6;rw[show s3=.region 3 _ false from rfl];go_wp;subst hi;exact⟨rfl,rfl,⟨⟨rfl,rfl,rfl,rfl,H.L,H.hp,H.le⟩,rfl,H.S,H.lc,H.ne⟩,rfl,rfl,rfl⟩
theorem w4{n:Nat}{b c j:Nat}{st:List Value}{T:Array Value}{w:World}(H:Sc h0 lv is ch n b c j st T w) :
 s4.wp Tryz.prog (fun e a u=>e=.normal/\a.defers=[]/\Sc h0 lv is ch n b c j st a.tmps u/\a.tmps.getD 20 undef=.bool (decide (j<n))) ⟨T,[]⟩ w:=by
 obtain⟨J,rfl⟩:∃ J,T=TS J:=⟨_,F8 H.size⟩;have j1:J 1=is:=H.t1;have j2:J 2=ch:=H.t2;have j3:J 3=AA b:=H.t3;have j6:J 6=AA c:=H.t6;have j17:J 17=is:=H.t17;have j18:J 18=.int .i64 n:=H.t18;have j19:J 19=.int .i64 j:=H.t19;rw[show s4=.region 4 _ false from rfl];go_wp;exact⟨rfl,rfl,⟨⟨⟨rfl,rfl,rfl,rfl,H.L,H.hp,H.le⟩,rfl,H.S,H.lc,H.ne⟩,rfl,rfl,rfl⟩,by simp⟩
structure Si(h0:Array Obj)(lv:List Value)(is ch:Value)(n:Nat)(b c d:Nat)(j:Nat)(st x:List Value)(T:Array Value)(u:World):Prop extends Sc h0 lv is ch n b c j st T u where
 t9:T.getD 9 undef=AA d
 X:CellsAt u d x
theorem w5{n k:Nat}{q o:Nat}(hi:is=.slice (some ⟨q,o,none⟩) n k){b c j:Nat}{st x:List Value}(h3:x.length=3)(hx1:x.all (·.oneCell')=true)(hj:j<n)(hn:n<=281474976710656){T:Array Value}{w:World}(H:Sc h0 lv is ch n b c j st T w)(hx:w.rangeAt q (o+3*j) x) :
 s5.wp Tryz.prog (fun e a u=>e=.normal/\a.defers=[]/\∃ d,Si h0 lv is ch n b c d j st x a.tmps u) ⟨T,[]⟩ w:=by
 obtain⟨J,rfl⟩:∃ J,T=TS J:=⟨_,F8 H.size⟩;have j1:J 1=is:=H.t1;have j2:J 2=ch:=H.t2;have j3:J 3=AA b:=H.t3;have j6:J 6=AA c:=H.t6;have j17:J 17=.slice (some ⟨q,o,none⟩) n k:=hi▸H.t17;have j18:J 18=.int .i64 n:=H.t18;have j19:J 19=.int .i64 j:=H.t19;rw[show s5=.region 5 _ false from rfl];apply wp_region_lit
 iterate 3 go_step
 refine wpList_load_mid rfl 65 (.tmp 21) rfl q (o+j*3) rfl x _ (by rw[Nat.mul_comm]; exact hx) Tryz.underlying65 rfl (by rw[h3]; kernel_rfl) ?_
 iterate 3 go_step
 refine Ai rfl 65 (.tmp 9) (.tmp 22) rfl w.heap.size rfl x rfl _ (CellsAt.new w _ [_,_,_] 65 rfl) (by simp[h3]) (by rw[h3]; kernel_rfl) hx1 ?_;intro w2 K X;go_wp;subst hi;have B2:=Aa (Ac w) (.cells #[.int .i64 0,.int .i64 0,.bool false] 65);refine⟨rfl,rfl,w.heap.size,⟨⟨⟨rfl,rfl,rfl,rfl,(H.L.step B2).kept K ?_,(H.hp.step B2).kept K ?_,H.le⟩,rfl,(H.S.step B2).kept K ?_,H.lc,H.ne⟩,rfl,rfl,rfl⟩,rfl,X⟩
 all_goals have:=H.L.lt
 all_goals have:=H.S.lt
 all_goals have:=H.hp.size
 all_goals omega
theorem w6(h11:lv.length=11){n:Nat}{b c d j:Nat}{st st' x:List Value}(h9:st.length=9)(h9':st'.length=9)(h3:x.length=3)(hs1:st'.all (·.oneCell')=true){ok:Bool}
 (hS:∀ u,Hp h0 u->Calls Tryz.prog 56 #[.agg lv.toArray,.agg st.toArray,.agg x.toArray] u fun e w'=>e=.returned (.tuple #[.agg st'.toArray,.bool ok])/\Below u.heap.size u w') {T:Array Value} {w:World} (H:Si h0 lv is ch n b c d j st x T w) :
 s6.wp Tryz.prog (fun e a u=>e=.normal/\a.defers=[]/\Sc h0 lv is ch n b c j st' a.tmps u) ⟨T,[]⟩ w:=by
 obtain⟨J,rfl⟩:∃ J,T=TS J:=⟨_,F8 H.size⟩;have j1:J 1=is:=H.t1;have j2:J 2=ch:=H.t2;have j3:J 3=AA b:=H.t3;have j6:J 6=AA c:=H.t6;have j9:J 9=AA d:=H.t9;have j17:J 17=is:=H.t17;have j18:J 18=.int .i64 n:=H.t18;have j19:J 19=.int .i64 j:=H.t19;rw[show s6=.region 6 _ false from rfl];apply wp_region_lit;refine Af rfl 29 (.tmp 3) rfl b j3 lv H.L Tryz.underlying29 rfl (by rw[h11]; kernel_rfl) ?_;refine Af rfl 34 (.tmp 6) rfl c j6 st H.S Tryz.underlying34 rfl (by rw[h9]; kernel_rfl) ?_;refine Af rfl 65 (.tmp 9) rfl d j9 x H.X Tryz.underlying65 rfl (by rw[h3]; kernel_rfl) ?_;go_wp
 refine(hS _ H.hp).mono ?_;rintro e w1 ⟨rfl,B1⟩;dsimp only
 iterate 10 go_step
 refine Ai rfl 34 (.tmp 6) (.tmp 28) rfl c rfl st' rfl _ (H.S.step B1) (by rw[h9,h9']; omega) (by rw[h9']; kernel_rfl) hs1 ?_;intro w2 K S;go_wp;exact⟨rfl,rfl,⟨⟨rfl,rfl,rfl,rfl,(H.L.step B1).kept K H.ne,(H.hp.step B1).kept K H.lc,H.le⟩,rfl,S,H.lc,H.ne⟩,rfl,rfl,rfl⟩
theorem w7{st:List Value}(h9:st.length=9){n b c j:Nat}{T:Array Value}{w:World}(H:Sc h0 lv is ch n b c j st T w) :
 wpOps Tryz.prog (cO s7) (fun e a u=>e=.normal/\a.defers=[]/\Sc h0 lv is ch n b c j st a.tmps u/\a.tmps.getD 30 undef=ch/\a.tmps.getD 31 undef=.agg st.toArray) [0,1] ⟨T,[]⟩ w:=by
 obtain⟨J,rfl⟩:∃ J,T=TS J:=⟨_,F8 H.size⟩;have j1:J 1=is:=H.t1;have j2:J 2=ch:=H.t2;have j3:J 3=AA b:=H.t3;have j6:J 6=AA c:=H.t6;have j17:J 17=is:=H.t17;have j18:J 18=.int .i64 n:=H.t18;have j19:J 19=.int .i64 j:=H.t19;have e:cO s7=#[_,_,_]:=rfl;rw[Ah (os:=[_,_]) rfl];simp only[e,List.getElem_toArray,List.getElem_cons_zero,List.getElem_cons_succ]
 iterate 3 go_step
 refine Af rfl 34 (.tmp 6) rfl c rfl st H.S Tryz.underlying34 rfl (by rw[h9]; kernel_rfl) ?_;go_wp;exact⟨rfl,rfl,⟨⟨⟨rfl,rfl,rfl,rfl,H.L,H.hp,H.le⟩,rfl,H.S,H.lc,H.ne⟩,rfl,rfl,rfl⟩,rfl,rfl⟩
theorem w8{st:List Value}{n b c j:Nat}(hj:j<n)(hn:n<=281474976710656){T:Array Value}{w:World}(H:Sc h0 lv is ch n b c j st T w) :
 s8.wp Tryz.prog (fun e a u=>e=.normal/\a.defers=[]/\Sc h0 lv is ch n b c (j+1) st a.tmps u) ⟨T,[]⟩ w:=by
 obtain⟨J,rfl⟩:∃ J,T=TS J:=⟨_,F8 H.size⟩;have j1:J 1=is:=H.t1;have j2:J 2=ch:=H.t2;have j3:J 3=AA b:=H.t3;have j6:J 6=AA c:=H.t6;have j17:J 17=is:=H.t17;have j18:J 18=.int .i64 n:=H.t18;have j19:J 19=.int .i64 j:=H.t19;rw[show s8=.region 8 _ false from rfl];go_wp;exact⟨rfl,rfl,⟨⟨⟨rfl,rfl,rfl,rfl,H.L,H.hp,H.le⟩,rfl,H.S,H.lc,H.ne⟩,rfl,rfl,by simp⟩⟩
theorem w9{st:List Value}{n b c j:Nat}{T:Array Value}{w:World}(H:Sc h0 lv is ch n b c j st T w) :
 wpOps Tryz.prog (cO s9) (fun e a u=>e=.normal/\a.defers=[]/\(a.tmps.size=34/\a.tmps.getD 33 undef=ch)) [0] ⟨T,[]⟩ w:=by
 obtain⟨J,rfl⟩:∃ J,T=TS J:=⟨_,F8 H.size⟩;have j2:J 2=ch:=H.t2;have e:cO s9=#[_,_]:=rfl;rw[Ah (os:=[_]) rfl];simp only[e,List.getElem_toArray,List.getElem_cons_zero];go_wp;exact⟨rfl,rfl,rfl,rfl⟩
end
end Go.Proofs.YtaemcekcancpdaaGreatDoor
