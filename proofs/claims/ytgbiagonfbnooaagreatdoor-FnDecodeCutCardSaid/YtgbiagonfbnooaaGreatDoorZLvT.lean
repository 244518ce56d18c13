import Derived.Test.YtgbiagonfbnooaaGreatDoorZEngLaws
import Derived.Test.YtgbiagonfbnooaaGreatDoorZDrawRun
set_option linter.all false
set_option maxRecDepth 100000
set_option maxHeartbeats 8000000
open Go.Lib
namespace Go.Proofs.YtgbiagonfbnooaaGreatDoor
open Go.RowKit
open M
theorem Dr{P:Program}{ops:Array Oper}{rest:List Oper}{o:Oper}{a:Act}{w:World}{Q:Exit->Act->World->Prop}(hw:Region.wanted o (yielded ops a.tmps)=true)(ty:TypeId)(x:Operand)(ho:o.op=.load ty x)
 (b:Nat) (hx:a.eval x=.pointer (some ⟨b,0,none⟩)) (vs:List Value) (L:CellsAt w b vs) {d:TypeDesc} (hu:P.underlying ty=some d) (hd:d.isRow=true) (hi:(P.info? ty).map (·.size)=some vs.length)
 (h:wpList P ops Q rest (a.put o.dst (.agg vs.toArray)) w):wpList P ops Q (o::rest) a w:=by
 simp only[wpList,hw,if_true];exact .inl (wp_load_mid ty x ho b 0 hx vs d L.range hu hd hi h)
structure Lv where
 i:Int
 t:Int
 x:Int
 y:Int
 A:Option Addr
 n:Nat
 c:Nat
 G:Option Addr
 m:Nat
 kk:Nat
 fp:Int
 fq:Int
 fs:Int
 fz:Int
 b:Int
 ws:List Bx
 gs:List Bx
abbrev Lv.cs(L:Lv):List Value:=AW L.i L.t L.x L.y L.A L.n L.c L.G L.m L.kk L.fp L.fq L.fs L.fz L.b
abbrev Lv.val(L:Lv):Value:=Fq L.i L.t L.x L.y L.A L.n L.c L.G L.m L.kk L.fp L.fq L.fs L.fz L.b
def Lv.ok(L:Lv):Bool:=Cd L.i L.t L.x L.y L.ws L.gs L.fp L.fq L.fs L.fz L.b
abbrev M.svs(s:St):List Value:=AE s.k s.ax s.ay s.fx s.fy s.u s.g s.d s.o
abbrev M.sva(s:St):Value:=Dw s.k s.ax s.ay s.fx s.fy s.u s.g s.d s.o
abbrev M.z0:St:=⟨0,0,0,0,0,0,0,false,false⟩
def Lv.s0(L:Lv):St:=if L.ok then ⟨0,L.x,L.y,0,0,0,0,false,false⟩ else z0
def Lv.nx(L:Lv)(s:St)(q:In):St:=esS L.i L.t L.x L.y L.ws L.gs L.fp L.fq L.fs L.fz L.b s.k s.ax s.ay s.fx s.fy s.u s.g s.d s.o q.s q.p q.z
def Lv.run(L:Lv)(xs:List In):St:=xs.foldl L.nx L.s0
def Lv.tail(L:Lv)(s:St):List In->List Value
 | []=>[]
 | q::xs=>sva (L.nx s q)::L.tail (L.nx s q) xs
def FW(L:Lv)(xs:List In)(n:Nat)(k0:Int):Bool:=decide (0<=k0)&&(decide (k0<=n)&&decide (Jm L.i L.t L.x L.y L.ws L.gs L.fp L.fq L.fs L.fz L.b xs=-1))
def Lv.fin(L:Lv)(xs:List In)(n:Nat)(k0:Int):St:=if FW L xs n k0 then L.run (xs.take k0.toNat) else z0
def Ob(s:St)(ok:Bool):Int:=if ok&&s.d then s.k else -1
def Lv.score(L:Lv)(xs:List In)(n:Nat):Int:=Ob (L.fin xs n n) (FW L xs n n)
abbrev NX(l:List Int):List Value:=l.map (Value.int .i64)
open Go.RowKit
open M
theorem Ints.first{w:World}{A:Option Addr}{n:Nat}{xs:List Int}(h:Ints w A n xs){j:Nat}(hj:j<=n):Ints w A j (xs.take j) :=
 ⟨by rw[List.length_take,h.1]; omega,fun h0=>by
  obtain⟨b,off,rfl,hl,hc⟩:=h.2 (by omega);exact⟨b,off,rfl,hl,fun k hk=>by
   have e:(xs.take j)[k]?=xs[k]?:=by rw[List.getElem?_take_of_lt hk]
   simpa only[List.getD_eq_getElem?_getD,e] using hc k (by omega)⟩⟩
theorem Ints.mine{w:World}{base:Nat}{e:TypeId}{A:Option Addr}{n c:Nat}{vs:List Value}(h:w.ownsRow base e 1 (.slice A n c) n vs):AK base A:=fun g off ha=>by
 subst ha;rcases h.2 with⟨h2,_⟩ | ⟨b,cap,cur,h2,h3⟩
 . cases h2
 . cases h2; exact h3.1
def HC(B:Nat)(r:Nat)(k:Int)(w:World)(e:Ending)(w':World):Prop :=
 ∃(A:Option Addr) (m c:Nat) (ys:List Int),e=.returned (.slice A m c)/\(m<=1001/\m<=c)/\Ints w' A m ys/\AK w.heap.size A/\RdU B w' r (k+4)/\Kept r w w'
theorem FH{B r:Nat}{k k':Int}{w W:World}{v:Value}{N:Nat}{ys:List Int}(O:W.ownsRow w.heap.size 3 1 v N (ys.map (Value.int .i64)))(hN:N<=1001)(R:RdU B W r k')(hk:k'<=k+4)(K:Kept r w W):HC B r k w (.returned v) W:=by
 obtain⟨A,c,rfl,I⟩:=Ints.of_own O;exact⟨A,N,c,ys,rfl,⟨hN,Ea O⟩,I,Ints.mine O,R.mono hk,K⟩
theorem FI{B:Nat}(r:Nat)(k:Int)(A:Option Addr)(n c:Nat)(hs:List Int)(w:World)(R:RdU B w r k)(hk:k<=90000)(Z:Ints w A n hs)(MA:AK B A)(hn:n<=1000) :
 Calls Tryz.prog 57 #[.pointer (some ⟨r,0,none⟩),.slice A n c] w (HC B r k w):=by
 have hr:=R.here;have hB:=R.base;have hl:=Z.1;go_enter Tryz.func57,Tryz.ntmps57;go_wp2_with (at_builtin; refine AP _ rfl (.tmp 6) (.tmp 7) rfl w.heap.size (.slice (some ⟨w.heap.size,0,none⟩) 0 0) 0 [] rfl (World.ownsRow_lit w #[] 0 (Nat.le_refl _) (Nat.zero_le _) rfl) A n c hs rfl (Z.step (Ab (Ac w) _)) (by omega) (by simp) ?_);intro v1 w1 O G _;have K:=hid (((Kept.refl r w).alloc _).grown G (fun g e=>by rw[<- Option.some.inj e]; exact Nat.le_refl _));have RR:=hid ((R.alloc _).grown G (fun g e=>by rw[<- Option.some.inj e]; exact hB));replace O:=hid (show w1.ownsRow w.heap.size 3 1 v1 n (hs.map (Value.int .i64)) from by simpa using O);clear G R Z
 go_wp2_with fail;refine(Aj r 6 _ _ RR.out (by omega) (by omega) (by omega)).mono ?_;rintro e w2 ⟨c0,⟨c00,c01⟩,rfl,R1,K1⟩;replace O:=hid (O.out.kept K1.grows (.inr fun he=>by have:=(O.out.lt r he).1; omega));replace K:=hid (K.out.trans K1);replace RR:=hid R1;clear K1 R1;obtain⟨A1,ca,hv,_⟩:=Ints.of_own O.out;subst hv;have hcap:=Ea O.out;by_cases e0:c0=0
 . subst e0;go_wp2_with fail;refine(Aj r 100 _ _ RR.out (by omega) (by omega) (by omega)).mono ?_;rintro e w3 ⟨v,⟨v0,v1⟩,rfl,R1,K1⟩;replace O:=hid (O.out.kept K1.grows (.inr fun he=>by have:=(O.out.lt r he).1; omega));replace K:=hid (K.out.trans K1);replace RR:=hid R1;clear K1 R1;have hz:=K.out.size;go_wp2_with (at_builtin; refine AP _ rfl (.tmp 13) (.tmp 16) rfl w.heap.size (.slice A1 n ca) n hs rfl (O.out.alloc _) (some ⟨w3.heap.size,0,none⟩) 1 1 [v] rfl (Ints.one w3 v _) (by omega) (by simp; omega) ?_);intro v' w9 O9 G9 _;replace O9:=hid O9;have K9:=hid ((K.out.alloc _).grown G9 (fun g e=>(O.out.lt g e).1))
   have R9:=hid ((RR.out.alloc _).grown G9 (fun g e=>by have:=(O.out.lt g e).1; omega));clear G9 O K RR;go_wp2;go_ret;exact FH (ys:=hs++[v]) (by rw[List.map_append]; exact O9.out) (by omega) R9.out (by omega) K9.out
 by_cases e1:c0=1
 . subst e1;have hw:IntKind.i64.wrap ((n:Int)+1)=(n:Int)+1:=IntWalk.i64_in _ (by omega);go_wp2_with fail;refine(Aj r ((n:Int)+1) _ _ RR.out (by omega) (by omega) (by omega)).mono ?_;rintro e w3 ⟨j,⟨j0,j1⟩,rfl,R1,K1⟩;replace O:=hid (O.out.kept K1.grows (.inr fun he=>by have:=(O.out.lt r he).1; omega));replace K:=hid (K.out.trans K1);replace RR:=hid R1;clear K1 R1;obtain⟨j,rfl⟩:=Int.eq_ofNat_of_zero_le j0;have hj:j<=ca:=by omega
   obtain⟨A2,c2,hv,I⟩:=Ints.of_own O.out;cases hv
   have I:=hid I;have MM:=hid (Ints.mine O.out);go_wp2;go_ret;exact⟨A1,j,ca,hs.take j,rfl,⟨by omega,hj⟩,I.out.first (by omega),MM.out,RR.out.mono (by omega),K.out⟩
 by_cases e23:c0=2\/c0=3
 . by_cases h0:n=0
   . subst h0;rcases e23 with rfl | rfl
     all_goals
      go_wp2;go_ret;exact FH O.out (by omega) RR.out (by omega) K.out
   have hpos:(0:Int)<(n:Int):=by omega
   obtain⟨gb,rfl⟩:∃ gb,A1=some ⟨gb,0,none⟩:=by
    rcases O.out.2 with⟨_,h⟩ | ⟨g,cap,cur,h,_⟩
    . omega
    . cases h
      exact⟨g,rfl⟩
   rcases e23 with rfl | rfl
   all_goals
    go_wp2_with fail;refine(Aj r n _ _ RR.out (by omega) (by omega) (by omega)).mono ?_;rintro e w3 ⟨j,⟨j0,j1⟩,rfl,R1,K1⟩;replace O:=hid (O.out.kept K1.grows (.inr fun he=>by have:=(O.out.lt r he).1; omega));replace K:=hid (K.out.trans K1);replace RR:=hid R1;clear K1 R1;obtain⟨j,rfl⟩:=Int.eq_ofNat_of_zero_le j0;have hj:j<n:=by omega
    go_wp2_with fail;refine(Aj r 100 _ _ RR.out (by omega) (by omega) (by omega)).mono ?_;rintro e w4 ⟨v,⟨v0,v1⟩,rfl,R1,K1⟩;replace O:=hid (O.out.kept K1.grows (.inr fun he=>by have:=(O.out.lt r he).1; omega));replace K:=hid (K.out.trans K1);replace RR:=hid R1;clear K1 R1;have ci:=O.out.cellAt j (by omega);have jj:(hs.map (Value.int .i64))[j]?=some (.int .i64 (hs.getD j 0)):=by simp[List.getD_eq_getElem?_getD,List.getElem?_eq_getElem (show j<hs.length by omega)]
    rw[jj] at ci;have fi:=O.out.frozenAt j;have gB:=(O.out.lt gb rfl).1;have gl:=(O.out.lt gb rfl).2;have O5:=hid (show World.ownsRow (World.setCell _ ⟨gb,j,none⟩ (.int .i64 (100*v))) w.heap.size 3 1 (.slice (some ⟨gb,0,none⟩) n ca) n ((hs.set j (100*v)).map (Value.int .i64)) from by rw[List.map_set]; exact(O.out.stored j _).1);have K5:=hid (K.out.set gb j (.int .i64 (100*v)) gB);have R5:=hid (RR.out.set gb j (.int .i64 (100*v)) (by omega));have hw:IntKind.i64.wrap (100*v)=100*v:=IntWalk.i64_in _ (by omega);clear jj O K RR;generalize hs.getD j 0=q0 at *;go_wp2;go_ret;exact FH O5.out (by omega) R5.out (by omega) K5.out
 have d0:(c0==0)=false:=beq_eq_false_iff_ne.2 e0;have d1:(c0==1)=false:=beq_eq_false_iff_ne.2 e1;have d2:(c0==2)=false:=beq_eq_false_iff_ne.2 (by omega);have d3:(c0==3)=false:=beq_eq_false_iff_ne.2 (by omega);clear e0 e1 e23;go_wp2;go_ret;exact FH O.out (by omega) RR.out (by omega) K.out
open Go.RowKit
open M
theorem Boxes.two(w:World)(B:Nat)(a b c d a' b' c' d':Int)(t:TypeId)(hB:B=w.heap.size):Boxes (w.alloc (.cells #[.int .i64 a,.int .i64 b,.int .i64 c,.int .i64 d,.int .i64 a',.int .i64 b',.int .i64 c',.int .i64 d'] t)) (some ⟨B,0,none⟩) 2 [⟨a,b,c,d⟩,⟨a',b',c',d'⟩] :=
 hB▸⟨rfl,fun _=>⟨w.heap.size,0,rfl,by simp,fun k hk=>by
  match k,hk with
  | 0,_=>exact⟨by simp,by simp,by simp,by simp⟩
  | 1,_=>exact⟨by simp,by simp,by simp,by simp⟩⟩⟩
open Go.RowKit
open M
theorem Ib:∀(xs:List In) (i:Nat) (q:In),i<xs.length->(((AZ xs).set (i*3) (.int .i64 q.s)).set (i*3+1) (.int .i64 q.p)).set (i*3+2) (.bool q.z)=AZ (xs.set i q)
 | [],i,q,h=>absurd h (by simp)
 | a::xs,0,q,_=>rfl
 | a::xs,i+1,q,h=>by
  have e:(i+1)*3=i*3+1+1+1:=by omega
  have t:=Ib xs i q (by simpa using h);rw[e];simp only[AZ,List.set_cons_succ];rw[t]
theorem Inputs.two(w:World)(B:Nat)(a b:Int)(c:Bool)(d e:Int)(f:Bool)(t:TypeId)(hB:B=w.heap.size):Inputs (w.alloc (.cells #[.int .i64 a,.int .i64 b,.bool c,.int .i64 d,.int .i64 e,.bool f] t)) (some ⟨B,0,none⟩) 2 [⟨a,b,c⟩,⟨d,e,f⟩] :=
 hB▸⟨rfl,fun _=>⟨w.heap.size,0,rfl,by simp,fun k hk=>by
  match k,hk with
  | 0,_=>exact⟨by simp,by simp,by simp⟩
  | 1,_=>exact⟨by simp,by simp,by simp⟩⟩⟩
theorem Inputs.three(w:World)(B:Nat)(a b:Int)(c:Bool)(d e:Int)(f:Bool)(g h:Int)(i:Bool)(t:TypeId)(hB:B=w.heap.size):Inputs (w.alloc (.cells #[.int .i64 a,.int .i64 b,.bool c,.int .i64 d,.int .i64 e,.bool f,.int .i64 g,.int .i64 h,.bool i] t)) (some ⟨B,0,none⟩) 3 [⟨a,b,c⟩,⟨d,e,f⟩,⟨g,h,i⟩] :=
 hB▸⟨rfl,fun _=>⟨w.heap.size,0,rfl,by simp,fun k hk=>by
  match k,hk with
  | 0,_=>exact⟨by simp,by simp,by simp⟩
  | 1,_=>exact⟨by simp,by simp,by simp⟩
  | 2,_=>exact⟨by simp,by simp,by simp⟩⟩⟩
end Go.Proofs.YtgbiagonfbnooaaGreatDoor
