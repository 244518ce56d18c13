import Derived.Test.YtflmmdljkhdjlaaZEngLaws
import Derived.Test.YtflmmdljkhdjlaaZDrawRun
set_option linter.all false
set_option maxRecDepth 100000
set_option maxHeartbeats 8000000
open Go.Lib
namespace Go.Proofs.Ytflmmdljkhdjlaa
open Go.RowKit
open M
theorem CU{P:Program}{ops:Array Oper}{rest:List Oper}{o:Oper}{a:Act}{w:World}{Q:Exit->Act->World->Prop}(hw:Region.wanted o (yielded ops a.tmps)=true)(ty:TypeId)(x:Operand)(ho:o.op=.load ty x)
 (b:Nat) (hx:a.eval x=.pointer (some ⟨b,0,none⟩)) (vs:List Value) (L:CellsAt w b vs) {d:TypeDesc} (hu:P.underlying ty=some d) (hd:d.isRow=true) (hi:(P.info? ty).map (·.size)=some vs.length)
 (h:wpList P ops Q rest (a.put o.dst (.agg vs.toArray)) w):wpList P ops Q (o::rest) a w:=by
 simp only[wpList,hw,if_true];exact .inl (wp_load_mid ty x ho b 0 hx vs d L.range hu hd hi h)
structure Lv where
 i:Int
 t:Int
 x:Int
 y:Int
 A:Option Addr
 n:Nat
 c:Nat
 G:Option Addr
 m:Nat
 kk:Nat
 fp:Int
 fq:Int
 fs:Int
 fz:Int
 b:Int
 ws:List Bx
 gs:List Bx
abbrev Lv.cs(L:Lv):List Value:=Bd L.i L.t L.x L.y L.A L.n L.c L.G L.m L.kk L.fp L.fq L.fs L.fz L.b
abbrev Lv.val(L:Lv):Value:=Ey L.i L.t L.x L.y L.A L.n L.c L.G L.m L.kk L.fp L.fq L.fs L.fz L.b
def Lv.ok(L:Lv):Bool:=BX L.i L.t L.x L.y L.ws L.gs L.fp L.fq L.fs L.fz L.b
abbrev M.svs(s:St):List Value:=AK s.k s.ax s.ay s.fx s.fy s.u s.g s.d s.o
abbrev M.sva(s:St):Value:=Da s.k s.ax s.ay s.fx s.fy s.u s.g s.d s.o
abbrev M.z0:St:=⟨0,0,0,0,0,0,0,false,false⟩
def Lv.s0(L:Lv):St:=if L.ok then ⟨0,L.x,L.y,0,0,0,0,false,false⟩ else z0
def Lv.nx(L:Lv)(s:St)(q:In):St:=esS L.i L.t L.x L.y L.ws L.gs L.fp L.fq L.fs L.fz L.b s.k s.ax s.ay s.fx s.fy s.u s.g s.d s.o q.s q.p q.z
def Lv.run(L:Lv)(xs:List In):St:=xs.foldl L.nx L.s0
def Lv.tail(L:Lv)(s:St):List In->List Value
 | []=>[]
 | q::xs=>sva (L.nx s q)::L.tail (L.nx s q) xs
def Fi(L:Lv)(xs:List In)(n:Nat)(k0:Int):Bool:=decide (0<=k0)&&(decide (k0<=n)&&decide (HF L.i L.t L.x L.y L.ws L.gs L.fp L.fq L.fs L.fz L.b xs=-1))
def Lv.fin(L:Lv)(xs:List In)(n:Nat)(k0:Int):St:=if Fi L xs n k0 then L.run (xs.take k0.toNat) else z0
def Lp(s:St)(ok:Bool):Int:=if ok&&s.d then s.k else -1
def Lv.score(L:Lv)(xs:List In)(n:Nat):Int:=Lp (L.fin xs n n) (Fi L xs n n)
abbrev Li(l:List Int):List Value:=l.map (Value.int .i64)
open Go.RowKit
open M
theorem Boxes.two(w:World)(B:Nat)(a b c d a' b' c' d':Int)(t:TypeId)(hB:B=w.heap.size):Boxes (w.alloc (.cells #[.int .i64 a,.int .i64 b,.int .i64 c,.int .i64 d,.int .i64 a',.int .i64 b',.int .i64 c',.int .i64 d'] t)) (some ⟨B,0,none⟩) 2 [⟨a,b,c,d⟩,⟨a',b',c',d'⟩] :=
 hB▸⟨rfl,fun _=>⟨w.heap.size,0,rfl,by simp,fun k hk=>by
  match k,hk with
  | 0,_=>exact⟨by simp,by simp,by simp,by simp⟩
  | 1,_=>exact⟨by simp,by simp,by simp,by simp⟩⟩⟩
open Go.RowKit
open M
theorem E7:∀(xs:List In) (i:Nat) (q:In),i<xs.length->(((Ba xs).set (i*3) (.int .i64 q.s)).set (i*3+1) (.int .i64 q.p)).set (i*3+2) (.bool q.z)=Ba (xs.set i q)
 | [],i,q,h=>absurd h (by simp)
 | a::xs,0,q,_=>rfl
 | a::xs,i+1,q,h=>by
  have e:(i+1)*3=i*3+1+1+1:=by omega
  have t:=E7 xs i q (by simpa using h);rw[e];simp only[Ba,List.set_cons_succ];rw[t]
def HQ(B:Nat)(r:Nat)(k:Int)(w:World)(e:Ending)(w':World):Prop :=
 ∃(A:Option Addr) (n c:Nat) (xs:List In),e=.returned (.slice A n c)/\(n<=63/\n<=c)/\Inputs w' A n xs/\AE w.heap.size A/\RdU B w' r (k+230)/\Kept r w w'
def EI(B:Nat)(r:Nat)(k:Int)(w:World)(e:Ending)(w':World):Prop :=
 ∃(A:Option Addr) (n c:Nat) (xs:List In),Cel w' A/\e=.returned (.slice A n c)/\(n<=63/\n<=c)/\Inputs w' A n xs/\AE w.heap.size A/\RdU B w' r (k+230)/\Kept r w w'
theorem CM{B r:Nat}{k k':Int}{w W:World}{v:Value}{N:Nat}{ys:List In}(O:W.ownsRow w.heap.size 36 3 v N (Ba ys))(hN:N<=63)(R:RdU B W r k')(hk:k'<=k+230)(K:Kept r w W):EI B r k w (.returned v) W:=by
 obtain⟨A,c,rfl,I,M⟩:=Inputs.of_own O;exact⟨A,N,c,ys,Cel.of_own O,rfl,⟨hN,Bc O⟩,I,M,R.mono hk,K⟩
theorem Inputs.two(w:World)(B:Nat)(a b:Int)(c:Bool)(d e:Int)(f:Bool)(t:TypeId)(hB:B=w.heap.size):Inputs (w.alloc (.cells #[.int .i64 a,.int .i64 b,.bool c,.int .i64 d,.int .i64 e,.bool f] t)) (some ⟨B,0,none⟩) 2 [⟨a,b,c⟩,⟨d,e,f⟩] :=
 hB▸⟨rfl,fun _=>⟨w.heap.size,0,rfl,by simp,fun k hk=>by
  match k,hk with
  | 0,_=>exact⟨by simp,by simp,by simp⟩
  | 1,_=>exact⟨by simp,by simp,by simp⟩⟩⟩
theorem Inputs.three(w:World)(B:Nat)(a b:Int)(c:Bool)(d e:Int)(f:Bool)(g h:Int)(i:Bool)(t:TypeId)(hB:B=w.heap.size):Inputs (w.alloc (.cells #[.int .i64 a,.int .i64 b,.bool c,.int .i64 d,.int .i64 e,.bool f,.int .i64 g,.int .i64 h,.bool i] t)) (some ⟨B,0,none⟩) 3 [⟨a,b,c⟩,⟨d,e,f⟩,⟨g,h,i⟩] :=
 hB▸⟨rfl,fun _=>⟨w.heap.size,0,rfl,by simp,fun k hk=>by
  match k,hk with
  | 0,_=>exact⟨by simp,by simp,by simp⟩
  | 1,_=>exact⟨by simp,by simp,by simp⟩
  | 2,_=>exact⟨by simp,by simp,by simp⟩⟩⟩
theorem Gh{B:Nat}(r:Nat)(k:Int)(i t x y:Int)(A:Option Addr)(n c:Nat)(G:Option Addr)(m kk:Nat)(fp fq fs fz b:Int)(ws gs:List Bx)(w:World)(R:RdU B w r k)(k0:0<=k)(hk:k<=50000)(I:Boxes w A n ws)(J:Boxes w G m gs)(MA:AE B A)(MG:AE B G)(ok:Cx ws=true)(hn:n<=10)(hm:m<=10)(hL:DT t x y b) :
 Calls Try.prog 50 #[.pointer (some ⟨r,0,none⟩),Ey i t x y A n c G m kk fp fq fs fz b] w (EI B r k w):=by
 have hr:=R.here;have hB:=R.base;go_enter Try.func50,Try.ntmps50;go_wp2_with fail
 refine(BU r k i t x y A n c G m kk fp fq fs fz b ws gs _ (R.alloc (.cells #[.int .i64 i,.int .i64 t,.int .i64 x,.int .i64 y,.slice A n c,.slice G m kk,.int .i64 fp,.int .i64 fq,.int .i64 fs,.int .i64 fz,.int .i64 b] 73)) k0 (by omega) (I.alloc (.cells #[.int .i64 i,.int .i64 t,.int .i64 x,.int .i64 y,.slice A n c,.slice G m kk,.int .i64 fp,.int .i64 fq,.int .i64 fs,.int .i64 fz,.int .i64 b] 73)) (J.alloc (.cells #[.int .i64 i,.int .i64 t,.int .i64 x,.int .i64 y,.slice A n c,.slice G m kk,.int .i64 fp,.int .i64 fq,.int .i64 fs,.int .i64 fz,.int .i64 b] 73)) MA MG ok hn hm hL).mono ?_;rintro e w1 ⟨v,N,xs,rfl,hN,_,O,R1,K⟩
 replace O:=hid (Bz O (show w.heap.size<=(w.alloc (.cells #[.int .i64 i,.int .i64 t,.int .i64 x,.int .i64 y,.slice A n c,.slice G m kk,.int .i64 fp,.int .i64 fq,.int .i64 fs,.int .i64 fz,.int .i64 b] 73)).heap.size+1 by simp; omega));replace K:=hid (((Kept.refl r w).alloc (.cells #[.int .i64 i,.int .i64 t,.int .i64 x,.int .i64 y,.slice A n c,.slice G m kk,.int .i64 fp,.int .i64 fq,.int .i64 fs,.int .i64 fz,.int .i64 b] 73)).trans K);have RR:=hid R1;clear R1 R I J MA MG ok hL;go_wp2_with fail;refine(Af r 12 _ _ RR.out (by omega) (by omega) (by omega)).mono ?_;rintro e w2 ⟨c0,⟨c1,c2⟩,rfl,R1,K1⟩
 replace O:=hid (O.out.kept K1.grows (.inr fun he=>by have:=(O.out.lt r he).1; omega));replace K:=hid (K.out.trans K1);replace RR:=hid R1;clear K1 R1;obtain⟨A1,ca,hv,_,_⟩:=Inputs.of_own O.out;subst hv;by_cases e0:c0=0
 . subst e0;have hz:=K.out.size;go_wp2_with (at_builtin; refine Ds _ rfl (.tmp 13) (.tmp 16) rfl w.heap.size (.slice A1 N ca) N xs rfl (O.out.alloc _) (some ⟨w2.heap.size,0,none⟩) 2 2 [⟨0,0,false⟩,⟨0,1,false⟩] rfl (Inputs.two w2 w2.heap.size 0 0 false 0 1 false _ rfl) (by omega) (by simp; omega) ?_);intro v' w9 O9 G9 _;replace O9:=hid O9;have K9:=hid ((K.out.alloc _).grown G9 (fun g e=>(O.out.lt g e).1));have R9:=hid ((RR.out.alloc _).grown G9 (fun g e=>by have:=(O.out.lt g e).1; omega));clear G9 O K RR;go_wp2;go_ret;exact CM O9.out (by omega) R9.out (by omega) K9.out
 by_cases e1:c0=1
 . subst e1;by_cases h0:N=0
   . subst h0;go_wp2;go_ret;exact CM O.out (by omega) RR.out (by omega) K.out
   have hpos:(0:Int)<(N:Int):=by omega
   go_wp2_with fail;refine(Af r N _ _ RR.out (by omega) (by omega) (by omega)).mono ?_;rintro e w3 ⟨ix,⟨ix0,ix1⟩,rfl,R1,K1⟩;replace O:=hid (O.out.kept K1.grows (.inr fun he=>by have:=(O.out.lt r he).1; omega));replace K:=hid (K.out.trans K1);replace RR:=hid R1;clear K1 R1;obtain⟨ix,rfl⟩:=Int.eq_ofNat_of_zero_le ix0;have hix:ix<N:=by omega
   go_wp2_with fail;refine(BC r _ _ RR.out (by omega)).mono ?_;rintro e w4 ⟨a,p,z,_,rfl,R1,K1⟩;replace O:=hid (O.out.kept K1.grows (.inr fun he=>by have:=(O.out.lt r he).1; omega));replace K:=hid (K.out.trans K1);replace RR:=hid R1;clear K1 R1;obtain⟨gb,rfl⟩:∃ gb,A1=some ⟨gb,0,none⟩:=by
    rcases O.out.2 with⟨_,h⟩ | ⟨g,cap,cur,h,_⟩
    . omega
    . cases h
      exact⟨g,rfl⟩
   have hl:xs.length=N:=by have:=O.out.1; rw[AX] at this; omega
   have gB:=(O.out.lt gb rfl).1;have gl:=(O.out.lt gb rfl).2;have ci0:=O.out.cellAt (ix*3) (by omega);have ci1:=O.out.cellAt (ix*3+1) (by omega);have ci2:=O.out.cellAt (ix*3+2) (by omega);have j0:=BM xs ix 0 (by omega) (by omega);rw[Nat.add_zero] at j0;rw[j0] at ci0;rw[BM xs ix 1 (by omega) (by omega)] at ci1;rw[BM xs ix 2 (by omega) (by omega)] at ci2;have fi0:=O.out.frozenAt (ix*3);have fi1:=O.out.frozenAt (ix*3+1);have fi2:=O.out.frozenAt (ix*3+2)
   have O5:=hid (show((((w4.setCell ⟨gb,ix*3,none⟩ (.int .i64 a)).setCell ⟨gb,ix*3+1,none⟩ (.int .i64 p)).setCell ⟨gb,ix*3+2,none⟩ (.bool z))).ownsRow w.heap.size 36 3 (.slice (some ⟨gb,0,none⟩) N ca) N (Ba (xs.set ix ⟨a,p,z⟩)) from(E7 xs ix ⟨a,p,z⟩ (by omega))▸((((O.out.stored (ix*3) _).1.stored (ix*3+1) _).1.stored (ix*3+2) _).1));have K5:=hid (((K.out.set gb (ix*3) (.int .i64 a) gB).set gb (ix*3+1) (.int .i64 p) gB).set gb (ix*3+2) (.bool z) gB);have R5:=hid (((RR.out.set gb (ix*3) (.int .i64 a) (by omega)).set gb (ix*3+1) (.int .i64 p) (by omega)).set gb (ix*3+2) (.bool z) (by omega));clear j0 O K RR
   generalize Ch (xs.getD ix iz) 0=q0 at *;generalize Ch (xs.getD ix iz) 1=q1 at *;generalize Ch (xs.getD ix iz) 2=q2 at *;go_wp2;go_ret;exact CM O5.out (by omega) R5.out (by omega) K5.out
 by_cases e2:c0=2
 . subst e2;go_wp2_with fail;refine(BC r _ _ RR.out (by omega)).mono ?_;rintro e w3 ⟨a,p,z,_,rfl,R1,K1⟩;replace O:=hid (O.out.kept K1.grows (.inr fun he=>by have:=(O.out.lt r he).1; omega));replace K:=hid (K.out.trans K1);replace RR:=hid R1;clear K1 R1;go_wp2_with fail;refine(BC r _ _ RR.out (by omega)).mono ?_;rintro e w4 ⟨a2,p2,z2,_,rfl,R1,K1⟩;replace O:=hid (O.out.kept K1.grows (.inr fun he=>by have:=(O.out.lt r he).1; omega));replace K:=hid (K.out.trans K1);replace RR:=hid R1;clear K1 R1;go_wp2_with fail;refine(BC r _ _ RR.out (by omega)).mono ?_;rintro e w5 ⟨a3,p3,z3,_,rfl,R1,K1⟩
   replace O:=hid (O.out.kept K1.grows (.inr fun he=>by have:=(O.out.lt r he).1; omega));replace K:=hid (K.out.trans K1);replace RR:=hid R1;clear K1 R1;have hz:=K.out.size;go_wp2_with (at_builtin; refine Ds _ rfl (.tmp 33) (.tmp 40) rfl w.heap.size (.slice A1 N ca) N xs rfl (O.out.alloc _) (some ⟨w5.heap.size,0,none⟩) 3 3 [⟨a,p,z⟩,⟨a2,p2,z2⟩,⟨a3,p3,z3⟩] rfl (Inputs.three w5 w5.heap.size a p z a2 p2 z2 a3 p3 z3 _ rfl) (by omega) (by simp; omega) ?_);intro v' w9 O9 G9 _;replace O9:=hid O9;have K9:=hid ((K.out.alloc _).grown G9 (fun g e=>(O.out.lt g e).1));have R9:=hid ((RR.out.alloc _).grown G9 (fun g e=>by have:=(O.out.lt g e).1; omega))
   clear G9 O K RR;go_wp2;go_ret;exact CM O9.out (by omega) R9.out (by omega) K9.out
 have d0:(c0==0)=false:=beq_eq_false_iff_ne.2 e0;have d1:(c0==1)=false:=beq_eq_false_iff_ne.2 e1;have d2:(c0==2)=false:=beq_eq_false_iff_ne.2 e2;clear e0 e1 e2;go_wp2;go_ret;exact CM O.out (by omega) RR.out (by omega) K.out
theorem He{B:Nat}(r:Nat)(k:Int)(i t x y:Int)(A:Option Addr)(n c:Nat)(G:Option Addr)(m kk:Nat)(fp fq fs fz b:Int)(ws gs:List Bx)(w:World)(R:RdU B w r k)(k0:0<=k)(hk:k<=50000)(I:Boxes w A n ws)(J:Boxes w G m gs)(MA:AE B A)(MG:AE B G)(ok:Cx ws=true)(hn:n<=10)(hm:m<=10)(hL:DT t x y b) :
 Calls Try.prog 50 #[.pointer (some ⟨r,0,none⟩),Ey i t x y A n c G m kk fp fq fs fz b] w (HQ B r k w) :=
 (Gh r k i t x y A n c G m kk fp fq fs fz b ws gs w R k0 hk I J MA MG ok hn hm hL).mono fun e w' ⟨A,n,c,xs,_,h⟩=>⟨A,n,c,xs,h⟩
end Go.Proofs.Ytflmmdljkhdjlaa
