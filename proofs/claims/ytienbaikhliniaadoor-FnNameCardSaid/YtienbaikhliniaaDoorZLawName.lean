import Derived.Test.YtienbaikhliniaaDoorZErrs
import Derived.Lib.Strings
import Derived.Lib.Slices
set_option linter.all false
set_option maxRecDepth 100000
set_option maxHeartbeats 8000000
open Go.Lib
namespace Go.Proofs.YtienbaikhliniaaDoor
open Go.RowKit
open M
theorem Af{a b:ByteArray}(h:a=b):Ending.returned (.string a)=.returned (.string b):=by rw[h]
theorem AN(v:Int)(w:World):Calls Tryd.prog 7 #[.int .i64 v] w fun e w'=>e=.returned (.string (AE (Ab v)))/\Below w.heap.size w w':=by
 have IN:=hid (fun W=>Bh v 0 9 W);have:v<0\/9<v\/v=0\/v=1\/v=2\/v=3\/v=4\/v=5\/v=6\/v=7\/v=8\/v=9:=by omega
 rcases this with h | h | rfl | rfl | rfl | rfl | rfl | rfl | rfl | rfl | rfl | rfl
 iterate 2
  . rw[AX (by omega)] at IN;have E:=hid (show Ab v=[] by unfold Ab; rw[if_neg (by omega)]);go_enter Tryd.func7,Tryd.ntmps7;go_wp2_with fail;refine(IN.out _).mono ?_;rintro e w' ⟨rfl,rfl⟩;go_wp2;go_ret;exact⟨Af (by rw[E.out]),AL (An _) _⟩
 all_goals
  rw[A0 (by omega)] at IN;go_enter Tryd.func7,Tryd.ntmps7;go_wp2_with fail;refine(IN.out _).mono ?_;rintro e w' ⟨rfl,rfl⟩;go_wp2;go_ret;exact⟨Af rfl,AL (An _) _⟩
theorem AD(v:Int)(w:World)(E:Errs w):Calls Tryd.prog 6 #[.int .i64 v] w fun e w'=>e=.returned (.string (AE (Ab v)))/\Below w.heap.size w w':=by
 have RF:=hid (AP w E);have:v<0\/9<v\/v=0\/v=1\/v=2\/v=3\/v=4\/v=5\/v=6\/v=7\/v=8\/v=9:=by omega
 rcases this with h | h | rfl | rfl | rfl | rfl | rfl | rfl | rfl | rfl | rfl | rfl
 . have g1:(v==0)=false:=beq_eq_false_iff_ne.2 (by omega);have g2:¬ (1<=v):=by omega
   have Z:=hid (show Ab v=[] by unfold Ab; rw[if_neg (by omega)]);clear RF h;go_enter Tryd.func6,Tryd.ntmps6;go_wp2;go_ret;exact⟨Af (by rw[Z.out]),An _⟩
 . have g1:(v==0)=false:=beq_eq_false_iff_ne.2 (by omega);have g2:1<=v:=by omega
   have g3:¬ v<=9:=by omega
   have Z:=hid (show Ab v=[] by unfold Ab; rw[if_neg (by omega)]);clear RF h;go_enter Tryd.func6,Tryd.ntmps6;go_wp2;go_ret;exact⟨Af (by rw[Z.out]),An _⟩
 . clear RF;go_enter Tryd.func6,Tryd.ntmps6;go_wp2;go_ret;exact⟨Af rfl,An _⟩
 . go_enter Tryd.func6,Tryd.ntmps6;go_wp2_with fail;refine RF.out.mono ?_;rintro e w1 ⟨b,rfl,B,hb,hl,⟨a0,c0,s0⟩,_,_,_,_,_,_,_,_⟩;have B:=hid B;have s0:=hid s0;go_wp2_with fail;refine(Ac _ _ _ s0.out).mono ?_;rintro e w' ⟨rfl,rfl⟩;go_wp2;go_ret;exact⟨Af rfl,B.out⟩
 . go_enter Tryd.func6,Tryd.ntmps6;go_wp2_with fail;refine RF.out.mono ?_;rintro e w1 ⟨b,rfl,B,hb,hl,_,⟨a1,c1,s1⟩,_,_,_,_,_,_,_⟩;have B:=hid B;have s1:=hid s1;go_wp2_with fail;refine(Ac _ _ _ s1.out).mono ?_;rintro e w' ⟨rfl,rfl⟩;go_wp2;go_ret;exact⟨Af rfl,B.out⟩
 . go_enter Tryd.func6,Tryd.ntmps6;go_wp2_with fail;refine RF.out.mono ?_;rintro e w1 ⟨b,rfl,B,hb,hl,_,_,⟨a2,c2,s2⟩,_,_,_,_,_,_⟩;have B:=hid B;have s2:=hid s2;go_wp2_with fail;refine(Ac _ _ _ s2.out).mono ?_;rintro e w' ⟨rfl,rfl⟩;go_wp2;go_ret;exact⟨Af rfl,B.out⟩
 . go_enter Tryd.func6,Tryd.ntmps6;go_wp2_with fail;refine RF.out.mono ?_;rintro e w1 ⟨b,rfl,B,hb,hl,_,_,_,⟨a3,c3,s3⟩,_,_,_,_,_⟩;have B:=hid B;have s3:=hid s3;go_wp2_with fail;refine(Ac _ _ _ s3.out).mono ?_;rintro e w' ⟨rfl,rfl⟩;go_wp2;go_ret;exact⟨Af rfl,B.out⟩
 . go_enter Tryd.func6,Tryd.ntmps6;go_wp2_with fail;refine RF.out.mono ?_;rintro e w1 ⟨b,rfl,B,hb,hl,_,_,_,_,⟨a4,c4,s4⟩,_,_,_,_⟩;have B:=hid B;have s4:=hid s4;go_wp2_with fail;refine(Ac _ _ _ s4.out).mono ?_;rintro e w' ⟨rfl,rfl⟩;go_wp2;go_ret;exact⟨Af rfl,B.out⟩
 . go_enter Tryd.func6,Tryd.ntmps6;go_wp2_with fail;refine RF.out.mono ?_;rintro e w1 ⟨b,rfl,B,hb,hl,_,_,_,_,_,⟨a5,c5,s5⟩,_,_,_⟩;have B:=hid B;have s5:=hid s5;go_wp2_with fail;refine(Ac _ _ _ s5.out).mono ?_;rintro e w' ⟨rfl,rfl⟩;go_wp2;go_ret;exact⟨Af rfl,B.out⟩
 . go_enter Tryd.func6,Tryd.ntmps6;go_wp2_with fail;refine RF.out.mono ?_;rintro e w1 ⟨b,rfl,B,hb,hl,_,_,_,_,_,_,⟨a6,c6,s6⟩,_,_⟩;have B:=hid B;have s6:=hid s6;go_wp2_with fail;refine(Ac _ _ _ s6.out).mono ?_;rintro e w' ⟨rfl,rfl⟩;go_wp2;go_ret;exact⟨Af rfl,B.out⟩
 . go_enter Tryd.func6,Tryd.ntmps6;go_wp2_with fail;refine RF.out.mono ?_;rintro e w1 ⟨b,rfl,B,hb,hl,_,_,_,_,_,_,_,⟨a7,c7,s7⟩,_⟩;have B:=hid B;have s7:=hid s7;go_wp2_with fail;refine(Ac _ _ _ s7.out).mono ?_;rintro e w' ⟨rfl,rfl⟩;go_wp2;go_ret;exact⟨Af rfl,B.out⟩
 . go_enter Tryd.func6,Tryd.ntmps6;go_wp2_with fail;refine RF.out.mono ?_;rintro e w1 ⟨b,rfl,B,hb,hl,_,_,_,_,_,_,_,_,⟨a8,c8,s8⟩⟩;have B:=hid B;have s8:=hid s8;go_wp2_with fail;refine(Ac _ _ _ s8.out).mono ?_;rintro e w' ⟨rfl,rfl⟩;go_wp2;go_ret;exact⟨Af rfl,B.out⟩
def Bd(w:World)(e:Ending)(w':World):Prop:=∃ v:Int,(-1<=v/\v<=10)/\e=.returned (.int .i64 v)/\Below w.heap.size w w'
theorem AW(a:Option Addr)(len cap:Nat)(zs:List Int)(w:World)(h:IsRow .u8 w a len cap zs):Calls Tryd.prog 5 #[.slice a len cap] w (Bd w):=by
 go_enter Tryd.func5,Tryd.ntmps5;go_wp2_with fail;refine(Ba a len cap zs _ h).mono ?_;rintro e w1 ⟨rfl,R1,B1⟩;have z1:=R1.base;have H1:=hid B1;clear B1 h;go_wp2_with fail;refine(A8 _ 12 0 _ R1 (by omega) (by omega) (by omega)).mono ?_;rintro e w2 ⟨n,⟨n0,n1⟩,rfl,R2,K2⟩;have H2:=hid (Bb H1.out K2 (Nat.le_refl _));clear K2 R1 R2 H1;go_wp2;go_ret;exact⟨_,⟨by omega,by omega⟩,rfl,H2.out⟩
theorem AZ(v:Int):((AE (Ab v)).toList != (AE (Ab v)).toList)=false:=by simp
theorem Ai(v:Int)(w:World)(E:Errs w) :
 Calls Tryd.prog 4 #[.int .i64 v] w fun e w'=>e=.returned (.bool true)/\Below w.heap.size w w':=by
 have nz:=AZ v;go_enter Tryd.func4,Tryd.ntmps4;go_wp2_with fail;refine(AN v w).mono ?_;rintro e w1 ⟨rfl,B1⟩;have E1:=E.step B1;have B1:=hid B1;go_wp2_with fail;refine(AD v w1 E1).mono ?_;rintro e w2 ⟨rfl,B2⟩;have B2:=hid (Ag B1.out B2);clear E1 B1 E;go_wp2;go_ret;exact⟨rfl,B2.out⟩
theorem A5(k v:Nat)(hk:k<=9)(hv:v<=10)(h:k≠v):Ab k≠Ab v:=by
 have a:∀ k:Fin 10,∀ v:Fin 11,k.val≠v.val->Ab (k.val:Int)≠Ab (v.val:Int):=by decide +kernel
 exact a ⟨k,by omega⟩ ⟨v,by omega⟩ h
theorem AJ(v:Nat)(hv:v<=9):Ab v≠[]:=by
 have a:∀ v:Fin 10,Ab (v.val:Int)≠[]:=by decide +kernel
 exact a ⟨v,by omega⟩
theorem AV(a:Option Addr)(len cap:Nat)(zs:List Int)(a2:Option Addr)(len2 cap2:Nat)(zs2:List Int)(w:World)(h:IsRow .u8 w a len cap zs)(h2:IsRow .u8 w a2 len2 cap2 zs2)(E:Errs w) :
 Calls Tryd.prog 3 #[.slice a len cap,.slice a2 len2 cap2] w fun e w'=>e=.returned (.bool true)/\Below w.heap.size w w':=by
 have hm:=h.bytes.1;have hm2:=h.bytes.2.1;have hm3:=h2.bytes.1;have hm4:=h2.bytes.2.1;unfold maxLen at hm2 hm4;by_cases g:1048576<len
 . have g1:(1048576:Int)<(len:Int):=by omega
   go_enter Tryd.func3,Tryd.ntmps3;go_wp2;go_ret;exact⟨rfl,Below.refl _ _⟩
 by_cases g2:1048576<len2
 . have g1:(len:Int)<=1048576:=by omega
   have g3:(1048576:Int)<(len2:Int):=by omega
   go_enter Tryd.func3,Tryd.ntmps3;go_wp2;go_ret;exact⟨rfl,Below.refl _ _⟩
 have g1:(len:Int)<=1048576:=by omega
 have g3:(len2:Int)<=1048576:=by omega
 have g4:(0:Int)<=(len2:Int):=by omega
 have E:=hid E;go_enter Tryd.func3,Tryd.ntmps3;go_wp2_with fail;refine(AW a len cap zs w h).mono ?_;rintro e w1 ⟨v,⟨v0,v1⟩,rfl,B1⟩;have E1:=hid (E.out.step B1);have H1:=hid B1;clear B1 h h2 E;have nz:=AZ v;go_wp2_with fail;refine(AD v w1 E1.out).mono ?_;rintro e w2 ⟨rfl,B2⟩;have E2:=hid (E1.out.step B2);have H2:=hid (Ag H1.out B2);clear B2 H1 E1;go_wp2_with fail;refine(AN v w2).mono ?_;rintro e w3 ⟨rfl,B3⟩;have E3:=hid (E2.out.step B3);have H3:=hid (Ag H2.out B3);clear B3 H2 E2;obtain⟨k,ek,k9⟩:∃ k:Nat,(len2:Int) % 10=(k:Int)/\k<=9:=⟨len2 % 10,by omega,by omega⟩;have Q:=hid (AD k w3 E3.out)
 by_cases r:0<=v/\v<=9
 . obtain⟨r1,r2⟩:=r;have ns:(Ab v==[])=false:=beq_eq_false_iff_ne.2 (by obtain⟨m,rfl⟩:=Int.eq_ofNat_of_zero_le r1; exact AJ m (by omega));by_cases kv:(k:Int)=v
   . have e2:((k:Int)==v)=true:=beq_iff_eq.2 kv;clear kv;go_wp2;go_ret;exact⟨rfl,H3.out⟩
   . have e2:((k:Int)==v)=false:=beq_eq_false_iff_ne.2 kv;have nn:(Ab k==Ab v)=false:=beq_eq_false_iff_ne.2 (by obtain⟨m,rfl⟩:=Int.eq_ofNat_of_zero_le r1; exact A5 k m k9 (by omega) (by omega));clear kv;go_wp2_with fail;refine Q.out.mono ?_;rintro e w4 ⟨rfl,B4⟩;have H4:=hid (Ag H3.out B4);go_wp2;go_ret;exact⟨rfl,H4.out⟩
 . have e2:((k:Int)==v)=false:=beq_eq_false_iff_ne.2 (by omega);have ne:Ab v=[]:=by unfold Ab; rw[if_neg r]
   have nn:(Ab k==[])=false:=beq_eq_false_iff_ne.2 (AJ k k9);rw[ne] at nz;by_cases r0:0<=v
   . have r1:¬ v<=9:=by omega
     clear r;go_wp2_with fail;refine Q.out.mono ?_;rintro e w4 ⟨rfl,B4⟩;have H4:=hid (Ag H3.out B4);go_wp2;go_ret;exact⟨A1 (by simp; omega),H4.out⟩
   . clear r;go_wp2_with fail;refine Q.out.mono ?_;rintro e w4 ⟨rfl,B4⟩;have H4:=hid (Ag H3.out B4);go_wp2;go_ret;exact⟨rfl,H4.out⟩
end Go.Proofs.YtienbaikhliniaaDoor
