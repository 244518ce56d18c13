import Derived.Test.YtienbaikhliniaaZHashS
import Derived.Test.YtienbaikhliniaaZRdS
import Derived.Maps.AppendAt
import Derived.OwnWalk
import Derived.Laws.OwnMore
set_option linter.all false
set_option maxRecDepth 100000
set_option maxHeartbeats 8000000
open Go.Lib
namespace Go.Proofs.Ytienbaikhliniaa
open Go.RowKit
open M
theorem Kept.grows{r:Nat}{w w':World}(K:Kept r w w'):w.grownBy w' (some r):=⟨K.os,K.tape,K.output,K.size,fun k hk hne=>K.block k hk (fun e=>hne (by rw[e]))⟩
theorem Kept.grown{r:Nat}{w a b:World}{row:Option Nat}(K:Kept r w a)(hg:a.grownBy b row)(hr:∀ g,row=some g->w.heap.size<=g):Kept r w b :=
 ⟨hg.os.trans K.os,hg.tape.trans K.tape,hg.output.trans K.output,Nat.le_trans K.size hg.size,fun k hk hne=>(hg.block k (Nat.lt_of_lt_of_le hk K.size) (fun e=>by have:=hr k e.symm; omega)).trans (K.block k hk hne)⟩
theorem RdU.grown{B:Nat}{a b:World}{r:Nat}{k:Int}{row:Option Nat}(R:RdU B a r k)(hg:a.grownBy b row)(hr:∀ g,row=some g->B<=g):RdU B b r k :=
 R.below ((Below.refl _ _).grown hg R.base hr)
theorem Ag{w w':World}{base:Nat}{e:TypeId}{v:Value}{n r:Nat}{xs:List Value}(h:w.ownsRow base e 1 v n xs)(K:Kept r w w')(hr:r<base):w'.ownsRow base e 1 v n xs :=
 h.kept K.grows (.inr fun he=>by have:=(h.lt r he).1; omega)
theorem Ints.of_own{w:World}{base:Nat}{e:TypeId}{v:Value}{n:Nat}{xs:List Int}(h:w.ownsRow base e 1 v n (xs.map (Value.int .i64))):∃ A cap,v=.slice A n cap/\Ints w A n xs:=by
 have hl:xs.length=n:=by simpa using h.1
 have h0:=h;rcases h0.2 with⟨rfl,rfl⟩ | ⟨g,cap,cur,rfl,_,hh,_⟩
 . exact⟨none,0,rfl,hl,fun hn=>by omega⟩
 . refine⟨_,_,rfl,hl,fun _=>⟨g,0,rfl,?_,fun k hk=>?_⟩⟩
   . exact(h.lt g rfl).2
   . rw[Nat.zero_add,h.cellAt k (by omega),List.getElem?_map,List.getD_eq_getElem?_getD,List.getElem?_eq_getElem (by omega)];rfl
def Fits(xs:List Int):Prop:=∀ x∈xs,-2000000001<=x/\x<=2000000001
theorem Fits.snoc{xs:List Int}(h:Fits xs){x:Int}(hx:-2000000001<=x/\x<=2000000001):Fits (xs++[x]):=fun y hy=>by
 rcases List.mem_append.1 hy with g | g
 . exact h y g
 . rw[List.mem_singleton.1 g]; exact hx
theorem Fits.set{xs:List Int}(h:Fits xs)(j:Nat){x:Int}(hx:-2000000001<=x/\x<=2000000001):Fits (xs.set j x):=fun y hy=>by
 rcases List.mem_or_eq_of_mem_set hy with g | rfl
 . exact h y g
 . exact hx
def BA(B:Nat)(r:Nat)(k:Int)(w:World)(e:Ending)(w':World):Prop :=
 ∃(A:Option Addr) (n cap:Nat) (xs:List Int),n<=201/\Fits xs/\e=.returned (.slice A n cap)/\Ints w' A n xs/\RdU B w' r (k+700)/\Kept r w w'
def A1(B:Nat)(r:Nat)(k:Int)(w:World)(n:Nat)(v i:Value)(W:World):Prop :=
 ∃(j:Nat) (xs:List Int),j<=n/\i=.int .i64 j/\Fits xs/\W.ownsRow w.heap.size 3 1 v j (xs.map (Value.int .i64))/\RdU B W r (k+3+3*j)/\Kept r w W
theorem AS{B r:Nat}{k:Int}{w W w1:World}{n j:Nat}{v v':Value}{xs:List Int}{z:Int}(hj:j<n)(F:Fits xs)(hz:-2000000001<=z/\z<=2000000001)
 (h:w1.ownsRow w.heap.size 3 1 v' (j+1) (xs.map (Value.int .i64)++[.int .i64 z])) (R:RdU B W r (k+3+3*j+3)) (K:Kept r w W) (hg:W.grownBy w1 v.ownBlock) (hb:∀ g,v.ownBlock=some g->w.heap.size<=g) (hB:B<=w.heap.size) :
 A1 B r k w n v' (.int .i64 (j+1)) w1 :=
 ⟨j+1,xs++[z],by omega,by simp,F.snoc hz,by simpa using h,(R.grown hg (fun g e=>Nat.le_trans hB (hb g e))).mono (by omega),K.grown hg hb⟩
theorem Au:(Try.prog.info? 3).map (fun i=>(i.zero,i.size,i.bytes))=some (some (.int .i64 0),1,8):=by kernel_rfl
theorem Bh{B:Nat}(r:Nat)(k:Int)(w:World)(R:RdU B w r k)(hk:k<=70000)(k0:0<=k) :
 Calls Try.prog 18 #[.pointer (some ⟨r,0,none⟩)] w (BA B r k w):=by
 obtain⟨i0,hi,hz0,hz1,hz2⟩:=info_parts Au;have hi:=hi;have hB:=R.base;have hr:r<w.heap.size:=by have:=R.here; omega
 have R:=hid R;go_enter Try.func18,Try.ntmps18;go_wp2_with fail;refine(Ac r 12 k _ (R.out.alloc _) (by omega) (by omega) (by omega)).mono ?_;rintro e w1 ⟨a,⟨a0,a1⟩,rfl,R1,K1⟩;have O1:=hid (Ag (World.ownsRow_lit (base:=w.heap.size) (e:=3) (size:=1) w #[] 0 (Nat.le_refl _) (by decide) (by simp)) K1 hr);have K1:=hid ((Kept.refl r w).alloc _ |>.trans K1);have R1:=hid R1;go_wp2_with fail;refine(Ac r 24 _ _ R1.out (by omega) (by omega) (by omega)).mono ?_;rintro e w2 ⟨c,⟨c0,c1⟩,rfl,R2,K2⟩;have O2:=hid (Ag O1.out K2 hr);have K2:=hid (K1.out.trans K2);have R2:=hid R2;clear O1 K1 R1 R;by_cases hc:c=0
 . subst hc;go_wp2_with fail;refine(Ac r 3 _ _ R2.out (by omega) (by omega) (by omega)).mono ?_;rintro e w3 ⟨d,⟨d0,d1⟩,rfl,R3,K3⟩;have OW:=Ag O2.out K3 hr;have KK:=K2.out.trans K3;have RR:=R3.mono (k':=k+3+3*((0:Nat):Int)) (by omega);obtain⟨n,hn⟩:∃ n:Nat,(n:Int)=199+d:=⟨(199+d).toNat,by omega⟩;have n201:n<=201:=by omega
   have hw':IntKind.i64.wrap (199+d)=(n:Int):=by rw[IntWalk.i64_in _ (by omega),hn]
   have hn':=hn.symm;clear hn K3 R3 O2 K2 R2;go_wp2
   go_loopw [3,5] (A1 B r k w n) (fun _ i _=>n-(intOf i).toNat)
   case atStart=>exact⟨0,[],Nat.zero_le _,rfl,(fun x hx=>by cases hx),OW,RR,KK⟩
   case round =>
    obtain⟨j,xs,hj,rfl,Fx,OX,RX,KX⟩:=hrel;have hb:=fun g e=>(OX.lt g e).1;have OX:=hid OX;have RX:=hid RX;have KX:=hid KX;have Fx:=hid Fx;by_cases hlt:j<n
    . go_wp2_with fail;refine(Ac r 100 _ _ RX.out (by omega) (by omega) (by omega)).mono ?_;rintro e w4 ⟨x,⟨x0,x1⟩,rfl,R4,K4⟩;have O4:=hid (Ag OX.out K4 hr);have K4:=hid (KX.out.trans K4);have R4:=hid R4;go_wp2_with fail;refine(Ac r 100 _ _ R4.out (by omega) (by omega) (by omega)).mono ?_;rintro e w5 ⟨y,⟨y0,y1⟩,rfl,R5,K5⟩;have O5:=hid (Ag O4.out K5 hr);have K5:=hid (K4.out.trans K5);have R5:=hid R5;go_wp2_with fail;refine(Ac r 2 _ _ R5.out (by omega) (by omega) (by omega)).mono ?_;rintro e w6 ⟨b,⟨b0,b1⟩,rfl,R6,K6⟩;have O6:=hid (Ag O5.out K6 hr);have K6:=hid (K5.out.trans K6);have R6:=hid R6
      clear K4 R4 O4 K5 R5 O5 OX RX KX;have s6:=hid K6.out.size;rcases AE b0 b1 with rfl | rfl
      all_goals
       go_wp2_with (at_builtin; refine wpList_append_own_at _ rfl _ _ 23 rfl w.heap.size 3 i0 (.int .i64 0) 1 8 Try.underlying23 hi hz0 hz1 hz2 rfl (by decide) _ _ _ rfl (O6.out.alloc _) ⟨w6.heap.size,0,none⟩ 1 1 [_] rfl rfl (cell_one_new _ _ _) (by intro u hu; simp at hu; subst hu; rfl) (by unfold maxLen; omega) (by omega) (by have:=s6.out; simp; omega) ?_);intro v' w7 O7 G7 _ _;have A7:=hid (AS (k:=k) hlt Fx.out (by omega) O7 ((R6.out.alloc _).mono (by omega)) (K6.out.alloc _) G7 hb hB);go_wp2
       go_roundw
       case rel=>exact A7.out
       case measure=>simp[intOf]; omega
    . obtain rfl:j=n:=by omega
      obtain⟨A,cap,rfl,IX⟩:=Ints.of_own OX.out;by_cases n0:j=0
      . subst n0;have IX:=hid IX;go_wp2;go_ret;exact⟨A,0,cap,xs,by omega,Fx.out,rfl,IX.out,RX.out.mono (by omega),KX.out⟩
      . have n1:(0:Int)<(j:Int):=by omega
        go_wp2_with fail;refine(Ac r 12 _ _ RX.out (by omega) (by omega) (by omega)).mono ?_;rintro e w4 ⟨x,⟨x0,x1⟩,rfl,R4,K4⟩;have O4:=hid (Ag OX.out K4 hr);have K4:=hid (KX.out.trans K4);have R4:=hid R4;by_cases hx:x=0
        . subst hx;go_wp2_with fail;refine(Ac r _ _ _ R4.out (by omega) (by omega) (by omega)).mono ?_;rintro e w5 ⟨y,⟨y0,y1⟩,rfl,R5,K5⟩;have O5:=hid (Ag O4.out K5 hr);have K5:=hid (K4.out.trans K5);have R5:=hid R5;go_wp2_with fail;refine(AR r _ _ R5.out (by omega)).mono ?_;rintro e w6 ⟨z,hz,rfl,R6,K6⟩;have O6:=Ag O5.out K6 hr;have K6:=hid (K5.out.trans K6);have R6:=hid R6;obtain⟨q,rfl⟩:=Int.eq_ofNat_of_zero_le y0;have hq:q<j:=by omega
          rcases O6.2 with⟨_,h0⟩ | ⟨g,cp,cur,hv,hbg,hh,_⟩
          . omega
          simp only[Value.slice.injEq,true_and] at hv;obtain⟨rfl,rfl⟩:=hv;have f6:=O6.frozenAt q;obtain⟨u6,c6⟩:∃ u,w6.cell? ⟨g,q,none⟩=some u:=by
           have hl:(xs.map (Value.int .i64)).length=j:=by simpa using O6.1
           exact⟨_,(O6.cellAt q (by omega)).trans (List.getElem?_eq_getElem (by omega))⟩
          obtain⟨O7,G7⟩:=O6.stored q (.int .i64 z);rw[<- List.map_set] at O7;obtain⟨A',cap',hv',I7⟩:=Ints.of_own O7;simp only[Value.slice.injEq,true_and] at hv';obtain⟨rfl,rfl⟩:=hv';have F7:=hid (Fx.out.set q hz);have K7:=hid (K6.out.grown G7 (fun g' e=>by simp at e; omega));have R7:=hid (R6.out.grown G7 (fun g' e=>by simp at e; omega));have I7:=hid I7;clear O7 G7 O6 K4 R4 O4 K5 R5 O5 OX RX KX IX K6 R6 hh Fx;go_wp2;go_ret;exact⟨_,j,_,_,by omega,F7.out,rfl,I7.out,R7.out.mono (by omega),K7.out⟩
        . have hx':(x==0)=false:=beq_eq_false_iff_ne.2 hx;obtain⟨A',cap',hv',I4⟩:=Ints.of_own O4.out;simp only[Value.slice.injEq,true_and] at hv';obtain⟨rfl,rfl⟩:=hv';have I4:=hid I4;clear IX OX RX KX O4;go_wp2;go_ret;exact⟨_,j,_,xs,by omega,Fx.out,rfl,I4.out,R4.out.mono (by omega),K4.out⟩
 . have hc':(c==0)=false:=beq_eq_false_iff_ne.2 hc;have OW:=O2.out;have KK:=K2.out;have RR:=R2.out.mono (k':=k+3+3*((0:Nat):Int)) (by omega);obtain⟨n,rfl⟩:=Int.eq_ofNat_of_zero_le a0;have n201:n<=201:=by omega
   go_wp2
   go_loopw [3,5] (A1 B r k w n) (fun _ i _=>n-(intOf i).toNat)
   case atStart=>exact⟨0,[],Nat.zero_le _,rfl,(fun x hx=>by cases hx),OW,RR,KK⟩
   case round =>
    obtain⟨j,xs,hj,rfl,Fx,OX,RX,KX⟩:=hrel;have hb:=fun g e=>(OX.lt g e).1;have OX:=hid OX;have RX:=hid RX;have KX:=hid KX;have Fx:=hid Fx;by_cases hlt:j<n
    . go_wp2_with fail;refine(Ac r 100 _ _ RX.out (by omega) (by omega) (by omega)).mono ?_;rintro e w4 ⟨x,⟨x0,x1⟩,rfl,R4,K4⟩;have O4:=hid (Ag OX.out K4 hr);have K4:=hid (KX.out.trans K4);have R4:=hid R4;go_wp2_with fail;refine(Ac r 100 _ _ R4.out (by omega) (by omega) (by omega)).mono ?_;rintro e w5 ⟨y,⟨y0,y1⟩,rfl,R5,K5⟩;have O5:=hid (Ag O4.out K5 hr);have K5:=hid (K4.out.trans K5);have R5:=hid R5;go_wp2_with fail;refine(Ac r 2 _ _ R5.out (by omega) (by omega) (by omega)).mono ?_;rintro e w6 ⟨b,⟨b0,b1⟩,rfl,R6,K6⟩;have O6:=hid (Ag O5.out K6 hr);have K6:=hid (K5.out.trans K6);have R6:=hid R6
      clear K4 R4 O4 K5 R5 O5 OX RX KX;have s6:=hid K6.out.size;rcases AE b0 b1 with rfl | rfl
      all_goals
       go_wp2_with (at_builtin; refine wpList_append_own_at _ rfl _ _ 23 rfl w.heap.size 3 i0 (.int .i64 0) 1 8 Try.underlying23 hi hz0 hz1 hz2 rfl (by decide) _ _ _ rfl (O6.out.alloc _) ⟨w6.heap.size,0,none⟩ 1 1 [_] rfl rfl (cell_one_new _ _ _) (by intro u hu; simp at hu; subst hu; rfl) (by unfold maxLen; omega) (by omega) (by have:=s6.out; simp; omega) ?_);intro v' w7 O7 G7 _ _;have A7:=hid (AS (k:=k) hlt Fx.out (by omega) O7 ((R6.out.alloc _).mono (by omega)) (K6.out.alloc _) G7 hb hB);go_wp2
       go_roundw
       case rel=>exact A7.out
       case measure=>simp[intOf]; omega
    . obtain rfl:j=n:=by omega
      obtain⟨A,cap,rfl,IX⟩:=Ints.of_own OX.out;by_cases n0:j=0
      . subst n0;have IX:=hid IX;go_wp2;go_ret;exact⟨A,0,cap,xs,by omega,Fx.out,rfl,IX.out,RX.out.mono (by omega),KX.out⟩
      . have n1:(0:Int)<(j:Int):=by omega
        go_wp2_with fail;refine(Ac r 12 _ _ RX.out (by omega) (by omega) (by omega)).mono ?_;rintro e w4 ⟨x,⟨x0,x1⟩,rfl,R4,K4⟩;have O4:=hid (Ag OX.out K4 hr);have K4:=hid (KX.out.trans K4);have R4:=hid R4;by_cases hx:x=0
        . subst hx;go_wp2_with fail;refine(Ac r _ _ _ R4.out (by omega) (by omega) (by omega)).mono ?_;rintro e w5 ⟨y,⟨y0,y1⟩,rfl,R5,K5⟩;have O5:=hid (Ag O4.out K5 hr);have K5:=hid (K4.out.trans K5);have R5:=hid R5;go_wp2_with fail;refine(AR r _ _ R5.out (by omega)).mono ?_;rintro e w6 ⟨z,hz,rfl,R6,K6⟩;have O6:=Ag O5.out K6 hr;have K6:=hid (K5.out.trans K6);have R6:=hid R6;obtain⟨q,rfl⟩:=Int.eq_ofNat_of_zero_le y0;have hq:q<j:=by omega
          rcases O6.2 with⟨_,h0⟩ | ⟨g,cp,cur,hv,hbg,hh,_⟩
          . omega
          simp only[Value.slice.injEq,true_and] at hv;obtain⟨rfl,rfl⟩:=hv;have f6:=O6.frozenAt q;obtain⟨u6,c6⟩:∃ u,w6.cell? ⟨g,q,none⟩=some u:=by
           have hl:(xs.map (Value.int .i64)).length=j:=by simpa using O6.1
           exact⟨_,(O6.cellAt q (by omega)).trans (List.getElem?_eq_getElem (by omega))⟩
          obtain⟨O7,G7⟩:=O6.stored q (.int .i64 z);rw[<- List.map_set] at O7;obtain⟨A',cap',hv',I7⟩:=Ints.of_own O7;simp only[Value.slice.injEq,true_and] at hv';obtain⟨rfl,rfl⟩:=hv';have F7:=hid (Fx.out.set q hz);have K7:=hid (K6.out.grown G7 (fun g' e=>by simp at e; omega));have R7:=hid (R6.out.grown G7 (fun g' e=>by simp at e; omega));have I7:=hid I7;clear O7 G7 O6 K4 R4 O4 K5 R5 O5 OX RX KX IX K6 R6 hh Fx;go_wp2;go_ret;exact⟨_,j,_,_,by omega,F7.out,rfl,I7.out,R7.out.mono (by omega),K7.out⟩
        . have hx':(x==0)=false:=beq_eq_false_iff_ne.2 hx;obtain⟨A',cap',hv',I4⟩:=Ints.of_own O4.out;simp only[Value.slice.injEq,true_and] at hv';obtain⟨rfl,rfl⟩:=hv';have I4:=hid I4;clear IX OX RX KX O4;go_wp2;go_ret;exact⟨_,j,_,xs,by omega,Fx.out,rfl,I4.out,R4.out.mono (by omega),K4.out⟩
def BS(B:Nat)(r:Nat)(k:Int)(w:World)(e:Ending)(w':World):Prop :=
 ∃ x:Int,(-1<=x/\x<=10000)/\e=.returned (.int .i64 x)/\RdU B w' r (k+3)/\Kept r w w'
theorem BB{B:Nat}(r:Nat)(k:Int)(w:World)(R:RdU B w r k)(hk:k<=70000) :
 Calls Try.prog 17 #[.pointer (some ⟨r,0,none⟩)] w (BS B r k w):=by
 have hB:=R.base;have hr:r<w.heap.size:=by have:=R.here; omega
 have R:=hid R;go_enter Try.func17,Try.ntmps17;go_wp2_with fail;refine(Ac r 20 k _ R.out (by omega) (by omega) (by omega)).mono ?_;rintro e w1 ⟨a,⟨a0,a1⟩,rfl,R1,K1⟩;have r1:r<w1.heap.size:=by have:=K1.size; omega
 have K1:=hid K1;have R1:=hid R1;by_cases ha:a=0
 . subst ha;go_wp2_with fail;refine(Ac r 4 _ _ (R1.out.alloc _) (by omega) (by omega) (by omega)).mono ?_;rintro e w2 ⟨c,⟨c0,c1⟩,rfl,R2,K2⟩;have cell:∀ q,q<4->w2.cell? ⟨w1.heap.size,q,none⟩=#[Value.int .i64 0,.int .i64 9999,.int .i64 10000,.int .i64 (-1)][q]?:=fun q hq=>by
    rw[K2.cell (p:=⟨w1.heap.size,q,none⟩) (by simp) (by simp; omega)];simp[World.cell?_alloc_new]
   have cc:c=0\/c=1\/c=2\/c=3:=by omega
   have K2:=hid (K1.out.trans ((Kept.refl r w1).alloc _ |>.trans K2));have R2:=hid R2;have q0:=cell 0 (by omega);have q1:=cell 1 (by omega);have q2:=cell 2 (by omega);have q3:=cell 3 (by omega);simp at q0 q1 q2 q3;clear cell;rcases cc with rfl | rfl | rfl | rfl
   all_goals
    go_wp2;go_ret;exact⟨_,by omega,rfl,R2.out.mono (by omega),K2.out⟩
 . have ha':(a==0)=false:=beq_eq_false_iff_ne.2 ha;go_wp2_with fail;refine(Ac r 99 _ _ R1.out (by omega) (by omega) (by omega)).mono ?_;rintro e w2 ⟨x,⟨x0,x1⟩,rfl,R2,K2⟩;have K2:=hid (K1.out.trans K2);have R2:=hid R2;go_wp2_with fail;refine(Ac r 100 _ _ R2.out (by omega) (by omega) (by omega)).mono ?_;rintro e w3 ⟨y,⟨y0,y1⟩,rfl,R3,K3⟩;have K3:=hid (K2.out.trans K3);have R3:=hid R3;clear K1 K2 R1 R2 R;go_wp2;go_ret;exact⟨_,by omega,rfl,R3.out.mono (by omega),K3.out⟩
def BU(w:World)(e:Ending)(w':World):Prop :=
 ∃(k:Int) (A:Option Addr) (n cap:Nat) (xs:List Int),(-1<=k/\k<=10000)/\n<=201/\Fits xs/\e=.returned (.tuple #[.int .i64 k,.slice A n cap])/\Ints w' A n xs/\Below w.heap.size w w'
theorem Av(a:Option Addr)(len cap:Nat)(zs:List Int)(w:World)(h:IsRow .u8 w a len cap zs) :
 Calls Try.prog 9 #[.slice a len cap] w (BU w):=by
 go_enter Try.func9,Try.ntmps9;go_wp2_with fail;refine(BP a len cap zs w h).mono ?_;rintro e w1 ⟨rfl,R1,B1⟩;go_wp2_with fail;refine(BB _ 0 w1 R1 (by omega)).mono ?_;rintro e w2 ⟨k,hk,rfl,R2,K2⟩;go_wp2_with fail;refine(Bh _ _ w2 R2 (by omega) (by omega)).mono ?_;rintro e w3 ⟨A,n,c,xs,hn,Fx,rfl,I3,_,K3⟩;have hB:=hid (B1.trans ((K2.trans K3).below B1.size (Nat.le_refl _)));have I3:=hid I3;have Fx:=hid Fx;clear R1 R2 B1 K2 K3;go_wp2
 go_ret2
 exact⟨k,A,n,c,xs,hk,hn,Fx.out,rfl,I3.out,hB.out⟩
open Go.RowKit
open M
theorem Ints.nil(w:World)(A:Option Addr):Ints w A 0 []:=⟨rfl,fun h=>absurd h (by omega)⟩
theorem Ints.drew{w:World}{A:Option Addr}{n:Nat}{xs:List Int}(h:Ints w A n xs):Ints w.drew A n xs:=h
theorem Ints.one(w:World)(a:Int)(t:TypeId):Ints (w.alloc (.cells #[.int .i64 a] t)) (some ⟨w.heap.size,0,none⟩) 1 [a] :=
 ⟨rfl,fun _=>⟨w.heap.size,0,rfl,by simp,fun k hk=>by
  match k,hk with
  | 0,_=>simp⟩⟩
theorem Ints.news{w:World}{b off m:Nat}{ys:List Int}(I:Ints w (some ⟨b,off,Option.none⟩) m ys):∀ j u,(ys.map (Value.int .i64))[j]?=some u->w.cell? ((⟨b,off,Option.none⟩:Addr).add j)=some u:=by
 intro j u hj;rw[List.getElem?_map] at hj;have hl:j<ys.length:=by
  rcases Nat.lt_or_ge j ys.length with h | h
  . exact h
  . rw[List.getElem?_eq_none h] at hj; cases hj
 obtain⟨b',off',e,_,hc⟩:=I.2 (by have:=I.1; omega);cases e
 rw[List.getElem?_eq_getElem hl] at hj;cases hj
 rw[Addr.add_lit,hc j (by have:=I.1; omega),List.getD_eq_getElem?_getD,List.getElem?_eq_getElem hl];rfl
theorem AL(w:World)(base:Nat)(ty:TypeId)(v:Value)(n:Nat)(xs:List Value)(hown:w.ownsRow base 3 1 v n xs)(A:Option Addr)(c:Nat)(h0:∀ ad,A=some ad->False) :
 (Builtin.append_ #[23,23] ty #[v,.slice A 0 c]).run Try.prog w=.ok v w:=by
 obtain⟨i0,hi,hz0,hz1,hz2⟩:=info_parts Au;cases A with
 | some ad=>exact(h0 ad rfl).elim
 | none =>
  rcases hown.2 with⟨rfl,rfl⟩ | ⟨g,cap,cur,rfl,_,_,hnc,_⟩
  . simp[Builtin.append_,run_underlying Try.underlying23,sizeOf,typeInfo,hi,Builtin.lenOf,Builtin.firstCells]
  . simp[Builtin.append_,run_underlying Try.underlying23,sizeOf,typeInfo,hi,Builtin.lenOf,Builtin.firstCells,hnc,storeCells]
theorem AB(w:World)(base:Nat)(ty:TypeId)(v:Value)(n:Nat)(xs:List Int)(hown:w.ownsRow base 3 1 v n (xs.map (Value.int .i64)))(A:Option Addr)(m c:Nat)(ys:List Int)(I:Ints w A m ys)
 (hn:n+m<=8000000) (hb:base<=w.heap.size) :
 ∃ v' w',(Builtin.append_ #[23,23] ty #[v,.slice A m c]).run Try.prog w=.ok v' w'/\w'.ownsRow base 3 1 v' (n+m) ((xs++ys).map (Value.int .i64))/\w.grownBy w' v.ownBlock/\(v'.ownBlock=v.ownBlock\/v'.ownBlock=some w.heap.size):=by
 obtain⟨i0,hi,hz0,hz1,hz2⟩:=info_parts Au;by_cases h:∃ b off,A=some ⟨b,off,Option.none⟩
 . obtain⟨b,off,rfl⟩:=h;obtain⟨v',w',hr,h2,h3,_,h5⟩:=run_append_own_at (P:=Try.prog) w base 23 ty 3 i0 (.int .i64 0) 1 8 Try.underlying23 hi hz0 hz1 hz2 rfl (by decide) v n _ hown ⟨b,off,Option.none⟩ m c (ys.map (Value.int .i64)) (by have:=I.1; simp; omega) I.news (ints_oneCell _ _) (by unfold maxLen; omega) (by omega) hb;exact⟨v',w',hr,by simpa using h2,h3,h5⟩
 . have hm:m=0:=by
    rcases Nat.eq_zero_or_pos m with h0 | h0
    . exact h0
    . obtain⟨b,off,e,_⟩:=I.2 h0;exact(h ⟨b,off,e⟩).elim
   subst hm;have hy:ys=[]:=List.eq_nil_of_length_eq_zero I.1;subst hy;cases A with
   | none=>exact⟨v,w,AL w base ty v n _ hown _ c (fun _ e=>by cases e),by simpa using hown,World.grownBy.refl w _,.inl rfl⟩
   | some ad =>
    obtain⟨v',w',hr,h2,h3,_,h5⟩:=run_append_own_at (P:=Try.prog) w base 23 ty 3 i0 (.int .i64 0) 1 8 Try.underlying23 hi hz0 hz1 hz2 rfl (by decide) v n _ hown ad 0 c [] rfl (fun j u hj=>by simp at hj) (fun u hu=>by simp at hu) (by unfold maxLen; omega) (by omega) hb;exact⟨v',w',hr,by simpa using h2,h3,h5⟩
theorem A9(w:World){ops:Array Oper}{rest:List Oper}{o:Oper}{a:Act}{Q:Exit->Act->World->Prop}(hgd:o.guard=Option.none)(s x:Operand)
 (ho:o.op=.call { callee:=.builtin .append,args:=#[s,x],argTypes:=#[23,23] }) (base:Nat) (v:Value) (n:Nat) (xs:List Int) (hs:a.eval s=v) (hown:w.ownsRow base 3 1 v n (xs.map (Value.int .i64)))
 (A:Option Addr) (m c:Nat) (ys:List Int) (hx:a.eval x=.slice A m c) (I:Ints w A m ys) (hn:n+m<=8000000) (hb:base<=w.heap.size)
 (h:∀ v' w',w'.ownsRow base 3 1 v' (n+m) ((xs++ys).map (Value.int .i64))->w.grownBy w' v.ownBlock->(v'.ownBlock=v.ownBlock\/v'.ownBlock=some w.heap.size)->wpList Try.prog ops Q rest (a.put o.dst v') w') :
 wpList Try.prog ops Q (o::rest) a w:=by
 refine wpList_plain hgd fun K hK=>?_;obtain⟨v',w',hr,h2,h3,h4⟩:=AB w base o.type v n xs hown A m c ys I hn hb;unfold Oper.wp execOp;simp only[ho,resolve,invoke,builtin,Sem.run_bind,Sem.run_pure,Result.andThen_ok,List.map_toArray,List.map_cons,List.map_nil,hs,hx,hr];exact hK _ _ (h v' w' h2 h3 h4)
end Go.Proofs.Ytienbaikhliniaa
