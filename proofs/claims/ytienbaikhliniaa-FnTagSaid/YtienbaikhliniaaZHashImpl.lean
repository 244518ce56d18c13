import Derived.Test.YtienbaikhliniaaZRowS
set_option linter.all false
set_option maxRecDepth 100000
set_option maxHeartbeats 8000000
open Go.Lib
namespace Go.Proofs.Ytienbaikhliniaa
open Go.RowKit
open M
structure ICell(w:World)(b:Nat)(x:Int):Prop where
 c0:w.cell? ⟨b,0,none⟩=some (.int .i64 x)
 f0:w.frozen? ⟨b,0,none⟩=false
 lt:b<w.heap.size
theorem ICell.of{W w':World}{b:Nat}{x:Int}(h:ICell W b x)(e:w'.heap[b]?=W.heap[b]?)(hs:W.heap.size<=w'.heap.size):ICell w' b x :=
 ⟨(World.cell?_of_block (a:=⟨b,0,none⟩) e).trans h.c0,(World.frozen?_of_block (a:=⟨b,0,none⟩) e).trans h.f0,Nat.lt_of_lt_of_le h.lt hs⟩
theorem ICell.step{W w':World}{b:Nat}{x:Int}(h:ICell W b x)(B:Below W.heap.size W w'):ICell w' b x:=h.of (B.block b h.lt) B.size
theorem ICell.alloc{W:World}{b:Nat}{x:Int}(h:ICell W b x)(o:Obj):ICell (W.alloc o) b x:=h.step (Aa (Am W) o)
theorem ICell.drew{W:World}{b:Nat}{x:Int}(h:ICell W b x):ICell W.drew b x:=⟨h.c0,h.f0,h.lt⟩
theorem ICell.new(W:World)(b:Nat)(x:Int)(ty:TypeId)(hb:b=W.heap.size):ICell (W.alloc (.cells #[.int .i64 x] ty)) b x:=by
 subst hb;exact⟨by simp,by simp,by simp⟩
theorem ICell.set{W:World}{b:Nat}{x:Int}(h:ICell W b x)(z:Int):ICell (W.setCell ⟨b,0,none⟩ (.int .i64 z)) b z :=
 ⟨World.cell?_setCell_same' _ _ _ (by rw[h.c0]; rfl),(by rw[World.frozen?_setCell]; exact h.f0),(by rw[World.size_setCell]; exact h.lt)⟩
theorem Kept.mine{r:Nat}{w a:World}(h:Kept r w a)(o:Nat)(v:Value):Kept r w (a.setCell ⟨r,o,none⟩ v) :=
 ⟨h.os,h.tape,h.output,by simpa[World.setCell] using h.size,fun k hk hr=>(Below.heap_setCell a ⟨r,o,none⟩ v k hr).trans (h.block k hk hr)⟩
theorem Kept.drewd{r:Nat}{w a:World}(h:Kept r w a):Kept r w a.drew:=⟨h.os,h.tape,h.output,h.size,h.block⟩
def Off(A:Option Addr)(n b:Nat):Prop:=0<n->∀ k off,A=some ⟨k,off,none⟩->k≠b
theorem Ints.kept{w w':World}{A:Option Addr}{n r:Nat}{xs:List Int}(h:Ints w A n xs)(K:Kept r w w')(hA:Off A n r):Ints w' A n xs :=
 ⟨h.1,fun hn=>by
  obtain⟨b,off,e,hb,hc⟩:=h.2 hn;exact⟨b,off,e,Nat.lt_of_lt_of_le hb K.size,fun k hk=>(K.cell (p:=⟨b,off+k,none⟩) hb (hA hn b off e)).trans (hc k hk)⟩⟩
theorem Ints.off{w:World}{A:Option Addr}{n:Nat}{xs:List Int}(h:Ints w A n xs){b:Nat}(hb:w.heap.size<=b):Off A n b:=fun hn k off e=>by
 obtain⟨b',off',e',hb',_⟩:=h.2 hn;rw[e'] at e;cases e
 omega
theorem Bi{a b n:Nat}(h:b<a):Off (some ⟨a,0,none⟩) n b:=fun _ k off e=>by
 cases e
 omega
theorem Bj(n:Int)(b:Bool)(w:World)(h:okB n=b):Calls Try.prog 27 #[.int .i64 n] w fun e w'=>e=.returned (.bool b)/\w=w':=by
 subst h;exact Cv n w
theorem BV{n:Int}(h:n.tmod 1000003<0):n % 1000003=n.tmod 1000003+1000003:=by
 have e:=@Int.tmod_eq_emod n 1000003;by_cases c:0<=n\/(1000003:Int) ∣ n
 . rw[if_pos c] at e;omega
 . rw[if_neg c] at e;omega
theorem BC{n:Int}(h:0<=n.tmod 1000003):n % 1000003=n.tmod 1000003:=by
 have e:=@Int.tmod_eq_emod n 1000003;by_cases c:0<=n\/(1000003:Int) ∣ n
 . rw[if_pos c] at e;omega
 . rw[if_neg c] at e;omega
theorem BW(n r:Int)(w:World)(hr:n % 1000003=r):Calls Try.prog 29 #[.int .i64 n] w fun e w'=>e=.returned (.int .i64 r)/\w=w':=by
 have t1:-1000003<n.tmod 1000003:=Int.lt_tmod_of_pos n (by omega);have t2:n.tmod 1000003<1000003:=Int.tmod_lt_of_pos n (by omega);by_cases h:n.tmod 1000003<0
 . have E:=hid (hr.symm.trans (BV h));clear hr;go_enter Try.func29,Try.ntmps29;go_wp2;go_ret;exact⟨Al (by rw[E.out]),rfl⟩
 . have E:=hid (hr.symm.trans (BC (by omega)));clear hr;go_enter Try.func29,Try.ntmps29;go_wp2;go_ret;exact⟨Al (by rw[E.out]),rfl⟩
theorem Bl(A:Option Addr)(n cap:Nat)(xs:List Int)(w:World)(I:Ints w A n xs)(hn:n<=281474976710656) :
 Calls Try.prog 20 #[.slice A n cap] w fun e w'=>e=.returned (.bool (An xs))/\w=w':=by
 obtain⟨hl,hc⟩:=I;by_cases big:200<n
 . have E:=hid (show An xs=false by
    have:¬ xs.length<=200:=by omega
    simp[An,this])
   have g1:(200:Int)<(n:Int):=by omega
   go_enter Try.func20,Try.ntmps20;go_wp2;go_ret;exact⟨Af (by rw[E.out]),rfl⟩
 have g1:(n:Int)<=200:=by omega
 have hl:=hid hl;have hc:=hid hc;go_enter Try.func20,Try.ntmps20;go_wp2
 go_loop [10] (fun i=>∃ k:Nat,k<=n/\i=.int .i64 k/\(xs.take k).all okB=true) (fun i=>n-(intOf i).toNat)
 case atStart=>exact⟨0,Nat.zero_le _,rfl,rfl⟩
 case round =>
  obtain⟨k,hk,rfl,ha⟩:=hrel;have ha:=hid ha;by_cases hlt:k<n
  . obtain⟨b,off,rfl,hb,hcell⟩:=hc.out (by omega);have hck:=hcell k hlt;have hkl:k<xs.length:=by have:=hl.out; omega
    have HS:=A3 hkl;have HN:=Bm hkl;rw[ha.out,Bool.true_and] at HS;clear hcell hkl;generalize xs.getD k 0=z at *;cases hz:okB z
    . have E:=hid (HN hz);clear HN HS;have hz:=hid hz;go_wp2_with fail;refine(Bj z false _ hz.out).mono ?_;rintro e w' ⟨rfl,rfl⟩;go_wp2;go_ret;exact⟨Af (by rw[E.out]),rfl⟩
    . have E:=hid (HS.trans hz);clear HN HS;have hz:=hid hz;go_wp2_with fail;refine(Bj z true _ hz.out).mono ?_;rintro e w' ⟨rfl,rfl⟩;go_wp2
      go_round
      case rel=>exact⟨k+1,by omega,by go_num,E.out⟩
      case measure=>simp[intOf]; omega
  . have e:(xs.take k)=xs:=List.take_of_length_le (by have:=hl.out; omega);have E:=hid (Bn (xs:=xs) (by have t:=ha.out; rw[e] at t; exact t));clear e;go_wp2;go_ret;exact⟨Af (by rw[E.out]; symm; apply decide_eq_true; have:=hl.out; omega),rfl⟩
def BX(w:World)(b n:Nat)(h:Int)(xs:List Int)(i:Value)(W:World):Prop :=
 ∃ k:Nat,k<=n/\i=.int .i64 k/\ICell W b (AU h (xs.take k))/\Kept b w W
def Cy(w:World)(b:Nat)(v:Int)(e:Ending)(w':World):Prop:=e=.returned (.int .i64 v)/\ICell w' b v/\Kept b w w'
theorem AF(h:Int)(A:Option Addr)(n cap b:Nat)(xs:List Int)(w:World)(h0:0<=h)(h1:h<1000003)(I:Ints w A n xs)(hA:Off A n b)(C:ICell w b h)(hn:n<=281474976710656) :
 Calls Try.prog 28 #[.slice A n cap,.pointer (some ⟨b,0,none⟩)] w (Cy w b (AU h xs)):=by
 have I:=hid I;have hA:=hid hA;have C:=hid C;go_enter Try.func28,Try.ntmps28;go_wp2
 go_loopw [8] (BX w b n h xs) (fun i _=>n-(intOf i).toNat)
 case atStart=>exact⟨0,Nat.zero_le _,rfl,C.out,Kept.refl _ _⟩
 case round =>
  obtain⟨k,hk,rfl,D,K⟩:=hrel;clear C;obtain⟨b0,b1⟩:=Ao h0 h1 (xs.take k);have hl:=hid I.out.1;by_cases hlt:k<n
  . obtain⟨b',off,rfl,hb,hcell⟩:=(I.out.kept K hA.out).2 (by omega);have hck:=hcell k hlt;have HS:=hid (A2 (h:=h) (xs:=xs) (k:=k) (by have:=hl.out; omega));clear hcell;generalize xs.getD k 0=z at *;generalize AU h (xs.take k)=v at *;obtain⟨r,er⟩:∃ r,z % 1000003=r:=⟨_,rfl⟩;have r0:0<=r:=by omega
    have r1:r<1000003:=by omega
    have HS:=hid (show AU h (List.take (k+1) xs)=(v*8191+r+1) % 1000003 by rw[HS.out,<- er]; unfold AG; rw[Int.mul_comm]);have er:=hid er;have K:=hid K;have dc:=D.c0;have df:=D.f0;have dl:=D.lt;go_wp2_with fail
    go_region_with ((go_at_call 29; (with_reducible refine(BW _ r _ er.out).mono ?_); rintro e wn ⟨rfl,rfl⟩))
    all_goals
     go_wp2
     go_roundw
     case rel=>exact⟨k+1,by omega,by go_num,by rw[HS.out]; repeat (first | with_reducible exact D.set _ | with_reducible refine ICell.drew ?_ | with_reducible exact(ICell.drew D).set _ | with_reducible exact(ICell.drew (ICell.drew D)).set _),by repeat (first | with_reducible exact K.out | with_reducible refine Kept.mine ?_ _ _ | with_reducible refine Kept.drewd ?_)⟩
     case measure=>simp[intOf]; omega
  . have e:(xs.take k)=xs:=List.take_of_length_le (by have:=hl.out; omega);rw[e] at D;have dc:=D.c0;have K:=hid K;go_wp2;go_ret;exact⟨rfl,D,K.out⟩
theorem Bs(w:World):Calls Try.prog 21 #[] w fun e w'=>e=.returned (.func (.func 28) #[] #[.pointer (some ⟨w.heap.size,0,none⟩)])/\ICell w' w.heap.size 17/\Below w.heap.size w w':=by
 have hmf:∀(fn:Fn) (first cap:Array Value) (w:World),(Instr.makeFunc fn first cap).run Try.prog w=.ok (.func fn first cap) w:=fun _ _ _ _=>rfl;go_enter Try.func21,Try.ntmps21;go_wp2;go_ret;exact⟨rfl,ICell.new _ _ _ _ rfl,Aa (Am _) _⟩
theorem BZ(k:Int)(w:World):Calls Try.prog 19 #[.int .i64 k] w fun e w'=>e=.returned (.bool (AN k 1 9999))/\w=w':=by
 by_cases g1:1<=k
 . by_cases g2:k<=9999
   . have E:=hid (AD (n:=k) (lo:=1) (hi:=9999) ⟨g1,g2⟩);go_enter Try.func19,Try.ntmps19;go_wp2;go_ret;exact⟨Af (by rw[E.out]),rfl⟩
   . have E:=hid (AY (n:=k) (lo:=1) (hi:=9999) (by omega));go_enter Try.func19,Try.ntmps19;go_wp2;go_ret;exact⟨Af (by rw[E.out]),rfl⟩
 . have E:=hid (AY (n:=k) (lo:=1) (hi:=9999) (by omega));go_enter Try.func19,Try.ntmps19;go_wp2;go_ret;exact⟨Af (by rw[E.out]),rfl⟩
theorem Ak(k:Int)(A:Option Addr)(n cap:Nat)(xs:List Int)(w:World)(I:Ints w A n xs)(hn:n<=281474976710656) :
 Calls Try.prog 10 #[.int .i64 k,.slice A n cap] w fun e w'=>e=.returned (.int .i64 (tI k xs))/\Below w.heap.size w w':=by
 have I:=hid I;have KY:=hid (fun W=>BZ k W);cases hk:AN k 1 9999
 . have E:=hid (AH (xs:=xs) hk);rw[hk] at KY;go_enter Try.func10,Try.ntmps10;go_wp2_with fail;refine(KY.out _).mono ?_;rintro e w' ⟨rfl,rfl⟩;go_wp2;go_ret;exact⟨Al (by rw[E.out]),Am _⟩
 rw[hk] at KY;cases h:An xs
 . have E:=hid (Bb (k:=k) h);have C:=hid (fun W J=>Bl A n cap xs W J hn);rw[h] at C;go_enter Try.func10,Try.ntmps10;go_wp2_with fail;refine(KY.out _).mono ?_;rintro e w' ⟨rfl,rfl⟩;go_wp2_with fail;refine(C.out _ I.out).mono ?_;rintro e w' ⟨rfl,rfl⟩;go_wp2;go_ret;exact⟨Al (by rw[E.out]),Am _⟩
 . have E:=hid (Ax hk h);have C:=hid (fun W J=>Bl A n cap xs W J hn);rw[h] at C;obtain⟨a0,a1⟩:=Ah 17 k;obtain⟨q0,q1⟩:=Ao a0 a1 xs;have a0:=hid a0;have a1:=hid a1;have q0:=hid q0;have q1:=hid q1;go_enter Try.func10,Try.ntmps10;go_wp2_with fail;refine(KY.out _).mono ?_;rintro e w' ⟨rfl,rfl⟩;go_wp2_with fail;refine(C.out _ I.out).mono ?_;rintro e w' ⟨rfl,rfl⟩;go_wp2_with fail;refine(Bs _).mono ?_;rintro e w1 ⟨rfl,D1,B1⟩;have I1:=hid (I.out.step B1);have O:=hid (I.out.off (Nat.le_refl _));have D1:=hid D1;have B1:=hid B1;clear C;go_wp2_with fail
   refine(AF 17 _ 1 _ _ [k] _ (by omega) (by omega) (Ints.one _ _ _) (Bi D1.out.lt) (D1.out.alloc _) (by omega)).mono ?_;rintro e w2 ⟨rfl,D2,K2⟩;have I2:=hid ((I1.out.alloc _).kept K2 O.out);have B2:=hid ((Aa B1.out _).trans (K2.below (by have:=B1.out.size; simp; omega) (Nat.le_refl _)));have D2:=hid D2;clear D1 K2 I1 B1;go_wp2_with fail;refine(AF (AG 17 k) A n cap _ xs _ a0.out a1.out I2.out O.out D2.out hn).mono ?_;rintro e w3 ⟨rfl,D3,K3⟩;have B3:=hid (B2.out.trans (K3.below B2.out.size (Nat.le_refl _)));have D3:=hid D3;clear D2 K3 I2 B2;go_wp2_with fail
   refine(AF (AU (AG 17 k) xs) _ 1 _ _ [k] _ q0.out q1.out (Ints.one _ _ _) (Bi D3.out.lt) (D3.out.alloc _) (by omega)).mono ?_;rintro e w4 ⟨rfl,_,K4⟩;have B4:=hid ((Aa B3.out _).trans (K4.below (by have:=B3.out.size; simp; omega) (Nat.le_refl _)));clear D3 K4 B3;go_wp2;go_ret;exact⟨Al (by rw[E.out]; rfl),B4.out⟩
theorem BD(t x:Int):(t==x)=decide (x=t):=by
 by_cases q:x=t
 . subst q; simp
 . have q':¬ t=x:=fun e=>q e.symm;simp[q,q']
theorem Ai(k:Int)(A:Option Addr)(n cap:Nat)(xs:List Int)(t:Int)(w:World)(I:Ints w A n xs)(hn:n<=281474976710656) :
 Calls Try.prog 12 #[.int .i64 k,.slice A n cap,.int .i64 t] w fun e w'=>e=.returned (.bool (tC k xs t))/\Below w.heap.size w w':=by
 have I:=hid I;by_cases t0:0<=t
 . have E:=hid (Bc (k:=k) (xs:=xs) t0);go_enter Try.func12,Try.ntmps12;go_wp2_with fail;refine(Ak k A n cap xs _ I.out hn).mono ?_;rintro e w1 ⟨rfl,B⟩;have B:=hid B;go_wp2;go_ret;exact⟨Af (by rw[E.out]; exact BD t _),B.out⟩
 . have E:=hid (BE (k:=k) (xs:=xs) (t:=t) (by omega));go_enter Try.func12,Try.ntmps12;go_wp2;go_ret;exact⟨Af (by rw[E.out]),Am _⟩
end Go.Proofs.Ytienbaikhliniaa
