import Derived.Test.YtflmmdljkhdjlaaZRepA
import Derived.Test.YtflmmdljkhdjlaaZLvT
set_option linter.all false
set_option maxRecDepth 100000
set_option maxHeartbeats 8000000
open Go.Lib
namespace Go.Proofs.Ytflmmdljkhdjlaa
open Go.RowKit
open M
def HV(w:World)(e:Ending)(w':World):Prop :=
 ∃(D:Option Addr) (N cc:Nat) (xs:List In),e=.returned (.slice D N cc)/\(N<=63/\N<=cc)/\Inputs w' D N xs/\Below w.heap.size w w'
def FI(w:World)(e:Ending)(w':World):Prop :=
 ∃(D:Option Addr) (N cc:Nat) (ps:List Pt),e=.returned (.slice D N cc)/\(N<=62/\N<=cc)/\Parts w' D N ps/\Below w.heap.size w w'
theorem Cz(a:Option Addr)(len cap:Nat)(zs:List Int)(w:World)(h:IsRow .u8 w a len cap zs):Calls Try.prog 16 #[.slice a len cap] w (HV w):=by
 go_enter Try.func16,Try.ntmps16;go_wp2_with fail;refine(Ei a len cap zs _ h).mono ?_;rintro e w1 ⟨rfl,R1,B⟩;have z1:=R1.base;have H:=hid B;clear B h;go_wp2_with fail;refine(BE _ 0 _ R1 (by omega)).mono ?_;rintro e w2 ⟨i',t',x',y',A',n',c',G',m',kk',p',q',s',z',b',ws',gs',rfl,hn',hm',HL',I2,J2,MA',MG',R2,K⟩;have MA2:AE _ A':=fun g off e=>by have:=MA' g off e; exact Nat.le_trans z1 this
 have MG2:AE _ G':=fun g off e=>by have:=MG' g off e; exact Nat.le_trans z1 this
 have z2:=K.size;replace H:=hid (Am H.out K (by omega));clear R1 K MA' MG';go_wp2_with fail;refine(He _ _ i' t' x' y' A' n' c' G' m' kk' p' q' s' z' b' ws' gs' _ R2 (by omega) (by omega) I2 J2 MA2 MG2 HL'.1.ok hn'.1 hm'.1 HL'.2).mono ?_;rintro e w3 ⟨E,N,cc,xs,rfl,hN,Y,ME,R3,K⟩;replace H:=hid (Am H.out K (by omega));have Y:=hid Y;clear R2 R3 K I2 J2 MA2 MG2 HL' ME;go_wp2;go_ret;exact⟨E,N,cc,xs,rfl,hN,Y.out,H.out⟩
theorem FJ:∀(ps:List Pt) (i:Nat) (x:Int),i<ps.length->(BR ps).set (i*2) (.int .i64 x)=BR (ps.set i ⟨x,(ps.getD i pz).m⟩)
 | [],i,x,h=>absurd h (by simp)
 | a::ps,0,x,_=>rfl
 | a::ps,i+1,x,h=>by
  have e:(i+1)*2=i*2+1+1:=by omega
  have t:=FJ ps i x (by simpa using h);rw[e];simp only[BR,List.set_cons_succ];rw[t];simp
theorem BZ(xs:List In):(AQ xs).length<=xs.length:=by
 unfold AQ;cases Ce xs
 . simp
 . exact Nat.le_trans (pts_len _) (by simp[An])
theorem Dz{w W:World}{base:Nat}{v:Value}{N:Nat}{ys:List Pt}(O:W.ownsRow base 34 2 v N (BR ys))(hN:N<=62)(H:Below w.heap.size w W):FI w (.returned v) W:=by
 obtain⟨A,c,rfl,I,M⟩:=Parts.of_own O;exact⟨A,N,c,ys,rfl,⟨hN,Bc O⟩,I,H⟩
def KL:Array Value:=#[.int .i64 0,.int .i64 60,.int .i64 61,.int .i64 (-1)]
theorem KM(i:Nat)(h:i<4):∃ z:Int,KL[i]?=some (.int .i64 z):=by
 have:i=0\/i=1\/i=2\/i=3:=by omega
 rcases this with rfl | rfl | rfl | rfl
 all_goals exact⟨_,rfl⟩
theorem Lz(a:Option Addr)(len cap:Nat)(zs:List Int)(w:World)(h:IsRow .u8 w a len cap zs):Calls Try.prog 22 #[.slice a len cap] w (FI w):=by
 go_enter Try.func22,Try.ntmps22;go_wp2_with fail;refine(Ei a len cap zs _ h).mono ?_;rintro e w1 ⟨rfl,R1,B⟩;have z1:=R1.base;have H:=hid B;clear B h;go_wp2_with fail;refine(BE _ 0 _ R1 (by omega)).mono ?_;rintro e w2 ⟨i',t',x',y',A',n',c',G',m',kk',p',q',s',z',b',ws',gs',rfl,hn',hm',HL',I2,J2,MA',MG',R2,K⟩;have MA2:AE _ A':=fun g off e=>by have:=MA' g off e; exact Nat.le_trans z1 this
 have MG2:AE _ G':=fun g off e=>by have:=MG' g off e; exact Nat.le_trans z1 this
 have z2:=K.size;replace H:=hid (Am H.out K (by omega));clear R1 K MA' MG';go_wp2_with fail;refine(BU _ _ i' t' x' y' A' n' c' G' m' kk' p' q' s' z' b' ws' gs' _ R2 (by omega) (by omega) I2 J2 MA2 MG2 HL'.1.ok hn'.1 hm'.1 HL'.2).mono ?_;rintro e w3 ⟨v,N0,xs,rfl,hN0,_,O,R3,K⟩;have z3:=K.size;replace H:=hid (Am H.out K (by omega));have hl:xs.length=N0:=by have:=O.1; rw[AX] at this; omega
 obtain⟨E,cc,rfl,Y,_⟩:=Inputs.of_own O;have Y:=hid Y;clear R2 K I2 J2 MA2 MG2 HL' O;go_wp2_with fail;refine(EZ E N0 cc xs _ Y.out (by omega)).mono ?_;rintro e w4 ⟨v,rfl,O,B⟩;have hps:=BZ xs;generalize AQ xs=ps at *;obtain⟨N,hN⟩:∃ N,ps.length=N:=⟨_,rfl⟩;rw[hN] at O hps;have z4:=B.size;replace O:=hid (Bz O (show w.heap.size+1<=w3.heap.size by omega));replace H:=hid (Aa H.out B);have R:=hid ((R3.below (B.mono R3.base)).mono (show(0:Int)+60+200<=260 by omega));clear B Y R3;obtain⟨A1,ca,hv,_,_⟩:=Parts.of_own O.out;subst hv;have hcap:=Bc O.out;by_cases h0:N=0
 . subst h0;clear O;go_wp2_with fail;refine(Af _ 12 _ _ R.out (by omega) (by omega) (by omega)).mono ?_;rintro e w5 ⟨u,⟨u0,u1⟩,rfl,R1,K1⟩;replace H:=hid (Am H.out K1 (by omega));replace R:=hid R1;clear K1 R1;go_wp2_with fail;refine(Af _ 63 _ _ R.out (by omega) (by omega) (by omega)).mono ?_;rintro e w6 ⟨v,⟨v0,v1⟩,rfl,R1,K1⟩;replace H:=hid (Am H.out K1 (by omega));replace R:=hid R1;clear K1 R1;go_wp2;go_ret;exact⟨_,_,_,_,rfl,⟨by omega,Nat.le_refl _⟩,Parts.one w6 _ _ _ _ rfl,Ab H.out _⟩
 have hpos:(0:Int)<(N:Int):=by omega
 have hne:¬ (N:Int)=0:=by omega
 have hneb:((N:Int)==0)=false:=beq_eq_false_iff_ne.2 hne;obtain⟨gb,rfl⟩:∃ gb,A1=some ⟨gb,0,none⟩:=by
  rcases O.out.2 with⟨_,h⟩ | ⟨g,cap,cur,h,_⟩
  . omega
  . cases h
    exact⟨g,rfl⟩
 go_wp2_with fail;refine(Af _ N _ _ (R.out) (by omega) (by omega) (by omega)).mono ?_;rintro e w5 ⟨ix,⟨ix0,ix1⟩,rfl,R1,K1⟩;replace O:=hid ((O.out).kept K1.grows (.inr fun he=>by have:=((O.out).lt _ he).1; omega));replace H:=hid (Am (H.out) K1 (by omega));replace R:=hid R1;clear K1 R1;obtain⟨ix,rfl⟩:=Int.eq_ofNat_of_zero_le ix0;have hix:ix<N:=by omega
 go_wp2_with fail;refine(Af _ 10 _ _ (R.out) (by omega) (by omega) (by omega)).mono ?_;rintro e w6 ⟨c0,⟨c00,c01⟩,rfl,R1,K1⟩;replace O:=hid ((O.out).kept K1.grows (.inr fun he=>by have:=((O.out).lt _ he).1; omega));replace H:=hid (Am (H.out) K1 (by omega));replace R:=hid R1;clear K1 R1;by_cases e0:c0=0
 . subst e0;go_wp2_with fail;refine(Af _ 4 _ (w6.alloc (.cells KL 3)) (R.out.alloc _) (by omega) (by omega) (by omega)).mono ?_;rintro e w7 ⟨v,⟨v0,v1⟩,rfl,R1,K1⟩;obtain⟨vi,rfl⟩:=Int.eq_ofNat_of_zero_le v0;obtain⟨zz,hzz⟩:=KM vi (by omega);have hcell:w7.cell? ⟨w6.heap.size,vi,none⟩=some (.int .i64 zz):=by
    have:=R.out.base;rw[K1.cell (by simp) (by simp; omega),World.cell?_alloc_new]; exact hzz
   have hvi:(vi:Int)<4:=by omega
   replace O:=hid ((O.out.alloc (.cells KL 3)).kept K1.grows (.inr fun he=>by have:=((O.out.alloc (.cells KL 3)).lt _ he).1; omega));replace H:=hid (Am (Ab H.out (.cells KL 3)) K1 (by omega));clear K1 R1 R hzz;have ci:=O.out.cellAt (ix*2+1) (by omega);have jj:=Ca ps ix 1 (by omega) (by omega)
   skip
   rw[jj] at ci;have fi:=O.out.frozenAt (ix*2+1);have gB:=(O.out.lt gb rfl).1;have gl:=(O.out.lt gb rfl).2;have O5:=hid (show World.ownsRow (World.setCell _ ⟨gb,ix*2+1,none⟩ (.int .i64 (zz))) _ 34 2 (.slice (some ⟨gb,0,none⟩) N ca) N (BR (ps.set ix ⟨(ps.getD ix pz).c,zz⟩)) from Fl ps ix (zz) (by omega)▸(O.out.stored (ix*2+1) _).1);have H5:=hid (Am H.out (Ez (Kept.refl gb _) (ix*2+1) (.int .i64 (zz))) (by omega));clear jj O H;generalize EW (ps.getD ix pz) 1=q0 at *;go_wp2;go_ret;exact Dz O5.out (by omega) H5.out
 by_cases e1:c0=1
 . subst e1;go_wp2_with fail;refine(Af _ 12 _ _ (R.out) (by omega) (by omega) (by omega)).mono ?_;rintro e w7 ⟨v,⟨v0,v1⟩,rfl,R1,K1⟩;replace O:=hid ((O.out).kept K1.grows (.inr fun he=>by have:=((O.out).lt _ he).1; omega));replace H:=hid (Am (H.out) K1 (by omega));replace R:=hid R1;clear K1 R1;have ci:=O.out.cellAt (ix*2) (by omega);have jj:=Ca ps ix 0 (by omega) (by omega);rw[Nat.add_zero] at jj;rw[jj] at ci;have fi:=O.out.frozenAt (ix*2);have gB:=(O.out.lt gb rfl).1;have gl:=(O.out.lt gb rfl).2
   have O5:=hid (show World.ownsRow (World.setCell _ ⟨gb,ix*2,none⟩ (.int .i64 (v-1))) _ 34 2 (.slice (some ⟨gb,0,none⟩) N ca) N (BR (ps.set ix ⟨v-1,(ps.getD ix pz).m⟩)) from FJ ps ix (v-1) (by omega)▸(O.out.stored (ix*2) _).1);have H5:=hid (Am H.out (Ez (Kept.refl gb _) (ix*2) (.int .i64 (v-1))) (by omega));clear jj O H;generalize EW (ps.getD ix pz) 0=q0 at *;go_wp2;go_ret;exact Dz O5.out (by omega) H5.out
 by_cases e2:c0=2
 . subst e2;have pc:=Ca ps (N-1) 0 (by omega) (by omega);have ci0:=O.out.cellAt ((N-1)*2) (by omega);have ci1:=O.out.cellAt ((N-1)*2+1) (by omega);have jj:=Ca ps (N-1) 1 (by omega) (by omega);rw[Nat.add_zero] at pc;rw[pc] at ci0;rw[jj] at ci1;have hsub:IntKind.i64.wrap ((N:Int)-1)=((N-1:Nat):Int):=by rw[IntWalk.i64_in _ (by omega)]; omega
   have hs2:(N:Int)-1=((N-1:Nat):Int):=by omega
   have gB:=(O.out.lt gb rfl).1;have gl:=(O.out.lt gb rfl).2;clear pc jj;generalize ps.getD (N-1) pz=q at *;obtain⟨qc,qm⟩:=q;simp only[EW] at ci0 ci1;go_wp2_with (at_builtin; refine AL _ rfl (.tmp 52) (.tmp 59) rfl (w.heap.size+1) (.slice (some ⟨gb,0,none⟩) N ca) N ps rfl (O.out.alloc _) (some ⟨w6.heap.size,0,none⟩) 1 1 [⟨qc,qm⟩] rfl (Parts.one w6 w6.heap.size qc qm _ rfl) (by omega) (by have:=R.out.base; simp; omega) ?_);intro v' w9 O9 G9 _;replace O9:=hid O9;have H9:=hid ((((Kept.of_below (r:=gb) H.out).alloc _).grown G9 (fun g e=>by rw[<- Option.some.inj e]; show w.heap.size<=gb; omega)).below (Nat.le_refl _) (by omega));clear G9 O H;go_wp2
   go_ret;exact Dz O9.out (by omega) H9.out
 have d0:(c0==0)=false:=beq_eq_false_iff_ne.2 e0;have d1:(c0==1)=false:=beq_eq_false_iff_ne.2 e1;have d2:(c0==2)=false:=beq_eq_false_iff_ne.2 e2;clear e0 e1 e2;go_wp2;go_ret;exact Dz O.out (by omega) H.out
end Go.Proofs.Ytflmmdljkhdjlaa
