import Derived.Laws.BitsAllLaws
import Derived.Deep.RegionHeld
import Derived.OpenShut
import Derived.Test.YtbeohbhhmcjokaaZBoxS
import Derived.Deep.RegionHeld3
set_option linter.all false
set_option maxRecDepth 100000
set_option maxHeartbeats 8000000
open Go.Lib
namespace Go.Proofs.Ytbeohbhhmcjokaa
open Go.RowKit
structure Kept(r:Nat)(w w':World):Prop where
 os:w'.os=w.os
 tape:w'.tape=w.tape
 output:w'.output=w.output
 size:w.heap.size<=w'.heap.size
 block:∀ k,k<w.heap.size->k≠r->w'.heap[k]?=w.heap[k]?
theorem Kept.refl(r:Nat)(w:World):Kept r w w:=⟨rfl,rfl,rfl,Nat.le_refl _,fun _ _ _=>rfl⟩
theorem Kept.trans{r:Nat}{a b c:World}(h:Kept r a b)(k:Kept r b c):Kept r a c :=
 ⟨k.os.trans h.os,k.tape.trans h.tape,k.output.trans h.output,Nat.le_trans h.size k.size,fun i hi hr=>(k.block i (Nat.lt_of_lt_of_le hi h.size) hr).trans (h.block i hi hr)⟩
theorem Kept.of_below{r:Nat}{w w':World}(h:Below w.heap.size w w'):Kept r w w':=⟨h.os,h.tape,h.output,h.size,fun k hk _=>h.block k hk⟩
theorem Kept.below{r B:Nat}{w w':World}(h:Kept r w w')(hB:B<=w.heap.size)(hr:B<=r):Below B w w' :=
 ⟨h.os,h.tape,h.output,h.size,fun k hk=>h.block k (by omega) (by omega)⟩
theorem Kept.cell{r:Nat}{w w':World}(h:Kept r w w'){p:Addr}(hp:p.block<w.heap.size)(hr:p.block≠r):w'.cell? p=w.cell? p :=
 World.cell?_of_block (w:=w) (h.block p.block hp hr)
structure Rd(B:Nat)(w:World)(r:Nat)(p:Int):Prop where
 low:0<=p
 base:B<=w.heap.size
 here:r<B
 bytes:∃(a:Option Addr) (len cap:Nat),w.cell? ⟨r,0,none⟩=some (.slice a len cap)/\len<=2000 /\
  (len=0\/∃ b off,a=some ⟨b,off,none⟩/\b≠r/\b<B/\∀ i,i<len->∃ z:Int,w.cell? ⟨b,off+i,none⟩=some (.int .u8 z)/\0<=z/\z<256)
 place:w.cell? ⟨r,1,none⟩=some (.int .i64 p)
 free:w.frozen? ⟨r,1,none⟩=false
def RdU(B:Nat)(w:World)(r:Nat)(k:Int):Prop:=∃ p,p<=k/\Rd B w r p
theorem Rd.below{B:Nat}{w w':World}{r:Nat}{p:Int}(R:Rd B w r p)(h:Below B w w'):Rd B w' r p:=by
 obtain⟨a,len,cap,c0,hl,hb⟩:=R.bytes;refine⟨R.low,Nat.le_trans R.base h.size,R.here,⟨a,len,cap,(h.cell (p:=⟨r,0,none⟩) R.here).trans c0,hl,?_⟩,(h.cell (p:=⟨r,1,none⟩) R.here).trans R.place,(h.frozen (p:=⟨r,1,none⟩) R.here).trans R.free⟩;rcases hb with h0 | ⟨b,off,rfl,hbr,hbs,hz⟩
 . exact .inl h0
 . refine .inr ⟨b,off,rfl,hbr,hbs,fun i hi=>?_⟩;obtain⟨z,hc,h1,h2⟩:=hz i hi;exact⟨z,(h.cell (p:=⟨b,off+i,none⟩) hbs).trans hc,h1,h2⟩
theorem RdU.below{B:Nat}{w w':World}{r:Nat}{k:Int}(R:RdU B w r k)(h:Below B w w'):RdU B w' r k:=by
 obtain⟨p,hp,R⟩:=R;exact⟨p,hp,R.below h⟩
theorem RdU.here{B:Nat}{w:World}{r:Nat}{k:Int}(R:RdU B w r k):r<B:=by
 obtain⟨p,_,R⟩:=R;exact R.here
theorem RdU.base{B:Nat}{w:World}{r:Nat}{k:Int}(R:RdU B w r k):B<=w.heap.size:=by
 obtain⟨p,_,R⟩:=R;exact R.base
theorem RdU.mono{B:Nat}{w:World}{r:Nat}{k k':Int}(R:RdU B w r k)(h:k<=k'):RdU B w r k':=by
 obtain⟨p,hp,R⟩:=R;exact⟨p,by omega,R⟩
theorem RdU.alloc{B:Nat}{w:World}{r:Nat}{k:Int}(R:RdU B w r k)(o:Obj):RdU B (w.alloc o) r k:=R.below ((Below.refl _ _).alloc R.base o)
theorem RdU.set{B:Nat}{w:World}{r:Nat}{k:Int}(R:RdU B w r k)(b o:Nat)(v:Value)(h:B<=b):RdU B (w.setCell ⟨b,o,none⟩ v) r k:=R.below ((Below.refl _ _).setCell (p:=⟨b,o,none⟩) h v)
theorem RdU.drewN{B:Nat}{w:World}{r:Nat}{k:Int}(R:RdU B w r k)(n:Nat):RdU B (w.drewN n) r k:=R.below ⟨rfl,rfl,rfl,Nat.le_refl _,fun _ _=>rfl⟩
theorem Kept.alloc{r:Nat}{w a:World}(h:Kept r w a)(o:Obj):Kept r w (a.alloc o):=h.trans (Kept.of_below ((Below.refl _ _).alloc (Nat.le_refl _) o))
theorem Kept.set{r:Nat}{w a:World}(h:Kept r w a)(b o:Nat)(v:Value)(hb:w.heap.size<=b):Kept r w (a.setCell ⟨b,o,none⟩ v) :=
 ⟨h.os,h.tape,h.output,by simpa[World.setCell] using h.size,fun k hk hr=>(Below.heap_setCell a ⟨b,o,none⟩ v k (by show k≠b; omega)).trans (h.block k hk hr)⟩
theorem Kept.drewN{r:Nat}{w a:World}(h:Kept r w a)(n:Nat):Kept r w (a.drewN n):=⟨h.os,h.tape,h.output,h.size,h.block⟩
theorem Rd.step{B:Nat}{w:World}{r:Nat}{p:Int}(R:Rd B w r p)(n:Nat):Rd B ((w.setCell ⟨r,1,none⟩ (.int .i64 (p+1))).drewN n) r (p+1):=by
 have hlow:=R.low;obtain⟨a,len,cap,c0,hl,hb⟩:=R.bytes;refine⟨by omega,?_,R.here,⟨a,len,cap,(World.cell?_setCell_other w ⟨r,1,none⟩ ⟨r,0,none⟩ _ (by simp)).trans c0,hl,?_⟩,World.cell?_setCell_same w _ _ R.place,(World.frozen?_setCell w _ _ _).trans R.free⟩
 . have:=R.base; simpa[World.drewN,World.setCell] using this
 . rcases hb with h0 | ⟨b,off,rfl,hbr,hbs,hz⟩
   . exact .inl h0
   . refine .inr ⟨b,off,rfl,hbr,hbs,fun i hi=>?_⟩;obtain⟨z,hc,h1,h2⟩:=hz i hi;exact⟨z,(World.cell?_setCell_far w ⟨r,1,none⟩ ⟨b,off+i,none⟩ _ (by simp; omega)).trans hc,h1,h2⟩
theorem Kept.step(w:World)(r:Nat)(v:Value)(o n:Nat):Kept r w ((w.setCell ⟨r,o,none⟩ v).drewN n) :=
 ⟨rfl,rfl,rfl,by simp[World.drewN,World.setCell],fun k _ hr=>Below.heap_setCell w ⟨r,o,none⟩ v k hr⟩
theorem drewN_zero(w:World):w.drewN 0=w:=rfl
theorem Gz(x y:Int)(x0:0<=x)(x1:x<=1000000000)(y0:0<=y)(y1:y<=1000000000):0<=bits .xor .i64 x y:=by
 obtain⟨a,rfl⟩:=Int.eq_ofNat_of_zero_le x0;obtain⟨b,rfl⟩:=Int.eq_ofNat_of_zero_le y0;have hx:a ^^^ b<2 ^ 30:=Nat.xor_lt_two_pow (by omega) (by omega)
 show 0<=IntKind.i64.wrap ((BitVec.ofInt 64 (a:Int) ^^^ BitVec.ofInt 64 (b:Int)).toNat:Int)
 rw[BitVec.toNat_xor,ofInt_u64 a (by omega),ofInt_u64 b (by omega),IntWalk.i64_in _ (by omega)];omega
def Cy(n:Int)(r:Nat)(p:Int)(w:World)(e:Ending)(w':World):Prop :=
 ∃(x:Int) (nq:Nat),0<=x/\x<n/\e=.returned (.int .i64 x)/\w'=(w.setCell ⟨r,1,none⟩ (.int .i64 (p+1))).drewN nq
theorem FN(r b off len cap i1 i2:Nat)(p n z1 z2 q:Int)(w:World)(n1:1<=n)(n2:n<=1000000)(p0:0<=p)(p1:p<=1000000)(l0:0<len)(l1:len<=2000)(hge:(len:Int)<=p)
 (hc1:w.cell? ⟨r,1,none⟩=some (.int .i64 p)) (hf:w.frozen? ⟨r,1,none⟩=false)
 (hd0:(w.setCell ⟨r,1,none⟩ (.int .i64 (p+1))).cell? ⟨r,0,none⟩=some (.slice (some ⟨b,off,none⟩) len cap))
 (hd1:(w.setCell ⟨r,1,none⟩ (.int .i64 (p+1))).cell? ⟨r,1,none⟩=some (.int .i64 (p+1)))
 (hz1:(w.setCell ⟨r,1,none⟩ (.int .i64 (p+1))).cell? ⟨b,off+i1,none⟩=some (.int .u8 z1)) (z10:0<=z1) (z11:z1<256)
 (hz2:(w.setCell ⟨r,1,none⟩ (.int .i64 (p+1))).cell? ⟨b,off+i2,none⟩=some (.int .u8 z2)) (z20:0<=z2) (z21:z2<256)
 (hm1:p.tmod (len:Int)=(i1:Int)) (hm2:(p*7+3).tmod (len:Int)=(i2:Int)) (hq:p.tdiv (len:Int)=q) (q0:0<=q) (q1:q<=1000000) (hi1:i1<len) (hi2:i2<len) :
 Calls Try.prog 40 #[.pointer (some ⟨r,0,none⟩),.int .i64 n] w (Cy n r p w):=by
 have hne:((len:Int)==0)=false:=beq_eq_false_iff_ne.2 (by omega);have Hq:=hid hq;have Hm1:=hid hm1;have Hm2:=hid hm2;clear hm1 hm2 hq;go_enter Try.func40,Try.ntmps40;go_wp2_with fail;have hq:=Hq.out;have hm1:=Hm1.out;have hm2:=Hm2.out;have hn1:(len:Int)≠0:=by omega
 have j1:(i1:Int)<(len:Int):=by omega
 have j2:(i2:Int)<(len:Int):=by omega
 have k1:(0:Int)<=(i1:Int):=by omega
 have k2:(0:Int)<=(i2:Int):=by omega
 have e1:IntKind.i64.wrap (p*7)=p*7:=IntWalk.i64_in _ (by omega);have e2:IntKind.i64.wrap (p*7+3)=p*7+3:=IntWalk.i64_in _ (by omega);have e3:IntKind.i64.wrap z1=z1:=IntWalk.i64_in _ (by omega);have e4:IntKind.i64.wrap z2=z2:=IntWalk.i64_in _ (by omega);have e5:IntKind.i64.wrap (z1*131)=z1*131:=IntWalk.i64_in _ (by omega);have e6:IntKind.i64.wrap (z2*1117)=z2*1117:=IntWalk.i64_in _ (by omega);have e7:IntKind.i64.wrap (z1*131+z2*1117)=z1*131+z2*1117:=IntWalk.i64_in _ (by omega);have e8:IntKind.i64.wrap (p*29)=p*29:=IntWalk.i64_in _ (by omega)
 have e9:IntKind.i64.wrap (z1*131+z2*1117+p*29)=z1*131+z2*1117+p*29:=IntWalk.i64_in _ (by omega);have e10:IntKind.i64.wrap q=q:=IntWalk.i64_in _ (by omega);have e11:IntKind.i64.wrap (q*53)=q*53:=IntWalk.i64_in _ (by omega);have e12:IntKind.i64.wrap (z1*131+z2*1117+p*29+q*53)=z1*131+z2*1117+p*29+q*53:=IntWalk.i64_in _ (by omega)
 go_quiet (fail)
 have x0:0<=z1*131+z2*1117+p*29+q*53:=by omega
 have x1:z1*131+z2*1117+p*29+q*53<=1000000000:=by omega
 clear e1 e2 e3 e4 e5 e6 e7 e8 e9 e10 e11 e12 hm1 hm2 hq hn1;generalize z1*131+z2*1117+p*29+q*53=X at *;have hz0:(n==0)=false:=beq_eq_false_iff_ne.2 (by omega);have hx:=hid (Gz X (X / 64) x0 x1 (by omega) (by omega));go_wp2;go_ret;refine⟨_,nq,?_,?_,rfl,rfl⟩
 . exact Int.tmod_nonneg _ hx.out
 . exact Int.tmod_lt_of_pos _ (by omega)
theorem EO(r b off len cap i1:Nat)(n z1:Int)(w:World)(n1:1<=n)(n2:n<=1000000)(l0:0<len)(l1:len<=2000)(hlt:i1<len)
 (hc1:w.cell? ⟨r,1,none⟩=some (.int .i64 (i1:Int))) (hf:w.frozen? ⟨r,1,none⟩=false)
 (hd0:(w.setCell ⟨r,1,none⟩ (.int .i64 ((i1:Int)+1))).cell? ⟨r,0,none⟩=some (.slice (some ⟨b,off,none⟩) len cap))
 (hd1:(w.setCell ⟨r,1,none⟩ (.int .i64 ((i1:Int)+1))).cell? ⟨r,1,none⟩=some (.int .i64 ((i1:Int)+1)))
 (hz1:(w.setCell ⟨r,1,none⟩ (.int .i64 ((i1:Int)+1))).cell? ⟨b,off+i1,none⟩=some (.int .u8 z1)) (z10:0<=z1) (z11:z1<256) :
 Calls Try.prog 40 #[.pointer (some ⟨r,0,none⟩),.int .i64 n] w (Cy n r (i1:Int) w):=by
 have hne:((len:Int)==0)=false:=beq_eq_false_iff_ne.2 (by omega);have hz0:(n==0)=false:=beq_eq_false_iff_ne.2 (by omega);go_enter Try.func40,Try.ntmps40;go_wp2;go_ret;refine⟨_,0,?_,?_,rfl,rfl⟩
 . exact Int.emod_nonneg _ (by omega)
 . exact Int.emod_lt_of_pos _ (by omega)
theorem CQ(r cap:Nat)(a:Option Addr)(p n:Int)(w:World)(n1:1<=n)(n2:n<=1000000)(p0:0<=p)(p1:p<=1000000)
 (hc1:w.cell? ⟨r,1,none⟩=some (.int .i64 p)) (hf:w.frozen? ⟨r,1,none⟩=false)
 (hd0:(w.setCell ⟨r,1,none⟩ (.int .i64 (p+1))).cell? ⟨r,0,none⟩=some (.slice a 0 cap)) :
 Calls Try.prog 40 #[.pointer (some ⟨r,0,none⟩),.int .i64 n] w (Cy n r p w):=by
 go_enter Try.func40,Try.ntmps40;go_wp2;go_ret;exact⟨0,0,by omega,by omega,rfl,rfl⟩
def Dc(B:Nat)(n:Int)(r:Nat)(k:Int)(w:World)(e:Ending)(w':World):Prop :=
 ∃ x:Int,(0<=x/\x<n)/\e=.returned (.int .i64 x)/\RdU B w' r (k+1)/\Kept r w w'
theorem FO{B:Nat}{n:Int}{r:Nat}{p k:Int}{w:World}{e:Ending}{w':World}(R:Rd B w r p)(hp:p<=k)(h:Cy n r p w e w'):Dc B n r k w e w':=by
 obtain⟨x,nq,h1,h2,rfl,rfl⟩:=h;exact⟨x,⟨h1,h2⟩,rfl,⟨p+1,by omega,R.step nq⟩,Kept.step w r _ 1 nq⟩
theorem AK{B:Nat}(r:Nat)(n k:Int)(w:World)(R:RdU B w r k)(n1:1<=n)(n2:n<=1000000)(hk:k<=100000) :
 Calls Try.prog 40 #[.pointer (some ⟨r,0,none⟩),.int .i64 n] w (Dc B n r k w):=by
 obtain⟨p,hp,R⟩:=R;have R0:=R;obtain⟨p0,_,_,⟨a,len,cap,c0,hl,hb⟩,c1,hf⟩:=R0;have S:=R.step 0;obtain⟨_,_,_,_,d1,_⟩:=S;rw[drewN_zero] at d1;have d0:(w.setCell ⟨r,1,none⟩ (.int .i64 (p+1))).cell? ⟨r,0,none⟩=some (.slice a len cap):=(World.cell?_setCell_other w ⟨r,1,none⟩ ⟨r,0,none⟩ _ (by simp)).trans c0;have fin:∀ e w',Cy n r p w e w'->Dc B n r k w e w':=fun e w' h=>FO R hp h;rcases hb with rfl | ⟨b,off,rfl,hbr,_,hz⟩
 . exact(CQ r cap a p n w n1 n2 p0 (by omega) c1 hf d0).mono fin
 . by_cases h0:len=0
   . subst h0;exact(CQ r cap _ p n w n1 n2 p0 (by omega) c1 hf d0).mono fin
   . have hz':∀ i,i<len->∃ z:Int,(w.setCell ⟨r,1,none⟩ (.int .i64 (p+1))).cell? ⟨b,off+i,none⟩=some (.int .u8 z)/\0<=z/\z<256:=by
      intro i hi;obtain⟨z,hc,h1,h2⟩:=hz i hi;exact⟨z,(World.cell?_setCell_far w ⟨r,1,none⟩ ⟨b,off+i,none⟩ _ (by simp; omega)).trans hc,h1,h2⟩
     by_cases hlt:p<(len:Int)
     . obtain⟨i1,rfl⟩:=Int.eq_ofNat_of_zero_le p0;obtain⟨z,hc,h1,h2⟩:=hz' i1 (by omega);exact(EO r b off len cap i1 n z w n1 n2 (by omega) hl (by omega) c1 hf d0 d1 hc h1 h2).mono fin
     . have hm:∀ x:Int,0<=x->∃ i:Nat,i<len/\x.tmod (len:Int)=(i:Int):=by
        intro x hx;have h1:=Int.tmod_nonneg (len:Int) hx;have h2:=Int.tmod_lt_of_pos x (show(0:Int)<(len:Int) by omega);exact⟨(x.tmod (len:Int)).toNat,by omega,by omega⟩
       obtain⟨i1,hi1,hm1⟩:=hm p p0;obtain⟨i2,hi2,hm2⟩:=hm (p*7+3) (by omega);obtain⟨z1,hc1,h11,h12⟩:=hz' i1 hi1;obtain⟨z2,hc2,h21,h22⟩:=hz' i2 hi2;have q0:0<=p.tdiv (len:Int):=Int.tdiv_nonneg p0 (by omega);have q1:p.tdiv (len:Int)<=p:=Int.tdiv_le_self _ p0;exact(FN r b off len cap i1 i2 p n z1 z2 _ w n1 n2 p0 (by omega) (by omega) hl (by omega) c1 hf d0 d1 hc1 h11 h12 hc2 h21 h22 hm1 hm2 rfl q0 (by omega) hi1 hi2).mono fin
open Go.RowKit
def IsRow(k:IntKind)(w:World)(a:Option Addr)(len cap:Nat)(zs:List Int):Prop :=
 (a=none/\len=0/\cap=0/\zs=[]) \/
 ∃ x,a=some x/\len<=cap/\cap<=maxLen/\zs.length=cap/\(∀ i,i<zs.length->w.cell? (x.add i)=some (.int k (zs.getD i 0)))/\∀ n∈zs,(Lit.int k n).wf=true
theorem Dd{w:World}{a:Addr}{v:Value}(h:w.cell? a=some v):a.block<w.heap.size:=by
 by_cases c:a.block<w.heap.size
 . exact c
 . simp[World.cell?,Array.getElem?_eq_none (Nat.le_of_not_lt c)] at h
theorem IsRow.bytes{w:World}{a:Option Addr}{len cap:Nat}{zs:List Int}(h:IsRow .u8 w a len cap zs) :
 len<=cap/\cap<=maxLen/\(len=0\/∃ b off,a=some ⟨b,off,none⟩/\b<w.heap.size/\∀ i,i<len->∃ z:Int,w.cell? ⟨b,off+i,none⟩=some (.int .u8 z)/\0<=z/\z<256):=by
 rcases h with⟨rfl,rfl,rfl,rfl⟩ | ⟨x,rfl,hl,hm,hz,hcell,hwz⟩
 . exact⟨Nat.le_refl _,Nat.zero_le _,.inl rfl⟩
 . refine⟨hl,hm,?_⟩;by_cases h0:len=0
   . exact .inl h0
   . obtain⟨b,off,spot⟩:=x;have hc:=hcell 0 (by omega);have hspot:spot=none:=by simpa[Addr.add] using World.cell?_spot hc
     subst hspot;refine .inr ⟨b,off,rfl,?_,fun i hi=>?_⟩
     . have:=Dd hc;simpa[Addr.add] using this
     . have hci:=hcell i (by omega);have hmem:zs.getD i 0∈zs:=by
        rw[List.getD_eq_getElem?_getD,List.getElem?_eq_getElem (by omega)]; exact List.getElem_mem _
       have hb:=bounds_u8 (hwz _ hmem);have e:(Addr.mk b off none).add i=⟨b,off+i,none⟩:=by by_cases h:i=0<;>simp[Addr.add,h]
       rw[e] at hci;exact⟨zs.getD i 0,hci,by omega,by omega⟩
theorem FP{w:World}{a:Option Addr}{len cap:Nat}(hl:len<=2000)
 (hb:len=0\/∃ b off,a=some ⟨b,off,none⟩/\b<w.heap.size/\∀ i,i<len->∃ z:Int,w.cell? ⟨b,off+i,none⟩=some (.int .u8 z)/\0<=z/\z<256) :
 RdU (w.heap.size+1) (w.alloc (.cells #[.slice a len cap,.int .i64 0] 111)) w.heap.size 0:=by
 refine⟨0,by omega,⟨by omega,by simp,by omega,⟨a,len,cap,by simp,hl,?_⟩,by simp,?_⟩⟩
 . rcases hb with h0 | ⟨b,off,rfl,hbs,hz⟩
   . exact .inl h0
   . refine .inr ⟨b,off,rfl,by omega,by omega,fun i hi=>?_⟩;obtain⟨z,hc,h1,h2⟩:=hz i hi;exact⟨z,(World.cell?_alloc_lt w _ ⟨b,off+i,none⟩ hbs).trans hc,h1,h2⟩
 . rw[frozen?_alloc_cells]; simp[World.frozen?]
def Hh(w:World)(e:Ending)(w':World):Prop :=
 e=.returned (.pointer (some ⟨w.heap.size,0,none⟩))/\RdU (w.heap.size+1) w' w.heap.size 0/\Below w.heap.size w w'
theorem FQ(a:Option Addr)(len cap:Nat)(zs:List Int)(w:World)(h:IsRow .u8 w a len cap zs) :
 Calls Try.prog 39 #[.slice a len cap] w (Hh w):=by
 obtain⟨hl,hm,hb⟩:=h.bytes;unfold maxLen at hm;by_cases g:2000<len
 . have hb':(2000:Nat)=0\/∃ b off,a=some ⟨b,off,none⟩/\b<w.heap.size/\∀ i,i<2000->∃ z:Int,w.cell? ⟨b,off+i,none⟩=some (.int .u8 z)/\0<=z/\z<256:=by
    rcases hb with h0 | ⟨b,off,ha,hbs,hz⟩
    . omega
    . exact .inr ⟨b,off,ha,hbs,fun i hi=>hz i (by omega)⟩
   have R:=hid (FP (cap:=cap) (Nat.le_refl 2000) hb');clear hb hb';have g1:(2000:Int)<(len:Int):=by omega
   go_enter Try.func39,Try.ntmps39;go_wp2;go_ret;exact⟨rfl,R.out,(Below.refl _ _).alloc (Nat.le_refl _) _⟩
 . have R:=hid (FP (cap:=cap) (by omega) hb);clear hb;have g1:(len:Int)<=2000:=by omega
   go_enter Try.func39,Try.ntmps39;go_wp2;go_ret;exact⟨rfl,R.out,(Below.refl _ _).alloc (Nat.le_refl _) _⟩
open Go.RowKit
theorem IsRow.below{k:IntKind}{w w':World}{a:Option Addr}{len cap:Nat}{zs:List Int}(h:IsRow k w a len cap zs)(b:Below w.heap.size w w'):IsRow k w' a len cap zs:=by
 rcases h with h | ⟨x,rfl,hl,hm,hz,hcell,hwz⟩
 . exact .inl h
 . refine .inr ⟨x,rfl,hl,hm,hz,fun i hi=>?_,hwz⟩;have hc:=hcell i hi;exact(b.cell (Dd hc)).trans hc
theorem RdU.drew{B:Nat}{w:World}{r:Nat}{k:Int}(R:RdU B w r k):RdU B w.drew r k:=R.below ⟨rfl,rfl,rfl,Nat.le_refl _,fun _ _=>rfl⟩
theorem Af{w a:World}(h:Below w.heap.size w a):Below w.heap.size w a.drew:=h.drew
theorem Ax{r:Nat}{w a b:World}(h:Below w.heap.size w a)(k:Kept r a b)(hr:w.heap.size<=r):Below w.heap.size w b:=h.trans (k.below h.size hr)
open Go.RowKit
structure PCell(w:World)(b:Nat)(x y:Int):Prop where
 c0:w.cell? ⟨b,0,none⟩=some (.int .i64 x)
 c1:w.cell? ⟨b,1,none⟩=some (.int .i64 y)
 f0:w.frozen? ⟨b,0,none⟩=false
 f1:w.frozen? ⟨b,1,none⟩=false
 lt:b<w.heap.size
theorem PCell.of{W w':World}{b:Nat}{x y:Int}(h:PCell W b x y)(e:w'.heap[b]?=W.heap[b]?)(hs:W.heap.size<=w'.heap.size):PCell w' b x y :=
 ⟨(World.cell?_of_block (a:=⟨b,0,none⟩) e).trans h.c0,(World.cell?_of_block (a:=⟨b,1,none⟩) e).trans h.c1,(World.frozen?_of_block (a:=⟨b,0,none⟩) e).trans h.f0,(World.frozen?_of_block (a:=⟨b,1,none⟩) e).trans h.f1,Nat.lt_of_lt_of_le h.lt hs⟩
theorem PCell.kept{r:Nat}{W w':World}{b:Nat}{x y:Int}(h:PCell W b x y)(K:Kept r W w')(hne:b≠r):PCell w' b x y:=h.of (K.block b h.lt hne) K.size
theorem PCell.step{W w':World}{b:Nat}{x y:Int}(h:PCell W b x y)(B:Below W.heap.size W w'):PCell w' b x y:=h.of (B.block b h.lt) B.size
theorem PCell.alloc{W:World}{b:Nat}{x y:Int}(h:PCell W b x y)(o:Obj):PCell (W.alloc o) b x y:=h.step (Ab (Ac W) o)
theorem PCell.drew{W:World}{b:Nat}{x y:Int}(h:PCell W b x y):PCell W.drew b x y:=⟨h.c0,h.c1,h.f0,h.f1,h.lt⟩
theorem PCell.new(W:World)(b:Nat)(x y:Int)(ty:TypeId)(hb:b=W.heap.size):PCell (W.alloc (.cells #[.int .i64 x,.int .i64 y] ty)) b x y:=by
 subst hb;exact⟨by simp,by simp,by simp,by simp,by simp⟩
theorem PCell.far{W:World}{b:Nat}{x y:Int}(h:PCell W b x y){b':Nat}(hne:b'≠b)(o:Nat)(v:Value):PCell (W.setCell ⟨b',o,none⟩ v) b x y :=
 ⟨(World.cell?_setCell_far _ _ _ _ hne).trans h.c0,(World.cell?_setCell_far _ _ _ _ hne).trans h.c1,(by rw[World.frozen?_setCell]; exact h.f0),(by rw[World.frozen?_setCell]; exact h.f1),(by rw[World.size_setCell]; exact h.lt)⟩
theorem PCell.set0{W:World}{b:Nat}{x y:Int}(h:PCell W b x y)(z:Int):PCell (W.setCell ⟨b,0,none⟩ (.int .i64 z)) b z y :=
 ⟨World.cell?_setCell_same' _ _ _ (by rw[h.c0]; rfl),(World.cell?_setCell_other _ _ _ _ (by simp)).trans h.c1,(by rw[World.frozen?_setCell]; exact h.f0),(by rw[World.frozen?_setCell]; exact h.f1),(by rw[World.size_setCell]; exact h.lt)⟩
theorem PCell.set1{W:World}{b:Nat}{x y:Int}(h:PCell W b x y)(z:Int):PCell (W.setCell ⟨b,1,none⟩ (.int .i64 z)) b x z :=
 ⟨(World.cell?_setCell_other _ _ _ _ (by simp)).trans h.c0,World.cell?_setCell_same' _ _ _ (by rw[h.c1]; rfl),(by rw[World.frozen?_setCell]; exact h.f0),(by rw[World.frozen?_setCell]; exact h.f1),(by rw[World.size_setCell]; exact h.lt)⟩
structure BCell(w:World)(b:Nat)(p q s t:Int):Prop where
 c0:w.cell? ⟨b,0,none⟩=some (.int .i64 p)
 c1:w.cell? ⟨b,1,none⟩=some (.int .i64 q)
 c2:w.cell? ⟨b,2,none⟩=some (.int .i64 s)
 c3:w.cell? ⟨b,3,none⟩=some (.int .i64 t)
 f0:w.frozen? ⟨b,0,none⟩=false
 f1:w.frozen? ⟨b,1,none⟩=false
 f2:w.frozen? ⟨b,2,none⟩=false
 f3:w.frozen? ⟨b,3,none⟩=false
 lt:b<w.heap.size
theorem BCell.of{W w':World}{b:Nat}{p q s t:Int}(h:BCell W b p q s t)(e:w'.heap[b]?=W.heap[b]?)(hs:W.heap.size<=w'.heap.size):BCell w' b p q s t :=
 ⟨(World.cell?_of_block (a:=⟨b,0,none⟩) e).trans h.c0,(World.cell?_of_block (a:=⟨b,1,none⟩) e).trans h.c1,(World.cell?_of_block (a:=⟨b,2,none⟩) e).trans h.c2,(World.cell?_of_block (a:=⟨b,3,none⟩) e).trans h.c3,(World.frozen?_of_block (a:=⟨b,0,none⟩) e).trans h.f0,(World.frozen?_of_block (a:=⟨b,1,none⟩) e).trans h.f1,(World.frozen?_of_block (a:=⟨b,2,none⟩) e).trans h.f2,(World.frozen?_of_block (a:=⟨b,3,none⟩) e).trans h.f3,Nat.lt_of_lt_of_le h.lt hs⟩
theorem BCell.kept{r:Nat}{W w':World}{b:Nat}{p q s t:Int}(h:BCell W b p q s t)(K:Kept r W w')(hne:b≠r):BCell w' b p q s t:=h.of (K.block b h.lt hne) K.size
theorem BCell.step{W w':World}{b:Nat}{p q s t:Int}(h:BCell W b p q s t)(B:Below W.heap.size W w'):BCell w' b p q s t:=h.of (B.block b h.lt) B.size
theorem BCell.alloc{W:World}{b:Nat}{p q s t:Int}(h:BCell W b p q s t)(o:Obj):BCell (W.alloc o) b p q s t:=h.step (Ab (Ac W) o)
theorem BCell.drew{W:World}{b:Nat}{p q s t:Int}(h:BCell W b p q s t):BCell W.drew b p q s t:=⟨h.c0,h.c1,h.c2,h.c3,h.f0,h.f1,h.f2,h.f3,h.lt⟩
theorem BCell.new(W:World)(b:Nat)(p q s t:Int)(ty:TypeId)(hb:b=W.heap.size):BCell (W.alloc (.cells #[.int .i64 p,.int .i64 q,.int .i64 s,.int .i64 t] ty)) b p q s t:=by
 subst hb;exact⟨by simp,by simp,by simp,by simp,by simp,by simp,by simp,by simp,by simp⟩
theorem BCell.far{W:World}{b:Nat}{p q s t:Int}(h:BCell W b p q s t){b':Nat}(hne:b'≠b)(o:Nat)(v:Value):BCell (W.setCell ⟨b',o,none⟩ v) b p q s t :=
 ⟨(World.cell?_setCell_far _ _ _ _ hne).trans h.c0,(World.cell?_setCell_far _ _ _ _ hne).trans h.c1,(World.cell?_setCell_far _ _ _ _ hne).trans h.c2,(World.cell?_setCell_far _ _ _ _ hne).trans h.c3,(by rw[World.frozen?_setCell]; exact h.f0),(by rw[World.frozen?_setCell]; exact h.f1),(by rw[World.frozen?_setCell]; exact h.f2),(by rw[World.frozen?_setCell]; exact h.f3),(by rw[World.size_setCell]; exact h.lt)⟩
theorem BCell.set0{W:World}{b:Nat}{p q s t:Int}(h:BCell W b p q s t)(z:Int):BCell (W.setCell ⟨b,0,none⟩ (.int .i64 z)) b z q s t :=
 ⟨World.cell?_setCell_same' _ _ _ (by rw[h.c0]; rfl),(World.cell?_setCell_other _ _ _ _ (by simp)).trans h.c1,(World.cell?_setCell_other _ _ _ _ (by simp)).trans h.c2,(World.cell?_setCell_other _ _ _ _ (by simp)).trans h.c3,(by rw[World.frozen?_setCell]; exact h.f0),(by rw[World.frozen?_setCell]; exact h.f1),(by rw[World.frozen?_setCell]; exact h.f2),(by rw[World.frozen?_setCell]; exact h.f3),(by rw[World.size_setCell]; exact h.lt)⟩
theorem BCell.set1{W:World}{b:Nat}{p q s t:Int}(h:BCell W b p q s t)(z:Int):BCell (W.setCell ⟨b,1,none⟩ (.int .i64 z)) b p z s t :=
 ⟨(World.cell?_setCell_other _ _ _ _ (by simp)).trans h.c0,World.cell?_setCell_same' _ _ _ (by rw[h.c1]; rfl),(World.cell?_setCell_other _ _ _ _ (by simp)).trans h.c2,(World.cell?_setCell_other _ _ _ _ (by simp)).trans h.c3,(by rw[World.frozen?_setCell]; exact h.f0),(by rw[World.frozen?_setCell]; exact h.f1),(by rw[World.frozen?_setCell]; exact h.f2),(by rw[World.frozen?_setCell]; exact h.f3),(by rw[World.size_setCell]; exact h.lt)⟩
theorem BCell.set2{W:World}{b:Nat}{p q s t:Int}(h:BCell W b p q s t)(z:Int):BCell (W.setCell ⟨b,2,none⟩ (.int .i64 z)) b p q z t :=
 ⟨(World.cell?_setCell_other _ _ _ _ (by simp)).trans h.c0,(World.cell?_setCell_other _ _ _ _ (by simp)).trans h.c1,World.cell?_setCell_same' _ _ _ (by rw[h.c2]; rfl),(World.cell?_setCell_other _ _ _ _ (by simp)).trans h.c3,(by rw[World.frozen?_setCell]; exact h.f0),(by rw[World.frozen?_setCell]; exact h.f1),(by rw[World.frozen?_setCell]; exact h.f2),(by rw[World.frozen?_setCell]; exact h.f3),(by rw[World.size_setCell]; exact h.lt)⟩
theorem BCell.set3{W:World}{b:Nat}{p q s t:Int}(h:BCell W b p q s t)(z:Int):BCell (W.setCell ⟨b,3,none⟩ (.int .i64 z)) b p q s z :=
 ⟨(World.cell?_setCell_other _ _ _ _ (by simp)).trans h.c0,(World.cell?_setCell_other _ _ _ _ (by simp)).trans h.c1,(World.cell?_setCell_other _ _ _ _ (by simp)).trans h.c2,World.cell?_setCell_same' _ _ _ (by rw[h.c3]; rfl),(by rw[World.frozen?_setCell]; exact h.f0),(by rw[World.frozen?_setCell]; exact h.f1),(by rw[World.frozen?_setCell]; exact h.f2),(by rw[World.frozen?_setCell]; exact h.f3),(by rw[World.size_setCell]; exact h.lt)⟩
end Go.Proofs.Ytbeohbhhmcjokaa
