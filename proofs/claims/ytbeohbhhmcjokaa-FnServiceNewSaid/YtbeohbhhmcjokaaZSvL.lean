import Derived.Test.YtbeohbhhmcjokaaZSvP
set_option linter.all false
set_option maxRecDepth 100000
set_option maxHeartbeats 8000000
open Go.Lib
namespace Go.Proofs.Ytbeohbhhmcjokaa
open Go.RowKit
open M
def ER(w:World)(e:Ending)(w':World):Prop :=
 ∃(A:Option Addr) (n cap:Nat) (xs:List Int),n<=11/\e=.returned (.slice A n cap)/\Ints w' A n xs/\Below w.heap.size w w'
def FX(B:Nat)(r:Nat)(w:World)(n:Nat)(v i:Value)(W:World):Prop :=
 ∃(j:Nat) (xs:List Int),j<=n/\i=.int .i64 j/\W.ownsRow w.heap.size 3 1 v j (xs.map (Value.int .i64))/\RdU B W r (2+3*j)/\Kept r w W
theorem ET(a:Option Addr)(len cap:Nat)(zs:List Int)(w:World)(h:IsRow .u8 w a len cap zs) :
 Calls Try.prog 10 #[.slice a len cap] w (ER w):=by
 go_enter Try.func10,Try.ntmps10;go_wp2_with fail;refine(FQ a len cap zs w h).mono ?_;rintro e w1 ⟨rfl,R1,B1⟩;have hB:=R1.base;have hr:=R1.here;replace R1:=hid R1;replace B1:=hid B1;go_wp2_with fail;refine(AK _ 11 0 _ (R1.out.alloc _) (by omega) (by omega) (by omega)).mono ?_;rintro e w2 ⟨x,⟨x0,x1⟩,rfl,R2,K2⟩;have O2:=hid (Cz (World.ownsRow_lit (base:=w1.heap.size) (e:=3) (size:=1) w1 #[] 0 (Nat.le_refl _) (by decide) (by simp)) K2 (by omega));replace K2:=hid ((Kept.refl _ w1).alloc _ |>.trans K2);replace R2:=hid R2;go_wp2_with fail;refine(AK _ 20 _ _ R2.out (by omega) (by omega) (by omega)).mono ?_;rintro e w3 ⟨y,⟨y0,y1⟩,rfl,R3,K3⟩
 have O3:=hid (Cz O2.out K3 (by omega));replace K3:=hid (K2.out.trans K3);replace R3:=hid R3;clear K2 R2 O2 R1;obtain⟨n,hn⟩:∃ n:Nat,x+y / 19=(n:Int):=⟨(x+y / 19).toNat,by omega⟩;have n11:n<=11:=by omega
 have i0x:=info_parts A3;obtain⟨i0,hi,hz0,hz1,hz2⟩:=i0x;go_wp2;replace hn:=hid hn
 go_loopw [4,6] (FX (w.heap.size+1) w.heap.size w1 n) (fun _ i _=>n-(RowKit.intOf i).toNat)
 case atStart=>exact⟨0,[],Nat.zero_le _,rfl,O3.out,R3.out.mono (by omega),K3.out⟩
 case round =>
  clear O3 R3 K3;obtain⟨j,xs,hj,rfl,OX,RX,KX⟩:=hrel;have hb:=fun g e=>(OX.lt g e).1;replace OX:=hid OX;replace RX:=hid RX;replace KX:=hid KX;by_cases hlt:j<n
  . go_wp2_with fail;refine(EP _ _ _ RX.out (by omega)).mono ?_;rintro e w4 ⟨z,hz,rfl,R4,K4⟩;have O4:=hid (Cz OX.out K4 (by omega));replace K4:=hid (KX.out.trans K4);replace R4:=hid R4;have s4:=hid K4.out.size;go_wp2_with (at_builtin; refine A4 _ rfl (.tmp 21) (.tmp 24) rfl w1.heap.size _ j xs rfl (CY O4.out (Ab (Ac w4) _)) (some ⟨w4.heap.size,0,none⟩) 1 1 [z] rfl (Ints.one w4 z 3) (by omega) (by have:=s4.out; simp; omega) ?_);intro v' w7 O7 G7 _;replace O7:w7.ownsRow w1.heap.size 3 1 v' (j+1) ((xs++[z]).map (Value.int .i64)):=by simpa using O7
    have A7:=hid (show FX (w.heap.size+1) w.heap.size w1 n v' (.int .i64 (j+1)) w7 from⟨j+1,xs++[z],by omega,by simp,O7,((R4.out.alloc _).mono (by omega)).grown G7 (fun g e=>Nat.le_trans hB (hb g e)),(K4.out.alloc _).grown G7 hb⟩);clear O7 G7 OX RX KX O4 R4 K4;go_wp2
    go_roundw
    case rel=>exact A7.out
    case measure=>simp[RowKit.intOf]; omega
  . obtain rfl:j=n:=by omega
    obtain⟨A9,c9,rfl,I9⟩:=Ints.of_own OX.out;replace I9:=hid I9;have H9:=hid (B1.out.trans (KX.out.below B1.out.size (Nat.le_refl _)));go_wp2;go_ret;exact⟨A9,j,c9,xs,n11,rfl,I9.out,H9.out⟩
theorem Bg(A D:Option Addr)(n c d:Nat)(xs:List Int)(w:World)(I:Ints w A n xs)(J:Ints w D n xs)(hn:n<=1048576) :
 Calls Try.prog 44 #[.slice A n c,.slice D n d] w fun e w'=>e=.returned (.bool true)/\Below w.heap.size w w':=by
 have I:=hid I;have J:=hid J;go_enter Try.func44,Try.ntmps44;go_wp2
 go_loopw [5] (fun i W=>∃ k m:Nat,k<=n/\i=.int .i64 k/\w.drewN m=W) (fun i _=>n-(RowKit.intOf i).toNat)
 case atStart=>exact⟨0,0,Nat.zero_le _,rfl,rfl⟩
 case round =>
  obtain⟨k,m,hk,rfl,rfl⟩:=hrel;by_cases hlt:k<n
  . obtain⟨b,off,hA,_,hc⟩:=I.out.2 (by omega);obtain⟨b2,off2,hD,_,hc2⟩:=J.out.2 (by omega);have ck:(w.drewN m).cell? ⟨b,off+k,none⟩=some (.int .i64 (xs.getD k 0)):=hc k hlt;have ck2:(w.drewN m).cell? ⟨b2,off2+k,none⟩=some (.int .i64 (xs.getD k 0)):=hc2 k hlt;clear hc hc2;subst hA hD;generalize xs.getD k 0=z at *;obtain⟨W,hW⟩:∃ W,w.drewN m=W:=⟨_,rfl⟩;rw[hW] at ck ck2 ⊢;have hW:=hid hW;go_wp2_with fail
    go_quiet (fail)
    go_wp2
    go_roundw
    case rel=>exact⟨k+1,m+_,by omega,by go_num,by rw[<- hW.out]; exact(Cn w m _).symm⟩
    case measure=>simp[RowKit.intOf]; omega
  . go_wp2;go_ret;exact⟨rfl,Ar (Ac w) m⟩
theorem GA(A D:Option Addr)(c d:Nat)(w:World) :
 Calls Try.prog 43 #[.slice A 0 c,.slice D 0 d] w fun e w'=>e=.returned (.bool true)/\w=w':=by
 go_enter Try.func43,Try.ntmps43;go_wp2
 go_loopw [5] (fun iv W=>iv=.int .i64 0/\w=W) (fun _ _=>0)
 case atStart=>exact⟨rfl,rfl⟩
 case round =>
  obtain⟨rfl,rfl⟩:=hrel;go_wp2;go_ret;exact⟨rfl,rfl⟩
theorem De(s s':Sv)(w:World)(R:s.At w)(R':s'.At w)(h0:s.n=0)(e:s.v=s'.v)(hm:s.m<=1048576)(hl:s.l<=1048576) :
 Calls Try.prog 13 #[s.val,s'.val] w fun e w'=>e=.returned (.bool true)/\Below w.heap.size w w':=by
 obtain⟨A,n,c,H,m,d,G,l,e1,ts,ks,gs⟩:=s;obtain⟨A',n',c',H',m',d',G',l',e',ts',ks',gs'⟩:=s';simp only[Sv.v,Vl.mk.injEq] at e h0 hm hl;obtain⟨e2,rfl,rfl⟩:=e;have hn':n'=0:=by
  have a:=R.T.len;have b:=R'.T.len;have c:=congrArg List.length e2;simp only[List.length_map] at a b c;omega
 have hm':m'=m:=by have a:=R.K.1; have b:=R'.K.1; simp only at a b; omega
 have hl':l'=l:=by have a:=R.S.1; have b:=R'.S.1; simp only at a b; omega
 subst h0 hn' hm' hl';have K:=hid R.K;have K':=hid R'.K;have S:=hid R.S;have S':=hid R'.S;have D0:=hid ((CellsAt.new w w.heap.size [.slice A 0 c,.slice H m' d,.slice G l' e1] 27 rfl).alloc (.cells [.slice A' 0 c',.slice H' m' d',.slice G' l' e'].toArray 27));have D1:=hid (CellsAt.new (w.alloc (.cells [.slice A 0 c,.slice H m' d,.slice G l' e1].toArray 27)) (w.heap.size+1) [.slice A' 0 c',.slice H' m' d',.slice G' l' e'] 27 (by simp));have B0:=hid (Ab (Ab (Ac w) (.cells [.slice A 0 c,.slice H m' d,.slice G l' e1].toArray 27)) (.cells [.slice A' 0 c',.slice H' m' d',.slice G' l' e'].toArray 27));obtain⟨x0,x1,x2⟩:=AX D0.out
 obtain⟨y0,y1,y2⟩:=AX D1.out;clear R R';go_enter Try.func13,Try.ntmps13;go_wp2_with fail;refine(GA _ _ _ _ _).mono ?_;rintro e w1 ⟨rfl,rfl⟩;go_wp2_with fail;refine(Bg _ _ _ _ _ ks _ (K.out.step B0.out) (K'.out.step B0.out) hm).mono ?_;rintro e w2 ⟨rfl,B2⟩;replace x2:=(D0.out.step B2).cell 2 _ rfl;replace y2:=(D1.out.step B2).cell 2 _ rfl;replace B0:=hid (Aa B0.out B2);clear B2;go_wp2_with fail;refine(Bg _ _ _ _ _ gs _ (S.out.step B0.out) (S'.out.step B0.out) hl).mono ?_;rintro e w3 ⟨rfl,B3⟩;replace B0:=hid (Aa B0.out B3);clear B3;go_wp2;go_ret;exact⟨rfl,B0.out⟩
theorem M.newV_ts(ks:List Int):(newV ks).ts=[]:=by unfold newV; split<;>rfl
theorem M.newV_gs(ks:List Int):(newV ks).gs=[]:=by unfold newV; split<;>rfl
theorem M.newV_ks(ks:List Int)(h:newB ks=true):(newV ks).ks=newK ks:=by rw[newV,h]; rfl
theorem M.newV_kl(ks:List Int):(newV ks).ks.length<=10:=by
 unfold newV;split
 . rename_i h;simp only[newB,Bool.and_eq_true,decide_eq_true_eq] at h;simp only[newK_len h.1];exact Nat.le_refl _
 . simp
theorem M.newB_len{ks:List Int}(h:newB ks=true):ks.length<=10:=by
 simp only[newB,Bool.and_eq_true,decide_eq_true_eq] at h;exact h.1
theorem M.newK_get{ks:List Int}(h:ks.length<=10){k:Nat}(hk:k<10):(newK ks).getD k 0=ks.getD k 0:=by
 rw[<- k10_new h];simp[k10,List.getD_eq_getElem?_getD,hk]
theorem M.new_sv{ks:List Int}(h:newB ks=true):svB [] (newK ks) []=true:=by
 have h1:=newB_len h;rw[<- k10_new h1,k10_sv,<- k10_newB h1,h]
theorem M.new_out{s:Sv}{w:World}{ks:List Int}(R:s.At w)(e:s.v=newV ks):s.n=0/\s.l=0/\s.ts=[]/\s.gs=[]/\s.m<=10:=by
 have h1:s.ts.map Tk.v=[]:=by rw[show s.ts.map Tk.v=s.v.ts from rfl,e,newV_ts]
 have h2:s.gs=[]:=by rw[show s.gs=s.v.gs from rfl,e,newV_gs]
 have h3:s.ks.length<=10:=by rw[show s.ks=s.v.ks from rfl,e]; exact newV_kl ks
 have h4:s.ts=[]:=List.map_eq_nil_iff.1 h1;have a:=R.T.len;have b:=R.S.1;have c:=R.K.1;rw[h4] at a;rw[h2] at b;exact⟨a.symm,b.symm,h4,h2,by omega⟩
theorem BD(a:Option Addr)(len cap:Nat)(zs:List Int)(w:World)(h:IsRow .u8 w a len cap zs) :
 Calls Try.prog 3 #[.slice a len cap] w fun e w'=>e=.returned (.bool true)/\Below w.heap.size w w':=by
 obtain⟨hm0,hm1,hb0⟩:=h.bytes;unfold maxLen at hm1;by_cases g:1048576<len
 . have g1:(1048576:Int)<(len:Int):=by omega
   go_enter Try.func3,Try.ntmps3;go_wp2;go_ret;exact⟨rfl,Below.refl _ _⟩
 have g1:(len:Int)<=1048576:=by omega
 go_enter Try.func3,Try.ntmps3;go_wp2_with fail;refine(ET a len cap zs w h).mono ?_;rintro e w1 ⟨A,n,c,ks,hn,rfl,I1,B1⟩;obtain⟨b,hb⟩:∃ b,newB ks=b:=⟨_,rfl⟩;replace I1:=hid I1;replace B1:=hid B1;go_wp2_with fail;refine(CC A n c ks w1 I1.out (by omega)).mono ?_;rintro e w2 ⟨s,rfl,F2,ev2⟩;rw[hb];obtain⟨sn,sl,sts,sgs,sm⟩:=new_out F2.R ev2;replace sn:=hid sn;replace sl:=hid sl;replace sts:=hid sts;replace sgs:=hid sgs;have B2:=hid (Aa B1.out F2.B);have I2:=hid (I1.out.step F2.B);have R2:=hid F2.R;clear F2 I1 B1;have V2:=hid (CellsAt.new w2 w2.heap.size s.cs 27 rfl);replace B2:=hid (Ab B2.out (.cells s.cs.toArray 27))
 replace I2:=hid (I2.out.step (Ab (Ac w2) (.cells s.cs.toArray 27)));replace R2:=hid (R2.out.step (Ab (Ac w2) (.cells s.cs.toArray 27)));go_wp2_with fail;refine(DK A n c ks _ I2.out (by omega)).mono ?_;rintro e w3 ⟨s',rfl,F3,ev3⟩;rw[hb];obtain⟨sn',sl',sts',sgs',sm'⟩:=new_out F3.R ev3;replace sn':=hid sn';replace sl':=hid sl';replace sts':=hid sts';replace sgs':=hid sgs';have ev:=hid (ev2.trans ev3.symm);replace ev2:=hid ev2;clear ev3;replace V2:=hid (V2.out.step F3.B);replace I2:=hid (I2.out.step F3.B);replace R2:=hid (R2.out.step F3.B);replace B2:=hid (Aa B2.out F3.B);have R3:=hid F3.R;clear F3
 have V3:=hid (CellsAt.new w3 w3.heap.size s'.cs 27 rfl);replace B2:=hid (Ab B2.out (.cells s'.cs.toArray 27));replace V2:=hid (V2.out.alloc (.cells s'.cs.toArray 27));replace I2:=hid (I2.out.step (Ab (Ac w3) (.cells s'.cs.toArray 27)));replace R2:=hid (R2.out.step (Ab (Ac w3) (.cells s'.cs.toArray 27)));replace R3:=hid (R3.out.step (Ab (Ac w3) (.cells s'.cs.toArray 27)));obtain⟨x0,x1,x2⟩:=AX V2.out;obtain⟨y0,y1,y2⟩:=AX V3.out;replace hb:=hid hb;cases b
 . go_wp2_with fail;refine(De s s' _ R2.out R3.out sn.out ev.out (by omega) (by have:=sl.out; omega)).mono ?_;rintro e w4 ⟨rfl,B4⟩;replace V2:=hid (V2.out.step B4);replace V3:=hid (V3.out.step B4);replace R2:=hid (R2.out.step B4);replace R3:=hid (R3.out.step B4);replace B2:=hid (Aa B2.out B4);clear B4;replace x0:=V2.out.cell 0 _ rfl;replace x1:=V2.out.cell 1 _ rfl;replace x2:=V2.out.cell 2 _ rfl;replace y0:=V3.out.cell 0 _ rfl;replace y1:=V3.out.cell 1 _ rfl;replace y2:=V3.out.cell 2 _ rfl;go_wp2_with fail;refine(De s s' _ R2.out R3.out sn.out ev.out (by omega) (by have:=sl.out; omega)).mono ?_;rintro e w5 ⟨rfl,B4⟩
   replace B2:=hid (Aa B2.out B4);clear B4;go_wp2;go_ret;exact⟨rfl,B2.out⟩
 have hkl:=newB_len hb.out;have hks:=hid (show s.ks=newK ks by rw[show s.ks=s.v.ks from rfl,ev2.out,newV_ks ks hb.out]);have hsm:=hid (show s.m=10 by have:=R2.out.K.1; rw[hks.out,newK_len hkl] at this; omega);go_wp2_with fail;refine(De s s' _ R2.out R3.out sn.out ev.out (by omega) (by have:=sl.out; omega)).mono ?_;rintro e w4 ⟨rfl,B4⟩;replace V2:=hid (V2.out.step B4);replace R2:=hid (R2.out.step B4);replace I2:=hid (I2.out.step B4);replace B2:=hid (Aa B2.out B4);clear B4 y0 y1 y2 V3 R3;replace x0:=V2.out.cell 0 _ rfl;replace x1:=V2.out.cell 1 _ rfl;replace x2:=V2.out.cell 2 _ rfl;go_wp2
 go_loopw [8] (fun iv W=>∃ k:Nat,k<=10/\iv=.int .i64 k/\Below w4.heap.size w4 W) (fun i _=>10-(RowKit.intOf i).toNat)
 case atStart=>exact⟨0,by decide,rfl,Ac _⟩
 case round =>
  obtain⟨k,hk,rfl,Bq⟩:=hrel;have V5:=hid (V2.out.step Bq);have I5:=I2.out.step Bq;have K5:=R2.out.K.step Bq;have R5:=hid (R2.out.step Bq);replace x0:=V5.out.cell 0 _ rfl;replace x1:=V5.out.cell 1 _ rfl;replace x2:=V5.out.cell 2 _ rfl;replace Bq:=hid Bq;have hI:=hid I5.1;by_cases hlt:k<10
  . obtain⟨b,off,eH,hb,hc⟩:=K5.2 (by have:=hsm.out; omega);have cc:=hc k (by have:=hsm.out; omega);rw[hks.out,newK_get hkl hlt] at cc;rw[eH] at x1;have hk2:(k:Int)<(s.m:Int):=by have:=hsm.out; omega
    clear hc K5;by_cases hkm:k<n
    . obtain⟨b2,off2,rfl,hb2,hc2⟩:=I5.2 (by omega);have cc2:=hc2 k hkm;clear hc2 I5;generalize ks.getD k 0=z at *;go_wp2
      go_roundw
      case rel=>exact⟨k+1,by omega,by go_num,Bq.out⟩
      case measure=>simp[RowKit.intOf]; omega
    . have hz:ks.getD k 0=0:=by rw[List.getD_eq_getElem?_getD,List.getElem?_eq_none (by have:=hI.out; omega)]; rfl
      rw[hz] at cc;replace hz:=hid hz;clear I5;go_wp2
      go_roundw
      case rel=>exact⟨k+1,by omega,by go_num,Bq.out⟩
      case measure=>simp[RowKit.intOf]; omega
  . obtain rfl:k=10:=by omega
    have hsv:=new_sv hb.out;rw[<- hks.out,<- sts.out,<- sgs.out] at hsv;clear I5 K5;go_wp2_with fail;refine(AM s.A s.n s.c s.H s.m s.d s.G s.l s.e s.ts s.ks s.gs true hsv _ R5.out.T R5.out.K R5.out.S R5.out.n R5.out.m R5.out.l).mono ?_;rintro e w6 ⟨rfl,B6⟩;replace V5:=hid (V5.out.step B6);replace Bq:=hid (Aa B2.out (Aa Bq.out B6));replace x0:=V5.out.cell 0 _ rfl;replace x1:=V5.out.cell 1 _ rfl;replace x2:=V5.out.cell 2 _ rfl;rw[sn.out] at x0;rw[sl.out] at x2;clear B6;go_wp2;go_ret;exact⟨rfl,Bq.out⟩
end Go.Proofs.Ytbeohbhhmcjokaa
