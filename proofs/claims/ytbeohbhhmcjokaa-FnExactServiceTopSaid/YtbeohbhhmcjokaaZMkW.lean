import Derived.Test.YtbeohbhhmcjokaaZMkT
set_option linter.all false
set_option maxRecDepth 100000
set_option maxHeartbeats 8000000
open Go.Lib
namespace Go.Proofs.Ytbeohbhhmcjokaa
open Go.RowKit
open M
theorem Mk.off0{lo n:Nat}{W:World}{A:Option Addr}(h:Mk lo W A n)(hn:0<n):∀ k off,A=some ⟨k,off,none⟩->off=0:=fun k off e=>by
 obtain⟨g,e1,_⟩:=h hn;rw[e] at e1;cases e1
 rfl
theorem MkSt.set0{lo:Nat}{w W:World}{g n k j:Nat}{ts:List Tk}{us:List Value}(h:MkSt lo w g n ts k j us W)(v:Value):MkSt lo w g n ts k j (us.set 0 v) (W.setCell ⟨g,j*12,none⟩ v):=h.put 0 (by decide) v
def G4(lo:Nat)(w:World)(g n:Nat)(ts:List Tk)(k:Nat)(kv iv:Value)(W:World):Prop:=∃ j:Nat,j<=n/\iv=.int .i64 j/\kv=.int .i64 ((k+mkS (ts.take j):Nat):Int)/\MkHd lo w g n ts k j W
theorem DC(lo:Nat)(A:Option Addr)(n c:Nat)(ts:List Tk)(k:Nat)(w:World)(T:Tracks w A n ts)(O:OwnL lo w ((A,n*12)::ts.flatMap Tk.ps))(hlo:lo<=w.heap.size)(hk:k+mkS ts<=50000000)(hs:∀ q∈ts,q.Sm)(hn:n<=1048576) :
 Calls Try.prog 47 #[.slice A n c,.int .i64 k] w fun e w'=>e=.returned (.int .i64 ((k+mkS ts:Nat):Int))/\Tracks w' A n (mkts k ts)/\OwnL lo w' ((A,n*12)::ts.flatMap Tk.ps)/\Fl ((A,n*12)::ts.flatMap Tk.ps) w w'/\Below lo w w':=by
 have hT:=hid T.len;by_cases h0:n=0
 . have hts:ts=[]:=List.eq_nil_of_length_eq_zero (by have:=T.len; omega);subst h0 hts;replace T:=hid T;replace O:=hid O;go_enter Try.func47,Try.ntmps47;go_wp2
   go_loopw [1,5] (fun kv iv W=>kv=.int .i64 k/\iv=.int .i64 0/\w=W) (fun _ _ _=>0)
   case atStart=>exact⟨rfl,rfl,rfl⟩
   case round =>
    obtain⟨rfl,rfl,rfl⟩:=hrel;go_wp2;go_ret;exact⟨by simp[mkS],T.out,O.out,Fl.refl _ _,Below.refl _ _⟩
 obtain⟨g,e,hg1,hg2,TH⟩:=O.all (A,n*12) (by simp) (by omega);simp only at e;subst e;have H0:=hid (show MkHd lo w g n ts k 0 w from⟨TH,fun i q hi=>absurd hi (by omega),fun i q _ hq=>by have:=T.rng hq; rwa [Nat.zero_add] at this,O,Fl.refl _ _,Below.refl _ _,hg2,hg1⟩);have hsm:=hid hs;have Tall:=hid T.all;replace hk:=hid hk;clear T O TH hs;go_enter Try.func47,Try.ntmps47;go_wp2
 go_loopw [1,5] (G4 lo w g n ts k) (fun _ i _=>n-(RowKit.intOf i).toNat)
 case atStart=>exact⟨0,Nat.zero_le _,rfl,by simp[mkS],H0.out⟩
 case round =>
  clear H0;obtain⟨j,hj,rfl,rfl,HJ⟩:=hrel;replace HJ:=hid HJ;by_cases hlt:j<n
  . obtain⟨q,hq⟩:∃ q,ts[j]?=some q:=⟨_,List.getElem?_eq_getElem (by have:=hT.out; omega)⟩;have S0:=hid (HJ.out.begin hlt hq);have en:=hid (mkS_next hq);have hsq:=hsm.out q (List.mem_of_getElem? hq);have hsn:=hsq.n;have hsm2:=hsq.m;have hsl:=hsq.l;have hb1:=hid (show k+mkS (ts.take (j+1))<=50000000 by have:=mkS_take ts (j+1); have:=hk.out; omega);have fin:=hid (fun(W:World)=>MkSt.end_ (lo:=lo) (w:=w) (g:=g) (n:=n) (W:=W) (k:=k) hq);have hqm:=hid (List.mem_of_getElem? hq);replace hq:=hid hq;obtain⟨kk,hkk⟩:∃ kk,kk=k+mkS (ts.take j):=⟨_,rfl⟩;rw[<- hkk] at fin ⊢
    have kb:kk<=50000000:=by have:=hb1.out; have:=en.out; omega
    have kn:kk+mkw q=k+mkS (ts.take (j+1)):=by have:=en.out; omega
    have kn2:=kn;have kb2:=hb1.out;simp only[mkw] at kn2;replace kn:=hid kn;replace hkk:=hid hkk;have hlI:(j:Int)<(n:Int):=by omega
    have hj0:(0:Int)<=(j:Int):=by omega
    clear HJ hsq;have e0:=S0.out.cur 0 _ rfl;have f0:=(S0.out.T (j*12+0) (by omega)).2;rw[Nat.add_zero] at e0 f0;rw[Nat.zero_add] at f0;have e1:=S0.out.cur 1 _ rfl;have f1:=(S0.out.T (j*12+1) (by omega)).2;rw[Nat.zero_add] at f1;have e2:=S0.out.cur 2 _ rfl;have f2:=(S0.out.T (j*12+2) (by omega)).2;rw[Nat.zero_add] at f2;have e3:=S0.out.cur 3 _ rfl;have f3:=(S0.out.T (j*12+3) (by omega)).2;rw[Nat.zero_add] at f3;have e4:=S0.out.cur 4 _ rfl;have kc4:(kk:Int)+1+1+1+1=((kk+4:Nat):Int):=by omega
    have S1:=hid (show MkSt lo w g n ts k j ([.int .i64 (kk:Int),.int .i64 ((kk:Int)+1),.int .i64 ((kk:Int)+1+1),.int .i64 ((kk:Int)+1+1+1),.slice q.L.A q.L.n q.L.c,.slice q.L.G q.L.m q.L.kk,.int .i64 q.L.fp,.int .i64 q.L.fq,.int .i64 q.L.fs,.int .i64 q.L.fz,.int .i64 q.L.b,.slice q.D q.l q.cc]:List Value) ((((wr.setCell ⟨g,j*12,none⟩ (.int .i64 (kk:Int))).setCell ⟨g,j*12+1,none⟩ (.int .i64 ((kk:Int)+1))).setCell ⟨g,j*12+2,none⟩ (.int .i64 ((kk:Int)+1+1))).setCell ⟨g,j*12+2+1,none⟩ (.int .i64 ((kk:Int)+1+1+1))) from(((S0.out.set0 _).put 1 (by decide) _).put 2 (by decide) _).put 3 (by decide) _)
    replace kc4:=hid kc4;go_wp2_with fail;generalize hW1:(((wr.setCell _ _).setCell _ _).setCell _ _).setCell _ _=w1 at *;rw[kc4.out];have OA:=S1.out.O;have MA:=OA.all (q.L.A,q.L.n*4) (List.mem_cons_of_mem _ (List.mem_flatMap.2 ⟨q,hqm.out,by simp⟩));have MG:=OA.all (q.L.G,q.L.m*4) (List.mem_cons_of_mem _ (List.mem_flatMap.2 ⟨q,hqm.out,by simp⟩));have MD:=OA.all (q.D,q.l*2) (List.mem_cons_of_mem _ (List.mem_flatMap.2 ⟨q,hqm.out,by simp⟩));have gA:=hid (fun h=>OA.head hqm.out (p:=(q.L.A,q.L.n*4)) (by simp) (show 0<n*12 by omega) h);have gG:=hid (fun h=>OA.head hqm.out (p:=(q.L.G,q.L.m*4)) (by simp) (show 0<n*12 by omega) h)
    have hin:=OA.inner hqm.out;simp only[Tk.ps,List.pairwise_cons,List.mem_cons,List.not_mem_nil,or_false] at hin;have dAG:=hid (hin.1 _ (.inl rfl));have dAD:=hid (hin.1 _ (.inr rfl));have dGD:=hid (hin.2.1 _ rfl);simp only at MA MG MD;have hlo1:lo<=w1.heap.size:=by have:=S1.out.lt; have:=S1.out.lo_; omega
    replace MG:=hid MG;replace MD:=hid MD;clear hin OA hW1 e0 e1 e2 e3 f0 f1 f2 f3 e4 S0;refine(Ct lo q.L.A q.L.n q.L.c (kk+4) w1 MA hsn (by omega) hlo1).mono ?_;rintro e w2 ⟨rfl,BA,MA2,FR,BB⟩;have S2:=hid (S1.out.fr hq.out (D:=q.L.A) (d:=q.L.n*4) (by simp) (by omega) FR BB MA2);have zA:=hid (fun(h:0<q.L.n) k off e=>MA2.off0 (by omega) k off e);replace MG:=hid (MG.out.fr FR (fun h0 h1=>dAG.out (by omega) (by omega)));replace MD:=hid (MD.out.fr FR (fun h0 h1=>dAD.out (by omega) (by omega)));replace BA:=hid BA;have hlo2:lo<=w2.heap.size:=by have:=S2.out.lt; have:=S2.out.lo_; omega
    clear FR BB MA MA2 S1;obtain⟨k2,hk2⟩:∃ k2,k2=kk+4+4*q.L.n:=⟨_,rfl⟩;rw[<- hk2];replace hk2:=hid hk2;have e5:=S2.out.cur 5 _ rfl;go_wp2_with fail;refine(Ct lo q.L.G q.L.m q.L.kk k2 w2 MG.out hsm2 (by have:=hk2.out; omega) hlo2).mono ?_;rintro e w3 ⟨rfl,BG,MG2,FR,BB⟩;have S3:=hid (S2.out.fr hq.out (D:=q.L.G) (d:=q.L.m*4) (by simp) (by omega) FR BB MG2);have zG:=hid (fun(h:0<q.L.m) k off e=>MG2.off0 (by omega) k off e);replace BA:=hid (BA.out.fr FR (fun h0 h1 k off e e'=>by
     have:=zA.out h0 k off e;subst this;exact dAG.out (by omega) (by omega) (e.trans e'.symm)))
    replace MD:=hid (MD.out.fr FR (fun h0 h1=>dGD.out (by omega) (by omega)));replace BG:=hid BG;clear FR BB MG MG2 S2 e5 hlo1 hlo2;obtain⟨k3,hk3⟩:∃ k3,k3=k2+4*q.L.m:=⟨_,rfl⟩;rw[<- hk3];have hk3b:k3<=50000000:=by have:=hk2.out; omega
    have hkm:=hid (show k3=mkf kk q by rw[hk3,hk2.out]; rfl);replace hk3:=hid hk3;have e6:=S3.out.cur 6 _ rfl;have f6:=(S3.out.T (j*12+6) (by omega)).2;rw[Nat.zero_add] at f6;have e7:=S3.out.cur 7 _ rfl;have f7:=(S3.out.T (j*12+7) (by omega)).2;rw[Nat.zero_add] at f7;have e8:=S3.out.cur 8 _ rfl;have f8:=(S3.out.T (j*12+8) (by omega)).2;rw[Nat.zero_add] at f8;have e9:=S3.out.cur 9 _ rfl;have f9:=(S3.out.T (j*12+9) (by omega)).2;rw[Nat.zero_add] at f9;have e10:=S3.out.cur 10 _ rfl;have f10:=(S3.out.T (j*12+10) (by omega)).2;rw[Nat.zero_add] at f10;have e11:=S3.out.cur 11 _ rfl
    have kc5:(k3:Int)+1+1+1+1+1=((k3+5:Nat):Int):=by omega
    have S4:=hid (show MkSt lo w g n ts k j ([.int .i64 (kk:Int),.int .i64 ((kk:Int)+1),.int .i64 ((kk:Int)+1+1),.int .i64 ((kk:Int)+1+1+1),.slice q.L.A q.L.n q.L.c,.slice q.L.G q.L.m q.L.kk,.int .i64 (k3:Int),.int .i64 ((k3:Int)+1),.int .i64 ((k3:Int)+1+1),.int .i64 ((k3:Int)+1+1+1),.int .i64 ((k3:Int)+1+1+1+1),.slice q.D q.l q.cc]:List Value) (((((w3.setCell ⟨g,j*12+6,none⟩ (.int .i64 (k3:Int))).setCell ⟨g,j*12+6+1,none⟩ (.int .i64 ((k3:Int)+1))).setCell ⟨g,j*12+8,none⟩ (.int .i64 ((k3:Int)+1+1))).setCell ⟨g,j*12+6+2+1,none⟩ (.int .i64 ((k3:Int)+1+1+1))).setCell ⟨g,j*12+10,none⟩ (.int .i64 ((k3:Int)+1+1+1+1))) from((((S3.out.put 6 (by decide) _).put 7 (by decide) _).put 8 (by decide) _).put 9 (by decide) _).put 10 (by decide) _)
    have K5:=hid (BH (BH (BH (BH (BH (Kept.refl g w3) (j*12+6) (.int .i64 (k3:Int))) (j*12+6+1) (.int .i64 ((k3:Int)+1))) (j*12+8) (.int .i64 ((k3:Int)+1+1))) (j*12+6+2+1) (.int .i64 ((k3:Int)+1+1+1))) (j*12+10) (.int .i64 ((k3:Int)+1+1+1+1)));replace kc5:=hid kc5;go_wp2_with fail;generalize hW4:((((w3.setCell _ _).setCell _ _).setCell _ _).setCell _ _).setCell _ _=w4 at *;rw[kc5.out];replace BA:=hid (BA.out.kept K5.out (fun h0 k off e e'=>by
     have:=zA.out h0 k off e;subst this e';exact gA.out (by omega) e.symm))
    replace BG:=hid (BG.out.kept K5.out (fun h0 k off e e'=>by
     have:=zG.out h0 k off e;subst this e';exact gG.out (by omega) e.symm))
    have MD4:=S4.out.O.all (q.D,q.l*2) (List.mem_cons_of_mem _ (List.mem_flatMap.2 ⟨q,hqm.out,by simp⟩));simp only at MD4;have hlo4:lo<=w4.heap.size:=by have:=S4.out.lt; have:=S4.out.lo_; omega
    clear hW4 K5 e6 e7 e8 e9 e10 f6 f7 f8 f9 f10 e11 S3 MD;refine(Cr lo q.D q.l q.cc (k3+5) w4 MD4 hsl (by omega) hlo4).mono ?_;rintro e w5 ⟨rfl,ES,MD5,FR,BB⟩;have S5:=S4.out.fr hq.out (D:=q.D) (d:=q.l*2) (by simp) (by omega) FR BB MD5;have BA5:=BA.out.fr FR (fun h0 h1 k off e e'=>by
     have:=zA.out h0 k off e;subst this;exact dAD.out (by omega) (by omega) (e.trans e'.symm))
    have BG5:=BG.out.fr FR (fun h0 h1 k off e e'=>by
     have:=zG.out h0 k off e;subst this;exact dGD.out (by omega) (by omega) (e.trans e'.symm))
    have hq9:(mkq kk q).At w5:=⟨BA5,by rw[hk2.out] at BG5; exact BG5,by rw[hkm.out] at ES; exact ES,by show q.L.n<=_; omega,by show q.L.m<=_; omega,by show q.l<=_; omega⟩;have eus:([.int .i64 (kk:Int),.int .i64 ((kk:Int)+1),.int .i64 ((kk:Int)+1+1),.int .i64 ((kk:Int)+1+1+1),.slice q.L.A q.L.n q.L.c,.slice q.L.G q.L.m q.L.kk,.int .i64 (k3:Int),.int .i64 ((k3:Int)+1),.int .i64 ((k3:Int)+1+1),.int .i64 ((k3:Int)+1+1+1),.int .i64 ((k3:Int)+1+1+1+1),.slice q.D q.l q.cc]:List Value)=(mkq kk q).cs:=by
     rw[hkm.out]; rfl
    rw[eus] at S5;have FIN:=hid (fin.out w5 S5 hq9);have ke:k3+5+2*q.l=k+mkS (ts.take (j+1)):=by
     have a:=kn.out;have b:=hk3.out;have c:=hk2.out;simp only[mkw] at a;omega
    rw[ke];clear S5 BA5 BG5 hq9 eus ES MD5 FR BB S4 BA BG MD4 ke;go_wp2
    go_roundw
    case rel=>exact⟨j+1,by omega,by go_num,rfl,FIN.out⟩
    case measure=>simp[RowKit.intOf]; omega
  . obtain rfl:j=n:=by omega
    have et:ts.take j=ts:=List.take_of_length_le (by have:=hT.out; omega);rw[et];have TT:=hid (show Tracks wr (some ⟨g,0,none⟩) j (mkts k ts) from⟨by rw[mkts_len]; exact hT.out,fun _=>⟨g,0,rfl,HJ.out.lt,fun i q hi=>by
     have hl:i<j:=by
      rcases Nat.lt_or_ge i (mkts k ts).length with h1 | h1
      . rw[mkts_len] at h1; have:=hT.out; omega
      . rw[List.getElem?_eq_none h1] at hi; cases hi
     rw[Nat.zero_add];exact(HJ.out.old i q hl hi).1⟩,fun q hq=>by
     obtain⟨i,hi,rfl⟩:=List.getElem_of_mem hq;exact(HJ.out.old i _ (by rw[mkts_len] at hi; have:=hT.out; omega) (List.getElem?_eq_getElem hi)).2⟩)
    clear et;go_wp2;go_ret;exact⟨rfl,TT.out,HJ.out.O,HJ.out.F,HJ.out.B⟩
theorem DD(A:Option Addr)(n c:Nat)(ts:List Tk)(k:Nat)(w:World)(T:Tracks w A n (mkts k ts))(hk:k+mkS ts<=50000000)(hs:∀ q∈ts,q.Sm)(hn:n<=1048576) :
 Calls Try.prog 48 #[.slice A n c,.int .i64 k] w fun e w'=>e=.returned (.int .i64 ((k+mkS ts:Nat):Int))/\w=w':=by
 have hT:=hid (show ts.length=n by have:=T.len; rwa [mkts_len] at this);have hsm:=hid hs;replace T:=hid T;replace hk:=hid hk;clear hs;go_enter Try.func48,Try.ntmps48;go_wp2
 go_loopw [1,5] (fun kv iv W=>∃ j:Nat,j<=n/\iv=.int .i64 j/\kv=.int .i64 ((k+mkS (ts.take j):Nat):Int)/\w=W) (fun _ i _=>n-(RowKit.intOf i).toNat)
 case atStart=>exact⟨0,Nat.zero_le _,rfl,by simp[mkS],rfl⟩
 case round =>
  obtain⟨j,hj,rfl,rfl,rfl⟩:=hrel;by_cases hlt:j<n
  . obtain⟨q,hq⟩:∃ q,ts[j]?=some q:=⟨_,List.getElem?_eq_getElem (by have:=hT.out; omega)⟩;obtain⟨b,off,eA,_,hc⟩:=T.out.at_ (by omega);subst eA;have hqk:=mkts_get (k:=k) hq;have hr:=hc j _ hqk;have hqa:=T.out.all _ (List.mem_of_getElem? hqk);have en:=hid (mkS_next hq);have hsq:=hsm.out q (List.mem_of_getElem? hq);have hsn:=hsq.n;have hsm2:=hsq.m;have hsl:=hsq.l;have hb1:=hid (show k+mkS (ts.take (j+1))<=50000000 by have:=mkS_take ts (j+1); have:=hk.out; omega);obtain⟨kk,hkk⟩:∃ kk,kk=k+mkS (ts.take j):=⟨_,rfl⟩;rw[<- hkk] at hr hqa ⊢;have kb:kk<=50000000:=by have:=hb1.out; have:=en.out; omega
    have kn:kk+mkw q=k+mkS (ts.take (j+1)):=by have:=en.out; omega
    have kn2:=kn;have kb2:=hb1.out;simp only[mkw] at kn2;obtain⟨k2,hk2⟩:∃ k2,k2=kk+4+4*q.L.n:=⟨_,rfl⟩;obtain⟨k3,hk3⟩:∃ k3,k3=k2+4*q.L.m:=⟨_,rfl⟩;have hkm:mkf kk q=k3:=by rw[hk3,hk2]; rfl
    have IA:Boxes w q.L.A q.L.n (BW (kk+4) q.L.n):=hqa.I;have IG:Boxes w q.L.G q.L.m (BW k2 q.L.m):=by rw[hk2]; exact hqa.J
    have IE:Ents w q.D q.l (CI (k3+5) q.l):=by rw[<- hkm]; exact hqa.E
    have hcs:(mkq kk q).cs=[.int .i64 (kk:Int),.int .i64 ((kk:Int)+1),.int .i64 ((kk:Int)+1+1),.int .i64 ((kk:Int)+1+1+1),.slice q.L.A q.L.n q.L.c,.slice q.L.G q.L.m q.L.kk,.int .i64 (k3:Int),.int .i64 ((k3:Int)+1),.int .i64 ((k3:Int)+1+1),.int .i64 ((k3:Int)+1+1+1),.int .i64 ((k3:Int)+1+1+1+1),.slice q.D q.l q.cc]:=by
     rw[<- hkm]; rfl
    rw[hcs] at hr;have e0:w.cell? ⟨b,off+j*12,none⟩=some (.int .i64 (kk:Int)):=hr 0 _ rfl;have e1:w.cell? ⟨b,off+j*12+1,none⟩=some (.int .i64 ((kk:Int)+1)):=hr 1 _ rfl;have e2:w.cell? ⟨b,off+j*12+2,none⟩=some (.int .i64 ((kk:Int)+1+1)):=hr 2 _ rfl;have e3:w.cell? ⟨b,off+j*12+2+1,none⟩=some (.int .i64 ((kk:Int)+1+1+1)):=hr 3 _ rfl;have e3b:w.cell? ⟨b,off+j*12+3,none⟩=some (.int .i64 ((kk:Int)+1+1+1)):=hr 3 _ rfl;have e4:w.cell? ⟨b,off+j*12+4,none⟩=some (.slice q.L.A q.L.n q.L.c):=hr 4 _ rfl
    have e5:w.cell? ⟨b,off+j*12+5,none⟩=some (.slice q.L.G q.L.m q.L.kk):=hr 5 _ rfl;have e6:w.cell? ⟨b,off+j*12+6,none⟩=some (.int .i64 (k3:Int)):=hr 6 _ rfl;have e7:w.cell? ⟨b,off+j*12+6+1,none⟩=some (.int .i64 ((k3:Int)+1)):=hr 7 _ rfl;have e7b:w.cell? ⟨b,off+j*12+7,none⟩=some (.int .i64 ((k3:Int)+1)):=hr 7 _ rfl;have e8:w.cell? ⟨b,off+j*12+8,none⟩=some (.int .i64 ((k3:Int)+1+1)):=hr 8 _ rfl;have e9:w.cell? ⟨b,off+j*12+6+2+1,none⟩=some (.int .i64 ((k3:Int)+1+1+1)):=hr 9 _ rfl
    have e9b:w.cell? ⟨b,off+j*12+9,none⟩=some (.int .i64 ((k3:Int)+1+1+1)):=hr 9 _ rfl;have e10:w.cell? ⟨b,off+j*12+10,none⟩=some (.int .i64 ((k3:Int)+1+1+1+1)):=hr 10 _ rfl;have e11:w.cell? ⟨b,off+j*12+11,none⟩=some (.slice q.D q.l q.cc):=hr 11 _ rfl;have hk3b:k3<=50000000:=by omega
    have hk2b:k2<=50000000:=by omega
    replace kn:=hid kn;replace hkk:=hid hkk;replace hk2:=hid hk2;replace hk3:=hid hk3;have hlI:(j:Int)<(n:Int):=by omega
    have hj0:(0:Int)<=(j:Int):=by omega
    have kc4:Hid ((kk:Int)+1+1+1+1=((kk+4:Nat):Int)):=hid (by omega);have kc5:Hid ((k3:Int)+1+1+1+1+1=((k3+5:Nat):Int)):=hid (by omega);have kn3:=hid kn2;replace IA:=hid IA;replace IG:=hid IG;replace IE:=hid IE;clear hcs hqk hr hqa hsq hc hkm kn2;go_wp2_with fail;rw[kc4.out];refine(Cu q.L.A q.L.n q.L.c (kk+4) w IA.out hsn (by omega)).mono ?_;rintro e w2 ⟨rfl,rfl⟩;rw[<- hk2.out];go_wp2_with fail;refine(Cu q.L.G q.L.m q.L.kk k2 w IG.out hsm2 (by omega)).mono ?_;rintro e w3 ⟨rfl,rfl⟩;rw[<- hk3.out];go_wp2_with fail;rw[kc5.out];refine(Bl q.D q.l q.cc (k3+5) w IE.out hsl (by omega)).mono ?_
    rintro e w4 ⟨rfl,rfl⟩;have ke:k3+5+2*q.l=k+mkS (ts.take (j+1)):=by
     have a:=kn.out;have b:=hk3.out;have c:=hk2.out;simp only[mkw] at a;omega
    rw[ke];clear ke;go_wp2
    go_roundw
    case rel=>exact⟨j+1,by omega,by go_num,rfl,trivial⟩
    case measure=>simp[RowKit.intOf]; omega
  . obtain rfl:j=n:=by omega
    have et:ts.take j=ts:=List.take_of_length_le (by have:=hT.out; omega);rw[et];clear et;go_wp2;go_ret;exact⟨rfl,rfl⟩
end Go.Proofs.Ytbeohbhhmcjokaa
