import Derived.Test.YtbeohbhhmcjokaaZMkW
set_option linter.all false
set_option maxRecDepth 100000
set_option maxHeartbeats 8000000
open Go.Lib
namespace Go.Proofs.Ytbeohbhhmcjokaa
open Go.RowKit
open M
theorem OwnL.sub{lo:Nat}{w:World}{ps qs:List (Option Addr × Nat)}(h:OwnL lo w qs)(hs:ps.Sublist qs):OwnL lo w ps:=⟨fun p hp=>h.all p (hs.subset hp),h.ne.sublist hs⟩
theorem Tracks.fl{ps:List (Option Addr × Nat)}{w w':World}{A:Option Addr}{n lo:Nat}{ts:List Tk}(h:Tracks w A n ts)(O:OwnL lo w ((A,n*12)::ts.flatMap Tk.ps))(B:Fl ps w w')(hd:∀ p∈(A,n*12)::ts.flatMap Tk.ps,0<p.2->∀ r∈ps,0<r.2->r.1≠p.1):Tracks w' A n ts :=
 ⟨h.len,fun hn=>by
  obtain⟨b,off,e,hb,hc⟩:=h.at_ hn;have h0:=(O.all (A,n*12) (by simp)).off0 (by simp only; omega) b off e;subst h0;exact⟨b,0,e,Nat.lt_of_lt_of_le hb B.1,fun k q hq=>Av (hc k q hq) (B.2 b hb (fun p hp h0 e'=>hd (A,n*12) (by simp) (by simp only; omega) p hp h0 (e'.trans e.symm)))⟩,
  fun q hq=>(h.all q hq).fl (lo:=lo) (fun p hp=>O.all p (List.mem_cons_of_mem _ (List.mem_flatMap.2 ⟨q,hq,hp⟩))) B (fun p hp h0=>hd p (List.mem_cons_of_mem _ (List.mem_flatMap.2 ⟨q,hq,hp⟩)) h0)⟩
def M.mkV(s:Sv):Nat:=mkS s.ts+s.m+s.l
def M.mkv(k:Nat)(s:Sv):Sv:=⟨s.A,s.n,s.c,s.H,s.m,s.d,s.G,s.l,s.e,mkts k s.ts,Es (k+mkS s.ts) s.m,Es (k+mkS s.ts+s.m) s.l⟩
theorem M.mkV_le{s:Sv}{w:World}(R:s.At w)(hs:s.n+tss s.ts+s.m+s.l<=1048576):mkV s<=10000000:=by
 have:=mkS_le s.ts;have:=R.T.len;simp only[mkV];omega
theorem Cv(lo:Nat)(s:Sv)(k:Nat)(w:World)(R:s.At w)(O:OwnL lo w s.ps)(hlo:lo<=w.heap.size)(hk:k+mkV s<=50000000)(hs:s.Sm) :
 Calls Try.prog 19 #[s.val,.int .i64 k] w fun e w'=>e=.returned (.int .i64 ((k+mkV s:Nat):Int))/\(mkv k s).At w'/\OwnL lo w' s.ps/\Fl s.ps w w'/\Below lo w w':=by
 obtain⟨A,n,c,H,m,d,G,l,e1,ts,ks,gs⟩:=s;obtain⟨hn,hm,hl,hq⟩:=hs;simp only at hn hm hl hq;simp only[mkV] at hk;have B0:=Ab (Ac w) (.cells [.slice A n c,.slice H m d,.slice G l e1].toArray 27);have D0:=hid (CellsAt.new w w.heap.size [.slice A n c,.slice H m d,.slice G l e1] 27 rfl);have F0:Fl [] w (w.alloc (.cells [.slice A n c,.slice H m d,.slice G l e1].toArray 27)):=⟨B0.size,fun b hb _=>B0.block b hb⟩;have L0:=hid (show Below lo w (w.alloc (.cells [.slice A n c,.slice H m d,.slice G l e1].toArray 27)) from B0.mono hlo);have T:=R.T.step B0;have K:=R.K.step B0;have S:=R.S.step B0;have O0:=O.step B0;simp only at T K S
 obtain⟨w0,hw0⟩:∃ w0,w.alloc (.cells [.slice A n c,.slice H m d,.slice G l e1].toArray 27)=w0:=⟨_,rfl⟩;obtain⟨x0,x1,x2⟩:=AX D0.out;have OT:OwnL lo (w.alloc (.cells [.slice A n c,.slice H m d,.slice G l e1].toArray 27)) ((A,n*12)::ts.flatMap Tk.ps):=O0.sub (((List.Sublist.refl _).cons _).cons _ |>.cons₂ _);have MH:=O0.all (H,m*1) (by simp);have MG:=O0.all (G,l*1) (by simp);have hne:=O.ne;simp only[Sv.ps,List.pairwise_cons] at hne;obtain⟨nA,nH,nG,_⟩:=hne;simp only at MH MG;have sub:∀ p∈(A,n*12)::ts.flatMap Tk.ps,p∈(⟨A,n,c,H,m,d,G,l,e1,ts,ks,gs⟩:Sv).ps:=fun p hp=>by
  simp only[Sv.ps,List.mem_cons] at hp ⊢;rcases hp with h | h
  . exact .inl h
  . exact .inr (.inr (.inr h))
 have dH:∀ p∈(A,n*12)::ts.flatMap Tk.ps,0<p.2->0<m*1->p.1≠H:=fun p hp h0 h1=>by
  rcases List.mem_cons.1 hp with rfl | h2
  . exact nA (H,m*1) (by simp) h0 h1
  . exact fun e=>nH p (by simp[h2]) h1 h0 e.symm
 have dG:∀ p∈(A,n*12)::ts.flatMap Tk.ps,0<p.2->0<l*1->p.1≠G:=fun p hp h0 h1=>by
  rcases List.mem_cons.1 hp with rfl | h2
  . exact nA (G,l*1) (by simp) h0 h1
  . exact fun e=>nG p h2 h1 h0 e.symm
 have dHG:0<m*1->0<l*1->H≠G:=fun h0 h1=>nH (G,l*1) (by simp) h0 h1;replace MH:=hid MH;replace MG:=hid MG;replace T:=hid T;replace K:=hid K;replace S:=hid S;replace OT:=hid OT;replace dH:=hid dH;replace dG:=hid dG;replace dHG:=hid dHG;replace sub:=hid sub;replace hq:=hid hq;replace F0:=hid F0;have hT0:=hid (fun p hp h0 g e=>(O.lt p hp h0 g e).2);have One:=hid O.ne;have hls:=hid (Nat.le_trans hlo B0.size);clear R O O0 B0 nA nH nG hw0 hlo;go_enter Try.func19,Try.ntmps19;go_wp2_with fail;refine(DC lo A n c ts k _ T.out OT.out hls.out (by omega) hq.out hn).mono ?_;rintro e w1 ⟨rfl,T1,O1,F1,L1⟩
 replace D0:=hid (show CellsAt w1 w.heap.size [.slice A n c,.slice H m d,.slice G l e1] from D0.out.of (F1.2 _ D0.out.lt (fun p hp h0 e=>Nat.lt_irrefl _ (hT0.out p (sub.out p hp) h0 _ e))) F1.1);have K1:=hid (K.out.fl F1 (fun h0 b off e p hp h1 e'=>by
  have:=MH.out.off0 (by omega) b off e;subst this;exact dH.out p hp h1 (by omega) (e'.trans e.symm)))
 have S1:=hid (S.out.fl F1 (fun h0 b off e p hp h1 e'=>by
  have:=MG.out.off0 (by omega) b off e;subst this;exact dG.out p hp h1 (by omega) (e'.trans e.symm)))
 replace MH:=hid (MH.out.fl F1 (fun h0 p hp h1=>dH.out p hp h1 h0));replace MG:=hid (MG.out.fl F1 (fun h0 p hp h1=>dG.out p hp h1 h0));have FF:=hid ((F0.out.mono (qs:=(⟨A,n,c,H,m,d,G,l,e1,ts,ks,gs⟩:Sv).ps) (fun p hp=>by cases hp)).trans (F1.mono sub.out));replace L0:=hid (L0.out.trans L1);replace hls:=hid (Nat.le_trans hls.out F1.1);replace T1:=hid T1;replace O1:=hid O1;clear F1 L1 K S T OT F0 x0;obtain⟨k1,hk1⟩:∃ k1,k1=k+mkS ts:=⟨_,rfl⟩;rw[<- hk1];replace hk1:=hid hk1;replace x1:=D0.out.cell 1 _ rfl;replace x2:=D0.out.cell 2 _ rfl;go_wp2_with fail;refine(BL lo H m d k1 w1 MH.out hm (by have:=hk1.out; omega) hls.out).mono ?_
 rintro e w2 ⟨rfl,K2,MH2,FR,L2⟩;have F2:Fl [(H,m*1)] w1 w2:=Fl.of_fr (m:=m*1) FR (fun h0=>⟨by simp,by omega⟩);replace D0:=hid (show CellsAt w2 w.heap.size [.slice A n c,.slice H m d,.slice G l e1] from D0.out.of (F2.2 _ D0.out.lt (fun p hp h0 e=>Nat.lt_irrefl _ (hT0.out p (by rw[List.mem_singleton.1 hp]; simp) h0 _ e))) F2.1);have T2:=hid (T1.out.fl (lo:=lo) (by rw[mkts_ps]; exact O1.out) F2 (fun p hp h0 r hr h1=>by
  rw[mkts_ps] at hp;rw[List.mem_singleton.1 hr] at h1 ⊢;exact fun e=>dH.out p hp h0 h1 e.symm))
 have O2:=hid (show OwnL lo w2 ((A,n*12)::ts.flatMap Tk.ps) from⟨fun p hp=>(O1.out.all p hp).fl F2 (fun h0 r hr h1=>by
  rw[List.mem_singleton.1 hr] at h1 ⊢;exact fun e=>dH.out p hp h0 h1 e.symm),O1.out.ne⟩)
 have S2:=hid (S1.out.fl F2 (fun h0 b off e p hp h1 e'=>by
  have:=MG.out.off0 (by omega) b off e;subst this;rw[List.mem_singleton.1 hp] at h1 e';exact dHG.out h1 (by omega) (e'.trans e.symm)))
 replace MG:=hid (MG.out.fl F2 (fun h0 p hp h1=>by
  rw[List.mem_singleton.1 hp] at h1 ⊢;exact dHG.out h1 h0))
 replace FF:=hid (FF.out.trans (F2.mono (fun p hp=>by rw[List.mem_singleton.1 hp]; simp)));replace L0:=hid (L0.out.trans L2);replace hls:=hid (Nat.le_trans hls.out F2.1);replace K2:=hid K2;replace MH2:=hid MH2;clear F2 FR L2 S1 T1 O1 MH K1 x1 x2;obtain⟨k2,hk2⟩:∃ k2,k2=k1+1*m:=⟨_,rfl⟩;rw[<- hk2];replace hk2:=hid hk2;have x2:=D0.out.cell 2 _ rfl;go_wp2_with fail;refine(BL lo G l e1 k2 w2 MG.out hl (by have:=hk1.out; have:=hk2.out; omega) hls.out).mono ?_;rintro e w3 ⟨rfl,S3,MG3,FR,L3⟩;have F3:Fl [(G,l*1)] w2 w3:=Fl.of_fr (m:=l*1) FR (fun h0=>⟨by simp,by omega⟩)
 have T3:=T2.out.fl (lo:=lo) (by rw[mkts_ps]; exact O2.out) F3 (fun p hp h0 r hr h1=>by
  rw[mkts_ps] at hp;rw[List.mem_singleton.1 hr] at h1 ⊢;exact fun e=>dG.out p hp h0 h1 e.symm)
 have O3:OwnL lo w3 ((A,n*12)::ts.flatMap Tk.ps):=⟨fun p hp=>(O2.out.all p hp).fl F3 (fun h0 r hr h1=>by
  rw[List.mem_singleton.1 hr] at h1 ⊢;exact fun e=>dG.out p hp h0 h1 e.symm),O2.out.ne⟩
 have K3:=K2.out.fl F3 (fun h0 b off e p hp h1 e'=>by
  have:=MH2.out.off0 (by omega) b off e;subst this;rw[List.mem_singleton.1 hp] at h1 e';exact dHG.out (by omega) h1 (e.trans e'.symm))
 have MH3:=MH2.out.fl F3 (fun h0 p hp h1=>by
  rw[List.mem_singleton.1 hp] at h1 ⊢;exact fun e=>dHG.out h0 h1 e.symm)
 have RR:=hid (show(mkv k ⟨A,n,c,H,m,d,G,l,e1,ts,ks,gs⟩).At w3 from⟨T3,by show Ints w3 H m (Es (k+mkS ts) m); rw[<- hk1.out]; exact K3,by show Ints w3 G l (Es (k+mkS ts+m) l); rw[<- hk1.out,show k1+m=k2 by have:=hk2.out; omega]; exact S3,by show n<=_; omega,by show m<=_; omega,by show l<=_; omega⟩);have OO:=hid (show OwnL lo w3 (⟨A,n,c,H,m,d,G,l,e1,ts,ks,gs⟩:Sv).ps from⟨fun p hp=>by
  simp only[Sv.ps,List.mem_cons] at hp;rcases hp with rfl | rfl | rfl | h
  . exact O3.all _ (by simp)
  . exact MH3
  . exact MG3
  . exact O3.all p (List.mem_cons_of_mem _ h),One.out⟩)
 replace FF:=hid (FF.out.trans (F3.mono (fun p hp=>by rw[List.mem_singleton.1 hp]; simp)));replace L0:=hid (L0.out.trans L3);have ke:k2+1*l=k+mkV ⟨A,n,c,H,m,d,G,l,e1,ts,ks,gs⟩:=by
  have:=hk1.out;have:=hk2.out;simp only[mkV];omega
 rw[ke];clear F3 FR L3 T3 O3 K3 MH3 MG3 S3 T2 O2 S2 ke x2;go_wp2;go_ret;exact⟨rfl,RR.out,OO.out,FF.out,L0.out⟩
theorem Cw(s:Sv)(k:Nat)(w:World)(R:(mkv k s).At w)(hk:k+mkV s<=50000000)(hs:s.Sm) :
 Calls Try.prog 20 #[s.val,.int .i64 k] w fun e w'=>e=.returned (.int .i64 ((k+mkV s:Nat):Int))/\Below w.heap.size w w':=by
 obtain⟨A,n,c,H,m,d,G,l,e1,ts,ks,gs⟩:=s;obtain⟨hn,hm,hl,hq⟩:=hs;simp only at hn hm hl hq;simp only[mkV] at hk;have B0:=hid (Ab (Ac w) (.cells [.slice A n c,.slice H m d,.slice G l e1].toArray 27));have D0:=hid (CellsAt.new w w.heap.size [.slice A n c,.slice H m d,.slice G l e1] 27 rfl);have T:=hid (show Tracks (w.alloc (.cells [.slice A n c,.slice H m d,.slice G l e1].toArray 27)) A n (mkts k ts) from R.T.step B0.out);have K:=hid (show Ints (w.alloc (.cells [.slice A n c,.slice H m d,.slice G l e1].toArray 27)) H m (Es (k+mkS ts) m) from R.K.step B0.out)
 have S:=hid (show Ints (w.alloc (.cells [.slice A n c,.slice H m d,.slice G l e1].toArray 27)) G l (Es (k+mkS ts+m) l) from R.S.step B0.out);obtain⟨x0,x1,x2⟩:=AX D0.out;replace hq:=hid hq;clear R;go_enter Try.func20,Try.ntmps20;go_wp2_with fail;refine(DD A n c ts k _ T.out (by omega) hq.out hn).mono ?_;rintro e w1 ⟨rfl,rfl⟩;obtain⟨k1,hk1⟩:∃ k1,k1=k+mkS ts:=⟨_,rfl⟩;rw[<- hk1] at K S ⊢;replace hk1:=hid hk1;go_wp2_with fail;refine(CP H m d k1 _ K.out hm (by have:=hk1.out; omega)).mono ?_;rintro e w1 ⟨rfl,rfl⟩;obtain⟨k2,hk2⟩:∃ k2,k2=k1+1*m:=⟨_,rfl⟩;rw[<- hk2];have hk3:k1+m=k2:=by omega
 rw[hk3] at S;replace hk2:=hid hk2;replace hk3:=hid hk3;go_wp2_with fail;refine(CP G l e1 k2 _ S.out hl (by have:=hk1.out; have:=hk2.out; omega)).mono ?_;rintro e w1 ⟨rfl,rfl⟩;have ke:k2+1*l=k+mkV ⟨A,n,c,H,m,d,G,l,e1,ts,ks,gs⟩:=by
  have:=hk1.out;have:=hk2.out;simp only[mkV];omega
 rw[ke];clear ke;go_wp2;go_ret;exact⟨rfl,B0.out⟩
end Go.Proofs.Ytbeohbhhmcjokaa
