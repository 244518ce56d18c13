import Derived.Test.YtbeohbhhmcjokaaZSvU
set_option linter.all false
set_option maxRecDepth 100000
set_option maxHeartbeats 8000000
open Go.Lib
namespace Go.Proofs.Ytbeohbhhmcjokaa
open Go.RowKit
open M
def Hk(l:Int)(t:Nat)(w:World)(e:Ending)(w':World):Prop:=(e=.returned (.int .i64 (-1))\/∃ r:Int,0<=r/\r+t=l/\e=.returned (.int .i64 r))/\Below w.heap.size w w'
theorem GL(A:Option Addr)(n c:Nat)(l:Int)(w:World)(hn:n<=9223372036854775807)(l0:0<=l)(l1:l<=1048576) :
 Calls Try.prog 57 #[.slice A n c,.int .i64 l] w (Hk l n w):=by
 by_cases h:l-(n:Int)<0
 . go_enter Try.func57,Try.ntmps57;go_wp2;go_ret;exact⟨.inl rfl,Below.refl _ _⟩
 . have h':0<=l-(n:Int):=by omega
   go_enter Try.func57,Try.ntmps57;go_wp2;go_ret;exact⟨.inr ⟨_,h',by omega,rfl⟩,Below.refl _ _⟩
theorem HE(A:Option Addr)(n c:Nat)(l:Int)(w:World)(hn:n<=9223372036854775807)(l0:0<=l)(l1:l<=1048576) :
 Calls Try.prog 107 #[.slice A n c,.int .i64 l] w (Hk l n w):=by
 by_cases h:l-(n:Int)<0
 . go_enter Try.func107,Try.ntmps107;go_wp2;go_ret;exact⟨.inl rfl,Below.refl _ _⟩
 . have h':0<=l-(n:Int):=by omega
   go_enter Try.func107,Try.ntmps107;go_wp2;go_ret;exact⟨.inr ⟨_,h',by omega,rfl⟩,Below.refl _ _⟩
theorem GM(A:Option Addr)(n c:Nat)(l:Int)(w:World)(hn:n<=9223372036854775807)(l0:0<=l)(l1:l<=1048576) :
 Calls Try.prog 51 #[.slice A n c,.int .i64 l] w (Hk l n w):=by
 by_cases h:l-(n:Int)<0
 . go_enter Try.func51,Try.ntmps51;go_wp2;go_ret;exact⟨.inl rfl,Below.refl _ _⟩
 . have h':0<=l-(n:Int):=by omega
   go_enter Try.func51,Try.ntmps51;go_wp2;go_ret;exact⟨.inr ⟨_,h',by omega,rfl⟩,Below.refl _ _⟩
theorem Hl(i t x y:Int)(A:Option Addr)(n c:Nat)(G:Option Addr)(m kk:Nat)(fp fq fs fz b:Int)(l:Int)(w:World)(l0:0<=l)(l1:l<=1048576)(hn:n<=9223372036854775807)(hm:m<=9223372036854775807) :
 Calls Try.prog 24 #[E2 i t x y A n c G m kk fp fq fs fz b,.int .i64 l] w (Hk l (n+m) w):=by
 have P:=hid (CellsAt.new w w.heap.size (AV i t x y A n c G m kk fp fq fs fz b) 50 rfl);have H:=hid (Ab (Ac w) (.cells (AV i t x y A n c G m kk fp fq fs fz b).toArray 50));have x4:=P.out.cell 4 _ rfl;have x5:=P.out.cell 5 _ rfl;go_enter Try.func24,Try.ntmps24;go_wp2_with fail;refine(GL A n c l _ hn l0 l1).mono ?_;rintro e w1 ⟨hr,B⟩;replace P:=hid (P.out.step B);replace H:=hid (Aa H.out B);clear B ;replace x4:=P.out.cell 4 _ rfl;replace x5:=P.out.cell 5 _ rfl;rcases hr with rfl | ⟨r0,hr0,er0,rfl⟩
 . go_wp2;go_ret;exact⟨.inl rfl,H.out⟩
 replace er0:=hid er0;go_wp2_with fail;refine(GL G m kk r0 _ hm hr0 (by have:=er0.out; omega)).mono ?_;rintro e w2 ⟨hr,B⟩;replace P:=hid (P.out.step B);replace H:=hid (Aa H.out B);clear B ;replace x4:=P.out.cell 4 _ rfl;replace x5:=P.out.cell 5 _ rfl;rcases hr with rfl | ⟨r1,hr1,er1,rfl⟩
 . go_wp2;go_ret;exact⟨.inl rfl,H.out⟩
 replace er1:=hid er1;go_wp2;go_ret;exact⟨.inr ⟨r1,hr1,by have:=er0.out; have:=er1.out; omega,rfl⟩,H.out⟩
structure M.Tk.AtW(q:Tk)(w:World):Prop where
 I:Boxes w q.L.A q.L.n q.L.ws
 J:Boxes w q.L.G q.L.m q.L.gs
 E:Ents w q.D q.l q.es
 n:q.L.n<=9223372036854775807
 m:q.L.m<=9223372036854775807
 l:q.l<=9223372036854775807
theorem M.Tk.AtW.step{q:Tk}{w w':World}(h:q.AtW w)(B:Below w.heap.size w w'):q.AtW w':=⟨h.I.step B,h.J.step B,h.E.step B,h.n,h.m,h.l⟩
structure TracksW(w:World)(A:Option Addr)(n:Nat)(ts:List Tk):Prop where
 len:ts.length=n
 at_:0<n->∃ b off,A=some ⟨b,off,none⟩/\b<w.heap.size/\∀ k q,ts[k]?=some q->w.rangeAt b (off+k*12) q.cs
 all:∀ q∈ts,q.AtW w
theorem TracksW.step{w w':World}{A:Option Addr}{n:Nat}{ts:List Tk}(h:TracksW w A n ts)(B:Below w.heap.size w w'):TracksW w' A n ts :=
 ⟨h.len,fun hn=>by
  obtain⟨b,off,e,hb,hc⟩:=h.at_ hn;exact⟨b,off,e,Nat.lt_of_lt_of_le hb B.size,fun k q hq=>Av (hc k q hq) (B.block b hb)⟩,fun q hq=>(h.all q hq).step B⟩
theorem TracksW.rng{W:World}{b off n k:Nat}{ts:List Tk}{q:Tk}(h:TracksW W (some ⟨b,off,none⟩) n ts)(hk:ts[k]?=some q):W.rangeAt b (off+k*12) q.cs:=by
 have hl:k<ts.length:=by
  rcases Nat.lt_or_ge k ts.length with h1 | h1
  . exact h1
  . rw[List.getElem?_eq_none h1] at hk; cases hk
 obtain⟨b',off',e,_,hc⟩:=h.at_ (by have:=h.len; omega);cases e
 exact hc k q hk
theorem M.Tk.AtW.ok{q:Tk}{w:World}(h:q.AtW w)(s:q.Sm):q.At w:=⟨h.I,h.J,h.E,by have:=s.n; omega,by have:=s.m; omega,by have:=s.l; omega⟩
theorem TracksW.ok{w:World}{A:Option Addr}{n:Nat}{ts:List Tk}(h:TracksW w A n ts)(s:∀ q∈ts,q.Sm):Tracks w A n ts:=⟨h.len,h.at_,fun q hq=>(h.all q hq).ok (s q hq)⟩
structure M.Sv.AtW(s:Sv)(w:World):Prop where
 T:TracksW w s.A s.n s.ts
 K:Ints w s.H s.m s.ks
 S:Ints w s.G s.l s.gs
 n:s.n<=9223372036854775807
 m:s.m<=9223372036854775807
 l:s.l<=9223372036854775807
theorem M.Sv.AtW.step{s:Sv}{w w':World}(h:s.AtW w)(B:Below w.heap.size w w'):s.AtW w':=⟨h.T.step B,h.K.step B,h.S.step B,h.n,h.m,h.l⟩
theorem M.Sv.AtW.ok{s:Sv}{w:World}(h:s.AtW w)(x:s.Sm):s.At w:=⟨h.T.ok x.q,h.K,h.S,by have:=x.n; omega,by have:=x.m; omega,by have:=x.l; omega⟩
def M.tsz(q:Tk):Nat:=q.L.n+q.L.m+q.l
def M.tss(ts:List Tk):Nat:=(ts.map tsz).sum
theorem M.tss_next{ts:List Tk}{k:Nat}{q:Tk}(h:ts[k]?=some q):tss (ts.take (k+1))=tss (ts.take k)+tsz q:=by
 have hl:k<ts.length:=by
  rcases Nat.lt_or_ge k ts.length with h1 | h1
  . exact h1
  . rw[List.getElem?_eq_none h1] at h; cases h
 rw[List.take_succ_eq_append_getElem hl,tss,List.map_append,List.sum_append];rw[List.getElem?_eq_getElem hl] at h;rw[Option.some.inj h];simp[tss]
theorem M.tsz_le{ts:List Tk}{q:Tk}(h:q∈ts):tsz q<=tss ts:=by
 induction ts with
 | nil=>cases h
 | cons a ts ih =>
  simp only[tss,List.map_cons,List.sum_cons];rcases List.mem_cons.1 h with rfl | h
  . omega
  . have:=ih h;simp only[tss] at this;omega
theorem Hm(q:Tk)(l:Int)(w:World)(l0:0<=l)(l1:l<=1048576)(R:q.AtW w) :
 Calls Try.prog 84 #[.agg q.cs.toArray,.int .i64 l] w (Hk l (tsz q) w):=by
 obtain⟨⟨i,t,x,y,A,n,c,G,m,kk,fp,fq,fs,fz,b,ws,gs⟩,D,l3,cc,es⟩:=q;have hn:=R.n;have hm:=R.m;have hl:=R.l;simp only at hn hm hl;clear R;simp only[Tk.cs,Lv.cs,tsz];obtain⟨qc,hqc⟩:∃ qc,qc=AV i t x y A n c G m kk fp fq fs fz b++[.slice D l3 cc]:=⟨_,rfl⟩;rw[<- hqc];have P:=hid (CellsAt.new w w.heap.size qc 117 rfl);have H:=hid (Ab (Ac w) (.cells qc.toArray 117));have g1:=hid (fun(W:World) (h:CellsAt W w.heap.size qc)=>show W.rangeAt w.heap.size 0 (AV i t x y A n c G m kk fp fq fs fz b) from fun j v hj=>h.range j v (by
  rw[hqc,List.getElem?_append_left (by rcases Nat.lt_or_ge j (AV i t x y A n c G m kk fp fq fs fz b).length with h1 | h1; exact h1; rw[List.getElem?_eq_none h1] at hj; cases hj)]; exact hj))
 have k1:=hid (fun(W:World) (h:CellsAt W w.heap.size qc)=>h.cell 11 (.slice D l3 cc) (by rw[hqc]; rfl));replace hqc:=hid hqc;go_enter Try.func84,Try.ntmps84;go_wp2_with (refine wpList_load_mid rfl 50 (.tmp 5) rfl w.heap.size 0 rfl (AV i t x y A n c G m kk fp fq fs fz b) _ (g1.out _ P.out) Try.underlying50 rfl BU ?_);go_wp2_with fail;refine(Hl i t x y A n c G m kk fp fq fs fz b l _ l0 l1 hn hm).mono ?_;rintro e w1 ⟨hr,B⟩;replace P:=hid (P.out.step B);replace H:=hid (Aa H.out B);clear B ;have x11:=k1.out _ P.out;rcases hr with rfl | ⟨r0,hr0,er0,rfl⟩
 . go_wp2;go_ret;exact⟨.inl rfl,H.out⟩
 replace er0:=hid er0;go_wp2_with fail;refine(HE D l3 cc r0 _ hl hr0 (by have:=er0.out; omega)).mono ?_;rintro e w2 ⟨hr,B⟩;replace P:=hid (P.out.step B);replace H:=hid (Aa H.out B);clear B ;replace x11:=k1.out _ P.out;rcases hr with rfl | ⟨r1,hr1,er1,rfl⟩
 . go_wp2;go_ret;exact⟨.inl rfl,H.out⟩
 replace er1:=hid er1;go_wp2;go_ret;exact⟨.inr ⟨r1,hr1,by have:=er0.out; have:=er1.out; omega,rfl⟩,H.out⟩
def HF(w:World)(n:Nat)(ts:List Tk)(l:Int)(lv iv:Value)(W:World):Prop:=∃(k:Nat) (r:Int),k<=n/\iv=.int .i64 k/\lv=.int .i64 r/\0<=r/\r+(n+tss (ts.take k):Nat)=l/\Below w.heap.size w W
theorem GE(A:Option Addr)(n c:Nat)(ts:List Tk)(l:Int)(w:World)(T:TracksW w A n ts)(l0:0<=l)(l1:l<=1048576)(hn:n<=9223372036854775807) :
 Calls Try.prog 50 #[.slice A n c,.int .i64 l] w (Hk l (n+tss ts) w):=by
 have hT:=hid T.len;replace T:=hid T;by_cases h:l-(n:Int)<0
 . go_enter Try.func50,Try.ntmps50;go_wp2;go_ret;exact⟨.inl rfl,Below.refl _ _⟩
 have h':0<=l-(n:Int):=by omega
 go_enter Try.func50,Try.ntmps50;go_wp2
 go_loopw [1,5] (HF w n ts l) (fun _ i _=>n-(RowKit.intOf i).toNat)
 case atStart=>exact⟨0,l-n,Nat.zero_le _,rfl,rfl,h',by first | (simp[tss]; done) | (simp[tss]; omega),Ac w⟩
 case round =>
  clear h h';obtain⟨k,r,hk,rfl,rfl,hr,er,B0⟩:=hrel;have T1:=hid (T.out.step B0);replace B0:=hid B0;by_cases hlt:k<n
  . obtain⟨b,off,eA,_⟩:=T1.out.at_ (by omega);subst eA;obtain⟨q,hq⟩:∃ q,ts[k]?=some q:=⟨_,List.getElem?_eq_getElem (by have:=hT.out; omega)⟩;have hg:=hid (T1.out.rng hq);have hqa:=hid (T1.out.all q (List.mem_of_getElem? hq));have en:=hid (tss_next hq);have hlI:(k:Int)<(n:Int):=by omega
    replace hq:=hid hq;replace er:=hid er;go_wp2_with (refine wpList_load_mid rfl 117 (.tmp 20) rfl b (off+k*12) rfl q.cs _ hg.out Try.underlying117 rfl CU ?_);go_wp2_with fail;refine(Hm q r _ hr (by have:=er.out; omega) hqa.out).mono ?_;rintro e w1 ⟨h1,B⟩;replace B0:=hid (Aa B0.out B);clear B;rcases h1 with rfl | ⟨r1,h1,e1,rfl⟩
    . go_wp2;go_ret;exact⟨.inl rfl,B0.out⟩
    replace e1:=hid e1;go_wp2
    go_roundw
    case rel=>exact⟨k+1,r1,by omega,by go_num,rfl,h1,by rw[en.out]; have:=e1.out; have:=er.out; omega,B0.out⟩
    case measure=>simp[RowKit.intOf]; omega
  . obtain rfl:k=n:=by omega
    rw[List.take_of_length_le (by have:=hT.out; omega)] at er;replace er:=hid er;clear T1;go_wp2;go_ret;exact⟨.inr ⟨r,hr,er.out,rfl⟩,B0.out⟩
theorem Gf(s:Sv)(l:Int)(w:World)(l0:0<=l)(l1:l<=1048576)(R:s.AtW w) :
 Calls Try.prog 21 #[s.val,.int .i64 l] w (Hk l (s.n+tss s.ts+s.m+s.l) w):=by
 obtain⟨A,n,c,H0,m,d,G,l3,e1,ts,ks,gs⟩:=s;have hn:=R.n;have hm:=R.m;have hl:=R.l;have T:=R.T;simp only at hn hm hl T;clear R;have P:=hid (CellsAt.new w w.heap.size [.slice A n c,.slice H0 m d,.slice G l3 e1] 40 rfl);have H:=hid (Ab (Ac w) (.cells [.slice A n c,.slice H0 m d,.slice G l3 e1].toArray 40));replace T:=hid (T.step H.out);obtain⟨x0,x1,x2⟩:=AX P.out;go_enter Try.func21,Try.ntmps21;go_wp2_with fail;refine(GE A n c ts l _ T.out l0 l1 hn).mono ?_;rintro e w1 ⟨hr,B⟩;replace P:=hid (P.out.step B);replace H:=hid (Aa H.out B);clear B T;replace x0:=P.out.cell 0 _ rfl;replace x1:=P.out.cell 1 _ rfl
 replace x2:=P.out.cell 2 _ rfl;rcases hr with rfl | ⟨r0,hr0,er0,rfl⟩
 . go_wp2;go_ret;exact⟨.inl rfl,H.out⟩
 replace er0:=hid er0;go_wp2_with fail;refine(GM H0 m d r0 _ hm hr0 (by have:=er0.out; omega)).mono ?_;rintro e w2 ⟨hr,B⟩;replace P:=hid (P.out.step B);replace H:=hid (Aa H.out B);clear B ;replace x0:=P.out.cell 0 _ rfl;replace x1:=P.out.cell 1 _ rfl;replace x2:=P.out.cell 2 _ rfl;rcases hr with rfl | ⟨r1,hr1,er1,rfl⟩
 . go_wp2;go_ret;exact⟨.inl rfl,H.out⟩
 replace er1:=hid er1;go_wp2_with fail;refine(GM G l3 e1 r1 _ hl hr1 (by have:=er0.out; have:=er1.out; omega)).mono ?_;rintro e w3 ⟨hr,B⟩;replace P:=hid (P.out.step B);replace H:=hid (Aa H.out B);clear B ;replace x0:=P.out.cell 0 _ rfl;replace x1:=P.out.cell 1 _ rfl;replace x2:=P.out.cell 2 _ rfl;rcases hr with rfl | ⟨r2,hr2,er2,rfl⟩
 . go_wp2;go_ret;exact⟨.inl rfl,H.out⟩
 replace er2:=hid er2;go_wp2;go_ret;exact⟨.inr ⟨r2,hr2,by have:=er0.out; have:=er1.out; have:=er2.out; omega,rfl⟩,H.out⟩
theorem M.Sv.sm_of{s:Sv}{r:Int}(hr:0<=r)(e:r+((s.n+tss s.ts+s.m+s.l:Nat):Int)=1048576):s.Sm :=
 ⟨by omega,by omega,by omega,fun q hq=>by
  have:=tsz_le hq;simp only[tsz] at this;exact⟨by omega,by omega,by omega⟩⟩
end Go.Proofs.Ytbeohbhhmcjokaa
