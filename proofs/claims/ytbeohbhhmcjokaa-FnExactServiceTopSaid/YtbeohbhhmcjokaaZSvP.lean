import Derived.Test.YtbeohbhhmcjokaaZSvN
set_option linter.all false
set_option maxRecDepth 100000
set_option maxHeartbeats 8000000
open Go.Lib
namespace Go.Proofs.Ytbeohbhhmcjokaa
open Go.RowKit
open M
theorem Hw(H:Option Addr)(m d:Nat)(D:Option Addr)(l cc:Nat)(ks:List Int)(es:List En)(w:World)(K:Ints w H m ks)(Y:Ents w D l es)(hbv:CF es=true)(hm10:m=10)(hl:l<=281474976710656) :
 Calls Try.prog 81 #[.slice H m d,.slice D l cc] w fun e w'=>e=.returned (.bool (es.all (fun e=>ks.getD e.p.toNat 0 != 0)))/\Below w.heap.size w w':=by
 have hes:=hid Y.1;have hbd:=hid (E8.1 hbv);replace K:=hid K;replace Y:=hid Y;clear hbv;replace hm10:=hid hm10;go_enter Try.func81,Try.ntmps81;go_wp2
 go_loopw [9] (fun jv W=>∃ j:Nat,j<=l/\jv=.int .i64 j/\(es.take j).all (fun e=>ks.getD e.p.toNat 0 != 0)=true/\Below w.heap.size w W) (fun i _=>l-(RowKit.intOf i).toNat)
 case atStart=>exact⟨0,Nat.zero_le _,rfl,rfl,Ac w⟩
 case round =>
  obtain⟨j,hj,rfl,hja,Bq⟩:=hrel;have K9:=K.out.step Bq;have E9:=Y.out.step Bq;replace Bq:=hid Bq;by_cases hjl:j<l
  . obtain⟨be,offe,rfl,hbe,hce⟩:=E9.2 (by omega);have cp:=(hce j hjl).c0;have cs:=(hce j hjl).c1;have hje:j<es.length:=by rw[hes.out]; exact hjl
    have hok:=hbd.out.ok _ (List.getElem_mem hje);rw[show es[j]=es.getD j ez by rw[List.getD_eq_getElem?_getD,List.getElem?_eq_getElem hje]; rfl] at hok;have en:=en_next (f:=fun e=>ks.getD e.p.toNat 0 != 0) hje;rw[hja,Bool.true_and] at en;have ebd:=hid (en_bad (f:=fun e=>ks.getD e.p.toNat 0 != 0) hje);simp only[CE,Bool.and_eq_true,decide_eq_true_eq] at hok;generalize (es.getD j ez).s=ss at *;generalize (es.getD j ez).p=pp at *;obtain⟨pn,rfl⟩:=Int.eq_ofNat_of_zero_le hok.1.1;have hpn:pn<m:=by have:=hm10.out; omega
    obtain⟨bk,offk,eH,hbk,hck⟩:=K9.2 (by omega);have ck:=hck pn hpn;have hpn2:(pn:Int)<(m:Int):=by omega
    subst eH;replace en:=hid (show(es.take (j+1)).all (fun e=>ks.getD e.p.toNat 0 != 0)=(ks.getD pn 0 != 0) by simpa using en);replace ebd:=hid (show(ks.getD pn 0 != 0)=false->_ from fun h=>ebd.out (by simpa using h));clear hck hce K9 E9 hja hok;generalize ks.getD pn 0=z at *;by_cases hz:z=0
    . have z0:(z==0)=true:=by simp[hz]
      have z1:=hid (show(z != 0)=false by simp[hz]);replace hz:=hid hz;go_wp2;go_ret;exact⟨Ad (ebd.out z1.out).symm,Ab Bq.out _⟩
    . have z0:(z==0)=false:=beq_eq_false_iff_ne.2 hz;have z1:=hid (show(z != 0)=true by simp[hz]);replace hz:=hid hz;go_wp2
      go_roundw
      case rel=>exact⟨j+1,by omega,by go_num,en.out.trans z1.out,Ab Bq.out _⟩
      case measure=>simp[RowKit.intOf]; omega
  obtain rfl:j=l:=by omega
  have hall2:=hid (show es.all (fun e=>ks.getD e.p.toNat 0 != 0)=true by rw[<- hes.out,List.take_length] at hja; exact hja);clear hja K9 E9;go_wp2;go_ret;exact⟨Ad hall2.out.symm,Bq.out⟩
theorem F5(H:Option Addr)(m d:Nat)(D:Option Addr)(l cc:Nat)(ks:List Int)(es:List En)(b:Bool)(hb:es.all (fun e=>ks.getD e.p.toNat 0 != 0)=b)(w:World)(K:Ints w H m ks)(Y:Ents w D l es)(hbv:CF es=true)(hm10:m=10)(hl:l<=281474976710656) :
 Calls Try.prog 81 #[.slice H m d,.slice D l cc] w fun e w'=>e=.returned (.bool b)/\Below w.heap.size w w':=hb▸Hw H m d D l cc ks es w K Y hbv hm10 hl
theorem Cc(L:Lv)(b:Bool)(w:World)(h:L.ok=b)(I:Boxes w L.A L.n L.ws)(J:Boxes w L.G L.m L.gs)(hn:L.n<=281474976710656)(hm:L.m<=281474976710656):Calls Try.prog 64 #[L.val] w fun e w'=>e=.returned (.bool b)/\Below w.heap.size w w':=h▸Dq L.i L.t L.x L.y L.A L.n L.c L.G L.m L.kk L.fp L.fq L.fs L.fz L.b L.ws L.gs w I J hn hm
theorem Df(A:Option Addr)(n cap:Nat)(xs:List En)(b:Bool)(w:World)(h:CF xs=b)(Y:Ents w A n xs)(hn:n<=281474976710656):Calls Try.prog 80 #[.slice A n cap] w fun e w'=>e=.returned (.bool b)/\Below w.heap.size w w':=h▸GV A n cap xs w Y hn
def Hi(w0:World)(n:Nat)(ks:List Int)(ts:List Tk)(iv:Value)(W:World):Prop:=∃ k:Nat,k<=n/\iv=.int .i64 k/\(List.range k).all (tkB ks ts)=true/\Below w0.heap.size w0 W
theorem Hx(A:Option Addr)(n c:Nat)(H:Option Addr)(m d:Nat)(ts:List Tk)(ks:List Int)(w:World)(T:Tracks w A n ts)(K:Ints w H m ks)(hn:n<=281474976710656)(hm10:m=10) :
 Calls Try.prog 45 #[.slice A n c,.slice H m d] w fun e w'=>e=.returned (.bool ((List.range ts.length).all (tkB ks ts)))/\Below w.heap.size w w':=by
 have hT:=hid T.len;have T0:=hid T;have K0:=hid K;clear T K;replace hm10:=hid hm10;go_enter Try.func45,Try.ntmps45;go_wp2
 go_loopw [9] (Hi w n ks ts) (fun i _=>n-(RowKit.intOf i).toNat)
 case atStart=>exact⟨0,Nat.zero_le _,rfl,rfl,Ac w⟩
 case round =>
  obtain⟨k,hk,rfl,ha,Bq⟩:=hrel;have T1:=hid (T0.out.step Bq);have K1:=hid (K0.out.step Bq);replace Bq:=hid Bq;by_cases hlt:k<n
  . obtain⟨b,off,eA,hb,hc⟩:=T1.out.at_ (by omega);subst eA;have hkl:k<ts.length:=by have:=hT.out; omega
    obtain⟨q,hq⟩:∃ q,ts[k]?=some q:=⟨_,List.getElem?_eq_getElem hkl⟩;have hr:=hid (hc k q hq);have hqa:=hid (T1.out.all q (List.mem_of_getElem? hq));have gq:ts.getD k kz=q:=by rw[List.getD_eq_getElem?_getD,hq]; rfl
    have et:=tkB_next ks ts k;rw[ha,Bool.true_and] at et;have eb:=fun h=>tkB_bad hkl (h:tkB ks ts k=false);replace gq:=hid gq;clear hc ha;have hlI:(k:Int)<(n:Int):=by omega
    go_wp2_with (refine wpList_load_mid rfl 84 (.tmp 12) rfl b (off+k*12) rfl q.cs _ hr.out Try.underlying84 rfl As ?_);have V:=hid (CellsAt.new wr wr.heap.size q.cs 84 rfl);replace T1:=hid (T1.out.alloc (.cells q.cs.toArray 84));replace K1:=hid (K1.out.alloc (.cells q.cs.toArray 84));replace hqa:=hid (hqa.out.step (Ab (Ac wr) (.cells q.cs.toArray 84)));replace Bq:=hid (Ab Bq.out (.cells q.cs.toArray 84));have hbe:tkB ks ts k=(q.L.ok&&CF q.es&&(decide (k=0)||decide ((ts.getD (k-1) kz).L.i<q.L.i))&&q.es.all (fun e=>ks.getD e.p.toNat 0 != 0)):=by unfold tkB; rw[gq.out]
    rw[hbe] at eb et;replace eb:=hid eb;replace et:=hid et;clear hbe;cases hlv:q.L.ok
    . replace hlv:=hid hlv;go_wp2_with (refine wpList_load_mid rfl 58 (.tmp 14) rfl wr.heap.size 0 rfl q.L.cs _ (Au V.out.range) Try.underlying58 rfl Ah ?_);go_wp2_with fail;refine(Cc q.L false _ hlv.out hqa.out.I hqa.out.J hqa.out.n hqa.out.m).mono ?_;rintro e w1 ⟨rfl,Bn⟩;replace V:=hid (V.out.step Bn);replace T1:=hid (T1.out.step Bn);replace K1:=hid (K1.out.step Bn);replace hqa:=hid (hqa.out.step Bn);replace Bq:=hid (Aa Bq.out Bn);have v11:=V.out.cell 11 _ rfl;clear Bn;go_wp2;go_ret;exact⟨Ad (by rw[eb.out (by rw[hlv.out]; rfl)]),Bq.out⟩
    replace hlv:=hid hlv;cases hbv:CF q.es
    . replace hbv:=hid hbv;go_wp2_with (refine wpList_load_mid rfl 58 (.tmp 14) rfl wr.heap.size 0 rfl q.L.cs _ (Au V.out.range) Try.underlying58 rfl Ah ?_);go_wp2_with fail;refine(Cc q.L true _ hlv.out hqa.out.I hqa.out.J hqa.out.n hqa.out.m).mono ?_;rintro e w1 ⟨rfl,Bn⟩;replace V:=hid (V.out.step Bn);replace T1:=hid (T1.out.step Bn);replace K1:=hid (K1.out.step Bn);replace hqa:=hid (hqa.out.step Bn);replace Bq:=hid (Aa Bq.out Bn);have v11:=V.out.cell 11 _ rfl;clear Bn;go_wp2_with fail;refine(Df q.D q.l q.cc q.es false _ hbv.out hqa.out.E hqa.out.l).mono ?_;rintro e w2 ⟨rfl,Bn⟩;replace V:=hid (V.out.step Bn)
      replace T1:=hid (T1.out.step Bn);replace K1:=hid (K1.out.step Bn);replace hqa:=hid (hqa.out.step Bn);replace Bq:=hid (Aa Bq.out Bn);replace v11:=V.out.cell 11 _ rfl;clear Bn;go_wp2;go_ret;exact⟨Ad (by rw[eb.out (by rw[hlv.out,hbv.out]; rfl)]),Bq.out⟩
    replace hbv:=hid hbv;cases hkv:q.es.all (fun e=>ks.getD e.p.toNat 0 != 0)
    . replace hkv:=hid hkv;go_wp2_with (refine wpList_load_mid rfl 58 (.tmp 14) rfl wr.heap.size 0 rfl q.L.cs _ (Au V.out.range) Try.underlying58 rfl Ah ?_);go_wp2_with fail;refine(Cc q.L true _ hlv.out hqa.out.I hqa.out.J hqa.out.n hqa.out.m).mono ?_;rintro e w1 ⟨rfl,Bn⟩;replace V:=hid (V.out.step Bn);replace T1:=hid (T1.out.step Bn);replace K1:=hid (K1.out.step Bn);replace hqa:=hid (hqa.out.step Bn);replace Bq:=hid (Aa Bq.out Bn);have v11:=V.out.cell 11 _ rfl;clear Bn;go_wp2_with fail;refine(Df q.D q.l q.cc q.es true _ hbv.out hqa.out.E hqa.out.l).mono ?_;rintro e w2 ⟨rfl,Bn⟩;replace V:=hid (V.out.step Bn)
      replace T1:=hid (T1.out.step Bn);replace K1:=hid (K1.out.step Bn);replace hqa:=hid (hqa.out.step Bn);replace Bq:=hid (Aa Bq.out Bn);replace v11:=V.out.cell 11 _ rfl;clear Bn;go_wp2_with fail;refine(F5 H m d q.D q.l q.cc ks q.es false hkv.out _ K1.out hqa.out.E hbv.out hm10.out hqa.out.l).mono ?_;rintro e w3 ⟨rfl,Bn⟩;replace V:=hid (V.out.step Bn);replace T1:=hid (T1.out.step Bn);replace K1:=hid (K1.out.step Bn);replace hqa:=hid (hqa.out.step Bn);replace Bq:=hid (Aa Bq.out Bn);replace v11:=V.out.cell 11 _ rfl;clear Bn;go_wp2;go_ret;exact⟨Ad (by rw[eb.out (by rw[hkv.out,Bool.and_false])]),Bq.out⟩
    replace hkv:=hid hkv;go_wp2_with (refine wpList_load_mid rfl 58 (.tmp 14) rfl wr.heap.size 0 rfl q.L.cs _ (Au V.out.range) Try.underlying58 rfl Ah ?_);go_wp2_with fail;refine(Cc q.L true _ hlv.out hqa.out.I hqa.out.J hqa.out.n hqa.out.m).mono ?_;rintro e w1 ⟨rfl,Bn⟩;replace V:=hid (V.out.step Bn);replace T1:=hid (T1.out.step Bn);replace K1:=hid (K1.out.step Bn);replace hqa:=hid (hqa.out.step Bn);replace Bq:=hid (Aa Bq.out Bn);have v11:=V.out.cell 11 _ rfl;clear Bn;go_wp2_with fail;refine(Df q.D q.l q.cc q.es true _ hbv.out hqa.out.E hqa.out.l).mono ?_;rintro e w2 ⟨rfl,Bn⟩;replace V:=hid (V.out.step Bn);replace T1:=hid (T1.out.step Bn)
    replace K1:=hid (K1.out.step Bn);replace hqa:=hid (hqa.out.step Bn);replace Bq:=hid (Aa Bq.out Bn);replace v11:=V.out.cell 11 _ rfl;clear Bn;go_wp2_with fail;refine(F5 H m d q.D q.l q.cc ks q.es true hkv.out _ K1.out hqa.out.E hbv.out hm10.out hqa.out.l).mono ?_;rintro e w3 ⟨rfl,Bn⟩;replace V:=hid (V.out.step Bn);replace T1:=hid (T1.out.step Bn);replace K1:=hid (K1.out.step Bn);replace hqa:=hid (hqa.out.step Bn);replace Bq:=hid (Aa Bq.out Bn);replace v11:=V.out.cell 11 _ rfl;clear Bn;have vi:=V.out.cell 0 _ rfl;by_cases h0:k=0
    . have z0:decide ((0:Int)<(k:Int))=false:=decide_eq_false (by omega);have z1:decide (0<k)=false:=decide_eq_false (by omega);have et2:=hid (et.out.trans (show _=true by rw[hlv.out,hbv.out,hkv.out,decide_eq_true h0]; rfl));replace h0:=hid h0;go_wp2_with fail
      go_quiet (fail)
      go_wp2
      go_roundw
      case rel=>exact⟨k+1,by omega,by go_num,et2.out,Ar Bq.out _⟩
      case measure=>simp[RowKit.intOf]; omega
    . have z0:decide ((0:Int)<(k:Int))=true:=decide_eq_true (by omega);have z1:decide (0<k)=true:=decide_eq_true (by omega);have hk1:IntKind.i64.wrap ((k:Int)-1)=((k-1:Nat):Int):=by rw[IntWalk.i64_in _ (by omega)]; omega
      have hk2:(k:Int)-1=((k-1:Nat):Int):=by omega
      have hk3:k-1<n:=by omega
      have hk5:IntKind.i64.wrap ((k-1:Nat):Int)=((k-1:Nat):Int):=IntWalk.i64_in _ (by omega);have hkt:k-1<ts.length:=by omega
      obtain⟨ip,hip⟩:∃ ip,(ts.getD (k-1) kz).L.i=ip:=⟨_,rfl⟩;have pc:w3.cell? ⟨b,off+(k-1)*12,none⟩=some (.int .i64 ip):=by
       obtain⟨b',off',e,_,hc⟩:=T1.out.at_ (by omega);cases e
       have t:=hc (k-1) (ts[k-1]) (List.getElem?_eq_getElem hkt) 0 _ rfl;rw[<- hip,List.getD_eq_getElem?_getD,List.getElem?_eq_getElem hkt];exact t
      have hm1:decide (k=0)=false:=decide_eq_false h0;have etx:=et.out;have ebx:=eb.out;rw[hip,hm1,hlv.out,hbv.out,hkv.out,Bool.true_and,Bool.true_and,Bool.false_or,Bool.and_true] at etx ebx;replace hip:=hid hip;replace hm1:=hid hm1;replace h0:=hid h0;clear et eb hkt;by_cases hlt2:ip<q.L.i
      . have z3:decide (q.L.i<=ip)=false:=decide_eq_false (by omega);have et2:=hid (etx.trans (decide_eq_true hlt2));clear etx ebx;replace hlt2:=hid hlt2;go_wp2_with fail
        go_quiet (fail)
        go_wp2
        go_roundw
        case rel=>exact⟨k+1,by omega,by go_num,et2.out,Ar Bq.out _⟩
        case measure=>simp[RowKit.intOf]; omega
      . have z3:decide (q.L.i<=ip)=true:=decide_eq_true (by omega);have eb2:=hid (ebx (decide_eq_false hlt2));clear etx ebx;replace hlt2:=hid hlt2;go_wp2_with fail
        go_quiet (fail)
        go_wp2;go_ret;exact⟨Ad eb2.out.symm,Ar Bq.out _⟩
  obtain rfl:n=k:=by omega
  have hall2:=hid (show(List.range ts.length).all (tkB ks ts)=true by rw[hT.out]; exact ha);clear ha T1 K1;go_wp2;go_ret;exact⟨Ad hall2.out.symm,Bq.out⟩
theorem Hj(A:Option Addr)(n c:Nat)(H:Option Addr)(m d:Nat)(ts:List Tk)(ks:List Int)(b:Bool)(hb:(List.range ts.length).all (tkB ks ts)=b)(w:World)(T:Tracks w A n ts)(K:Ints w H m ks)(hn:n<=281474976710656)(hm10:m=10) :
 Calls Try.prog 45 #[.slice A n c,.slice H m d] w fun e w'=>e=.returned (.bool b)/\Below w.heap.size w w':=hb▸Hx A n c H m d ts ks w T K hn hm10
theorem F6(A:Option Addr)(n c:Nat)(H:Option Addr)(m d:Nat)(G:Option Addr)(l e:Nat)(ts:List Tk)(ks gs:List Int)(w:World)(T:Tracks w A n ts)(K:Ints w H m ks)(S:Ints w G l gs)(hn:n<=281474976710656)(hm:m<=281474976710656)(hl:l<=281474976710656) :
 Calls Try.prog 14 #[.agg #[.slice A n c,.slice H m d,.slice G l e]] w fun e w'=>e=.returned (.bool (svB ts ks gs))/\Below w.heap.size w w':=by
 have hT:=hid T.len;have hK:=hid K.1;have hS:=hid S.1;have D0:=hid (CellsAt.new w w.heap.size [.slice A n c,.slice H m d,.slice G l e] 27 rfl);have B0:=hid (Ab (Ac w) (.cells [.slice A n c,.slice H m d,.slice G l e].toArray 27));have T0:=hid (T.alloc (.cells [.slice A n c,.slice H m d,.slice G l e].toArray 27));have K0:=hid (K.alloc (.cells [.slice A n c,.slice H m d,.slice G l e].toArray 27));have S0:=hid (S.alloc (.cells [.slice A n c,.slice H m d,.slice G l e].toArray 27));obtain⟨x0,x1,x2⟩:=AX D0.out;clear T K S;by_cases h1:n<=4
 rotate_left
 . have E:=hid (show svB ts ks gs=false by rw[svB,decide_eq_false (show ¬ (ks.length=10/\ts.length<=4/\gs.length<=12) by have:=hT.out; omega)]; rfl);have g1:decide ((n:Int)<=4)=false:=decide_eq_false (by omega);go_enter Try.func14,Try.ntmps14;go_wp2;go_ret;exact⟨Ad E.out.symm,B0.out⟩
 have g1:decide ((n:Int)<=4)=true:=decide_eq_true (by omega);by_cases h2:m=10
 rotate_left
 . have E:=hid (show svB ts ks gs=false by rw[svB,decide_eq_false (show ¬ (ks.length=10/\ts.length<=4/\gs.length<=12) by have:=hK.out; omega)]; rfl);have g2:((m:Int)==10)=false:=beq_eq_false_iff_ne.2 (by omega);go_enter Try.func14,Try.ntmps14;go_wp2;go_ret;exact⟨Ad E.out.symm,B0.out⟩
 have g2:((m:Int)==10)=true:=by rw[h2]; rfl
 replace h2:=hid h2;by_cases h3:l<=12
 rotate_left
 . have E:=hid (show svB ts ks gs=false by rw[svB,decide_eq_false (show ¬ (ks.length=10/\ts.length<=4/\gs.length<=12) by have:=hS.out; omega)]; rfl);have g3:decide ((l:Int)<=12)=false:=decide_eq_false (by omega);go_enter Try.func14,Try.ntmps14;go_wp2;go_ret;exact⟨Ad E.out.symm,B0.out⟩
 have g3:decide ((l:Int)<=12)=true:=decide_eq_true (by omega);have hs:=hid (show decide (ks.length=10/\ts.length<=4/\gs.length<=12)=true from decide_eq_true ⟨by have:=hK.out; have:=h2.out; omega,by have:=hT.out; omega,by have:=hS.out; omega⟩);cases hv1:ks.all (fun k=>Al k 0 9999)
 . have E:=hid (show svB ts ks gs=false by rw[svB,hv1,Bool.and_false,Bool.false_and,Bool.false_and]);replace hv1:=hid hv1;go_enter Try.func14,Try.ntmps14;go_wp2_with fail;refine(Bo H m d ks 9999 false hv1.out _ K0.out hm).mono ?_;rintro e w1 ⟨rfl,rfl⟩;go_wp2;go_ret;exact⟨Ad E.out.symm,B0.out⟩
 replace hv1:=hid hv1;have hh:∀ x:Int,Fs x=Al x 0 1000002:=fun x=>rfl;cases hv2:gs.all (fun k=>Al k 0 1000002)
 . have E:=hid (show svB ts ks gs=false by rw[svB,show gs.all Fs=false from hv2,Bool.and_false]);replace hv2:=hid hv2;go_enter Try.func14,Try.ntmps14;go_wp2_with fail;refine(Bo H m d ks 9999 true hv1.out _ K0.out hm).mono ?_;rintro e w1 ⟨rfl,rfl⟩;go_wp2_with fail;refine(Bo G l e gs 1000002 false hv2.out _ S0.out hl).mono ?_;rintro e w1 ⟨rfl,rfl⟩;go_wp2;go_ret;exact⟨Ad E.out.symm,B0.out⟩
 replace hv2:=hid hv2;obtain⟨b,hb⟩:∃ b,(List.range ts.length).all (tkB ks ts)=b:=⟨_,rfl⟩;have E:=hid (show svB ts ks gs=b by rw[svB,hs.out,hv1.out,show gs.all Fs=true from hv2.out,hb,Bool.and_true,Bool.true_and,Bool.true_and]);replace hb:=hid hb;go_enter Try.func14,Try.ntmps14;go_wp2_with fail;refine(Bo H m d ks 9999 true hv1.out _ K0.out hm).mono ?_;rintro e w1 ⟨rfl,rfl⟩;go_wp2_with fail;refine(Bo G l e gs 1000002 true hv2.out _ S0.out hl).mono ?_;rintro e w1 ⟨rfl,rfl⟩;go_wp2_with fail;refine(Hj A n c H m d ts ks b hb.out _ T0.out K0.out hn h2.out).mono ?_;rintro e w2 ⟨rfl,B2⟩;replace B0:=hid (Aa B0.out B2);clear B2 x0 x1 x2;go_wp2
 go_ret;exact⟨Ad E.out.symm,B0.out⟩
theorem AM(A:Option Addr)(n c:Nat)(H:Option Addr)(m d:Nat)(G:Option Addr)(l e:Nat)(ts:List Tk)(ks gs:List Int)(b:Bool)(hb:svB ts ks gs=b)(w:World)(T:Tracks w A n ts)(K:Ints w H m ks)(S:Ints w G l gs)(hn:n<=281474976710656)(hm:m<=281474976710656)(hl:l<=281474976710656) :
 Calls Try.prog 14 #[.agg #[.slice A n c,.slice H m d,.slice G l e]] w fun e w'=>e=.returned (.bool b)/\Below w.heap.size w w':=hb▸F6 A n c H m d G l e ts ks gs w T K S hn hm hl
end Go.Proofs.Ytbeohbhhmcjokaa
