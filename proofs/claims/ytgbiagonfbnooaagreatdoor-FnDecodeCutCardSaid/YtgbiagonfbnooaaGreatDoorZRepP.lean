import Derived.Test.YtgbiagonfbnooaaGreatDoorZLevLink
import Derived.Test.YtgbiagonfbnooaaGreatDoorZRepC
set_option linter.all false
set_option maxRecDepth 100000
set_option maxHeartbeats 8000000
open Go.Lib
namespace Go.Proofs.YtgbiagonfbnooaaGreatDoor
open Go.RowKit
open M
theorem Il(A:Option Addr)(n cap:Nat)(xs:List In)(w:World)(Y:Inputs w A n xs)(hn:n<=281474976710656) :
 Calls Tryz.prog 27 #[.slice A n cap] w fun e w'=>e=.returned (.bool (Dz xs))/\Below w.heap.size w w':=by
 have hl:=hid Y.1;replace Y:=hid Y;go_enter Tryz.func27,Tryz.ntmps27;by_cases h60:n<=60
 rotate_left
 . have d60:decide ((60:Int)<(n:Int))=true:=decide_eq_true (by omega);have E:=hid (show Dz xs=false by
    cases h:Dz xs
    . rfl
    . have:=(AO.1 h).2;have:=hl.out;omega)
   go_wp2;go_ret;exact⟨Al E.out.symm,Ac w⟩
 have d60:decide ((60:Int)<(n:Int))=false:=decide_eq_false (by omega);go_wp2
 go_loopw [10] (Ke w n xs) (fun i _=>n-(RowKit.intOf i).toNat)
 case atStart=>exact⟨0,Nat.zero_le _,rfl,rfl,Ac w⟩
 case round =>
  obtain⟨k,hk,rfl,ha,B⟩:=hrel;by_cases hlt:k<n
  . obtain⟨b,off,rfl,hb,hc⟩:=(Y.out.step B).2 (by omega);obtain⟨c0,c1,c2⟩:=hc k hlt;have hkl:k<xs.length:=by have:=hl.out; omega
    have et:=rp_next hkl;rw[ha,Bool.true_and] at et;have eb:=hid (rp_bad hkl);replace et:=hid et;replace B:=hid B;clear hc ha hkl;generalize xs.getD k iz=q at *;obtain⟨s,p,z⟩:=q;dsimp only at c0 c1 c2;go_wp2_with fail;refine(Et s p z _).mono ?_;rintro e w1 ⟨rfl,B1⟩;replace B:=hid (Aa (Ab B.out _) B1);clear B1 c0 c1 c2;cases hv:Bm s p z
    . have e0:=eb.out hv;clear eb et;go_wp2;go_ret;exact⟨Al e0.symm,B.out⟩
    . have et:=et.out.trans hv;replace et:=hid et;clear eb hv;go_wp2
      go_roundw
      case rel=>exact⟨k+1,by omega,by go_num,et.out,B.out⟩
      case measure=>simp[RowKit.intOf]; omega
  obtain rfl:k=n:=by omega
  have hx:xs.take k=xs:=by rw[<- hl.out,List.take_length]
  rw[hx] at ha;have E:=hid (show Dz xs=true from AO.2 ⟨ha,by have:=hl.out; omega⟩);replace B:=hid B;clear ha hx;go_wp2;go_ret;exact⟨Al E.out.symm,B.out⟩
theorem Ky(p:Option Addr)(lo:Nat)(qs:List Pt)(w:World)(C:ChainP w lo w.heap.size qs (.pointer p))(hq:qs.length<=1000) :
 Calls Tryz.prog 39 #[.pointer p] w (FO w qs):=by
 have O:(w.alloc (.cells #[] 73)).ownsRow w.heap.size 73 2 (.slice (some ⟨w.heap.size,0,none⟩) 0 0) 0 (Cm (qs.take 0)):=Ct w w.heap.size w.heap.size rfl (Nat.le_refl _);have B:=Ab (Ac w) (.cells #[] 73);replace C:=hid C;replace O:=hid O;replace B:=hid B;go_enter Tryz.func39,Tryz.ntmps39;go_wp2
 go_loopw [0,3] (fun pv ov W=>∃(k:Nat) (p':Option Addr) (hi:Nat),pv=.pointer p'/\hi<=w.heap.size/\k<=qs.length/\ChainP W lo hi (qs.drop k) (.pointer p')/\(∃ A ca,ov=.slice A k ca)/\W.ownsRow w.heap.size 73 2 ov k (Cm (qs.take k))/\Below w.heap.size w W) (fun pv ov _=>qs.length-(match ov with | .slice _ k _=>k | _=>0))
 case atStart=>exact⟨0,p,w.heap.size,rfl,Nat.le_refl _,Nat.zero_le _,C.out.alloc _,⟨_,_,rfl⟩,O.out,B.out⟩
 case round =>
  clear O B C;obtain⟨k,p',hi,rfl,hhi,hk,C,⟨A1,ca,rfl⟩,O,B⟩:=hrel;by_cases hlt:k<qs.length
  rotate_left
  . have hd:qs.drop k=[]:=List.drop_eq_nil_of_le (by omega);have ht:qs.take k=qs:=List.take_of_length_le (by omega);rw[hd] at C;obtain rfl:p'=none:=by simpa[ChainP] using C
    obtain rfl:k=qs.length:=by omega
    rw[ht] at O;replace O:=hid O;replace B:=hid B;clear ht hd C;go_wp2;go_ret;exact⟨_,rfl,O.out,B.out⟩
  have ed:=Jf pz hlt;have et:qs.take (k+1)=qs.take k++[qs.getD k pz]:=by
   rw[List.take_succ_eq_append_getElem hlt,List.getD_eq_getElem?_getD,List.getElem?_eq_getElem hlt];rfl
  rw[ed] at C;clear ed;obtain⟨g,nx,e1,hg1,hg2,hG,hT⟩:=ChainP.cons C;cases e1
  clear C;generalize qs.getD k pz=q at *;obtain⟨qc,qm⟩:=q;simp only at hG;obtain⟨g0,g1,g2⟩:=BL hG;have g3:=hG.lt;replace et:=hid et;replace O:=hid O;replace B:=hid B;replace hG:=hid hG;replace hT:=hid hT;have hsz:=B.out.size;have hq2:k+1<=10000000:=by omega
  go_wp2_with (at_builtin; refine Ce _ rfl (.tmp 11) (.tmp 16) rfl w.heap.size (.slice A1 k ca) k (qs.take k) rfl (O.out.alloc _) _ 1 1 [⟨qc,qm⟩] rfl (Parts.one _ _ qc qm _ rfl) hq2 (by simp; omega) ?_);intro v' w9 O9 G9 _;have B9:=(Ab B.out _).grown G9 (by simp; omega) (fun g' e=>(O.out.lt g' e).1);have hT9:=(hT.out.alloc (.cells #[.int .i64 qc,.int .i64 qm] 73));have hG9:CellsAt w9 g [.int .i64 qc,.int .i64 qm,.pointer nx]:=(hG.out.alloc _).grown G9 (fun e=>by have:=(O.out.lt _ e).1; omega);have hTn:ChainP w9 lo g (qs.drop (k+1)) (.pointer nx):=ChainP.grown G9 (fun g' e=>.inr (by have:=(O.out.lt g' e).1; omega)) hT9;have c2:=hG9.cell 2 _ rfl
  have c3:=hG9.lt;have O9:=hid (show w9.ownsRow w.heap.size 73 2 v' (k+1) (Cm (qs.take (k+1))) from by rw[et.out]; exact O9);obtain⟨A2,ca2,hv2,_,_⟩:=Parts.of_own O9.out;subst hv2;replace B9:=hid B9;replace hTn:=hid hTn;clear G9 O B hG hT hT9 hG9 g0 g1 g2 g3;go_wp2
  go_roundw
  case rel=>exact⟨k+1,nx,g,rfl,by omega,by omega,hTn.out,⟨_,_,rfl⟩,O9.out,B9.out⟩
  case measure=>simp; omega
theorem Ja(A:Option Addr)(n cap:Nat)(xs:List In)(w:World)(Y:Inputs w A n xs)(hn:n<=281474976710656) :
 Calls Tryz.prog 18 #[.slice A n cap] w (FO w (EK xs)):=by
 replace Y:=hid Y;go_enter Tryz.func18,Tryz.ntmps18;go_wp2_with fail;refine(Il A n cap xs _ Y.out hn).mono ?_;rintro e w1 ⟨rfl,B⟩;have Y1:=hid (Y.out.step B);replace B:=hid B;cases ok:Dz xs
 . replace ok:=hid ok;go_wp2;go_ret;refine⟨_,rfl,?_,Ab B.out _⟩;rw[EK,ok.out];exact Ct w1 _ _ rfl B.out.size
 . have hlen:(Ba (An xs)).length<=1000:=by have:=pts_len (An xs); have:=(AO.1 ok).2; simp[An] at *; omega
   replace ok:=hid ok;go_wp2_with fail;refine(Ha A n cap xs _ Y1.out ok.out).mono ?_;rintro e w2 ⟨p,rfl,C,B2⟩;replace C:=hid C;replace B:=hid (Aa B.out B2);clear B2;go_wp2_with fail;refine(Ky p _ (Ba (An xs)) _ C.out hlen).mono ?_;rintro e w3 ⟨v,rfl,O,B3⟩;replace O:=hid (Ds O B.out.size);replace B:=hid (Aa B.out B3);clear B3;go_wp2;go_ret;refine⟨_,rfl,?_,B.out⟩;rw[EK,ok.out];exact O.out
open Go.RowKit
open M
theorem Ni(n k:Int)(w:World):Calls Tryz.prog 26 #[.int .i64 n,.int .i64 k] w fun e w'=>e=.returned (.bool (Ax n 0 k))/\w=w':=by
 by_cases h0:0<=n
 . have d0:decide ((0:Int)<=n)=true:=decide_eq_true h0;by_cases h1:n<=k
   . have d1:decide (n<=k)=true:=decide_eq_true h1;go_enter Tryz.func26,Tryz.ntmps26;go_wp2;go_ret;exact⟨Al (De ⟨h0,h1⟩).symm,rfl⟩
   . have d1:decide (n<=k)=false:=decide_eq_false h1;go_enter Tryz.func26,Tryz.ntmps26;go_wp2;go_ret;exact⟨Al (Cs (fun h=>by omega)).symm,rfl⟩
 . have d0:decide ((0:Int)<=n)=false:=decide_eq_false h0;go_enter Tryz.func26,Tryz.ntmps26;go_wp2;go_ret;exact⟨Al (Cs (fun h=>by omega)).symm,rfl⟩
theorem BU(n k:Int)(b:Bool)(w:World)(h:Ax n 0 k=b):Calls Tryz.prog 26 #[.int .i64 n,.int .i64 k] w fun e w'=>e=.returned (.bool b)/\w=w':=by
 subst h;exact Ni n k w
theorem CM(n:Int)(b:Bool)(w:World)(h:Dt n=b):Calls Tryz.prog 29 #[.int .i64 n] w fun e w'=>e=.returned (.bool b)/\w=w':=by
 go_enter Tryz.func29,Tryz.ntmps29;go_wp2_with fail;refine(BU n 1000002 b _ h).mono ?_;rintro e w' ⟨rfl,rfl⟩;go_wp2;go_ret;exact⟨rfl,rfl⟩
def NE(w:World)(m:Nat)(hs:List Int)(iv:Value)(W:World):Prop:=∃ k:Nat,k<=m/\iv=.int .i64 k/\(hs.take k).all Dt=true/\w=W
theorem Kz(H:Option Addr)(m d:Nat)(hs:List Int)(n:Nat)(w:World)(Z:Ints w H m hs)(hn:n<=281474976710656)(hm:m<=281474976710656) :
 Calls Tryz.prog 28 #[.slice H m d,.int .i64 n] w fun e w'=>e=.returned (.bool (decide (m=n / 5)&&hs.all Dt))/\w=w':=by
 have hk:=hid Z.1;replace Z:=hid Z;by_cases h0:m=n / 5
 rotate_left
 . have E:=hid (show(decide (m=n / 5)&&hs.all Dt)=false by rw[decide_eq_false h0]; rfl);have q:((m:Int) != (n:Int) / 5)=true:=by simp; omega
   clear h0;go_enter Tryz.func28,Tryz.ntmps28;go_wp2;go_ret;exact⟨Al E.out.symm,rfl⟩
 have E:=hid (show(decide (m=n / 5)&&hs.all Dt)=hs.all Dt by rw[decide_eq_true h0]; rfl);have q:((m:Int) != (n:Int) / 5)=false:=by simp; omega
 clear h0;go_enter Tryz.func28,Tryz.ntmps28;go_wp2
 go_loopw [14] (NE w m hs) (fun i _=>m-(RowKit.intOf i).toNat)
 case atStart=>exact⟨0,Nat.zero_le _,rfl,rfl,rfl⟩
 case round =>
  obtain⟨k,hk2,rfl,ha,rfl⟩:=hrel;by_cases hlt:k<m
  . obtain⟨b,off,rfl,hb,hc⟩:=Z.out.2 (by omega);have cc:=hc k hlt;have hkl:k<hs.length:=by have:=hk.out; omega
    have et:=rh_next hkl;rw[ha,Bool.true_and] at et;have eb:=hid (rh_bad hkl);replace et:=hid et;clear hc ha hkl q;generalize hs.getD k 0=z at *;cases hv:Dt z
    . have e0:=hid (eb.out hv);replace hv:=hid hv;clear eb et;go_wp2_with fail;refine(CM z false _ hv.out).mono ?_;rintro e w1 ⟨rfl,rfl⟩;go_wp2;go_ret;exact⟨Al (by rw[E.out,e0.out]),rfl⟩
    . have et:=et.out.trans hv;replace et:=hid et;replace hv:=hid hv;clear eb;go_wp2_with fail;refine(CM z true _ hv.out).mono ?_;rintro e w1 ⟨rfl,rfl⟩;go_wp2
      go_roundw
      case rel=>exact⟨k+1,by omega,by go_num,et.out,rfl⟩
      case measure=>simp[RowKit.intOf]; omega
  obtain rfl:k=m:=by omega
  have hall:=hid (show hs.all Dt=true by rw[<- hk.out,List.take_length] at ha; exact ha);clear ha q;go_wp2;go_ret;exact⟨Al (by rw[E.out,hall.out]),rfl⟩
theorem EL(l p s:Int)(A:Option Addr)(n c:Nat)(H:Option Addr)(m d:Nat)(t:Int)(xs:List In)(hs:List Int)(w:World)(Y:Inputs w A n xs)(Z:Ints w H m hs)(hn:n<=281474976710656)(hm:m<=281474976710656) :
 Calls Tryz.prog 12 #[CH l p s A n c H m d t] w fun e w'=>e=.returned (.bool (Bq ⟨l,p,s,xs,hs,t⟩))/\Below w.heap.size w w':=by
 have hl:=hid Y.1;have hk:=hid Z.1;replace Y:=hid Y;replace Z:=hid Z;have D:CellsAt (w.alloc (.cells #[.int .i64 l,.int .i64 p,.int .i64 s,.slice A n c,.slice H m d,.int .i64 t] 26)) w.heap.size (AR l p s A n c H m d t):=CellsAt.new w _ _ _ rfl;have B:=Ab (Ac w) (.cells #[.int .i64 l,.int .i64 p,.int .i64 s,.slice A n c,.slice H m d,.int .i64 t] 26);have E:=hid (show Bq ⟨l,p,s,xs,hs,t⟩=(Ax l 0 99&&Ax p 0 9&&Ax s 0 60&&Dz xs&&(decide (m=n / 5)&&hs.all Dt)&&Dt t) by
  simp only[Bq,hl.out,hk.out];cases hs.all Dt<;>simp)
 have c0:=D.cell 0 _ rfl;have c1:=D.cell 1 _ rfl;have c2:=D.cell 2 _ rfl;have c3:=D.cell 3 _ rfl;have c4:=D.cell 4 _ rfl;have c5:=D.cell 5 _ rfl;replace D:=hid D;replace B:=hid B;go_enter Tryz.func12,Tryz.ntmps12;cases a1:Ax l 0 99
 . replace a1:=hid a1;go_wp2_with fail;refine(BU l 99 false _ a1.out).mono ?_;rintro e w1 ⟨rfl,rfl⟩;go_wp2;go_ret;refine⟨Al ?_,B.out⟩;rw[E.out,a1.out]; rfl
 replace a1:=hid a1;cases a2:Ax p 0 9
 . replace a2:=hid a2;go_wp2_with fail;refine(BU l 99 true _ a1.out).mono ?_;rintro e w1 ⟨rfl,rfl⟩;go_wp2_with fail;refine(BU p 9 false _ a2.out).mono ?_;rintro e w1 ⟨rfl,rfl⟩;go_wp2;go_ret;refine⟨Al ?_,B.out⟩;rw[E.out,a1.out,a2.out]; rfl
 replace a2:=hid a2;cases a3:Ax s 0 60
 . replace a3:=hid a3;go_wp2_with fail;refine(BU l 99 true _ a1.out).mono ?_;rintro e w1 ⟨rfl,rfl⟩;go_wp2_with fail;refine(BU p 9 true _ a2.out).mono ?_;rintro e w1 ⟨rfl,rfl⟩;go_wp2_with fail;refine(BU s 60 false _ a3.out).mono ?_;rintro e w1 ⟨rfl,rfl⟩;go_wp2;go_ret;refine⟨Al ?_,B.out⟩;rw[E.out,a1.out,a2.out,a3.out]; rfl
 replace a3:=hid a3;go_wp2_with fail;refine(BU l 99 true _ a1.out).mono ?_;rintro e w1 ⟨rfl,rfl⟩;go_wp2_with fail;refine(BU p 9 true _ a2.out).mono ?_;rintro e w1 ⟨rfl,rfl⟩;go_wp2_with fail;refine(BU s 60 true _ a3.out).mono ?_;rintro e w1 ⟨rfl,rfl⟩;go_wp2_with fail;refine(Il A n c xs _ (Y.out.step B.out) hn).mono ?_;rintro e w1 ⟨rfl,B1⟩;have D1:=D.out.step B1;replace B:=hid (Aa B.out B1);clear B1 c0 c1 c2 c3 c4 c5 D;have c3:=D1.cell 3 _ rfl;have c4:=D1.cell 4 _ rfl;have c5:=D1.cell 5 _ rfl;clear D1;cases a4:Dz xs
 . replace a4:=hid a4;go_wp2;go_ret;refine⟨Al ?_,B.out⟩;rw[E.out,a1.out,a2.out,a3.out,a4.out]; rfl
 replace a4:=hid a4;have hH:=Kz H m d hs n _ (Z.out.step B.out) hn hm;cases a5:(decide (m=n / 5)&&hs.all Dt)
 . rw[a5] at hH;replace a5:=hid a5;go_wp2_with fail;refine hH.mono ?_;rintro e w2 ⟨rfl,rfl⟩;go_wp2;go_ret;refine⟨Al ?_,B.out⟩;rw[E.out,a1.out,a2.out,a3.out,a4.out,a5.out]; rfl
 rw[a5] at hH;replace a5:=hid a5;cases a6:Dt t
 . replace a6:=hid a6;go_wp2_with fail;refine hH.mono ?_;rintro e w2 ⟨rfl,rfl⟩;go_wp2_with fail;refine(CM t false _ a6.out).mono ?_;rintro e w2 ⟨rfl,rfl⟩;go_wp2;go_ret;refine⟨Al ?_,B.out⟩;rw[E.out,a1.out,a2.out,a3.out,a4.out,a5.out,a6.out]; rfl
 . replace a6:=hid a6;go_wp2_with fail;refine hH.mono ?_;rintro e w2 ⟨rfl,rfl⟩;go_wp2_with fail;refine(CM t true _ a6.out).mono ?_;rintro e w2 ⟨rfl,rfl⟩;go_wp2;go_ret;refine⟨Al ?_,B.out⟩;rw[E.out,a1.out,a2.out,a3.out,a4.out,a5.out,a6.out]; rfl
end Go.Proofs.YtgbiagonfbnooaaGreatDoor
