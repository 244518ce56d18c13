import Derived.Test.YtflmmdljkhdjlaaZRepP
import Derived.Test.YtflmmdljkhdjlaaZRepC
set_option linter.all false
set_option maxRecDepth 100000
set_option maxHeartbeats 8000000
open Go.Lib
namespace Go.Proofs.Ytflmmdljkhdjlaa
open Go.RowKit
open M
theorem KE(n k:Int)(w:World):Calls Try.prog 69 #[.int .i64 n,.int .i64 k] w fun e w'=>e=.returned (.bool (Aw n 0 k))/\w=w':=by
 by_cases h0:0<=n
 . have d0:decide ((0:Int)<=n)=true:=decide_eq_true h0;by_cases h1:n<=k
   . have d1:decide (n<=k)=true:=decide_eq_true h1;go_enter Try.func69,Try.ntmps69;go_wp2;go_ret;exact⟨Al (CV ⟨h0,h1⟩).symm,rfl⟩
   . have d1:decide (n<=k)=false:=decide_eq_false h1;go_enter Try.func69,Try.ntmps69;go_wp2;go_ret;exact⟨Al (Cj (fun h=>by omega)).symm,rfl⟩
 . have d0:decide ((0:Int)<=n)=false:=decide_eq_false h0;go_enter Try.func69,Try.ntmps69;go_wp2;go_ret;exact⟨Al (Cj (fun h=>by omega)).symm,rfl⟩
theorem BQ(n k:Int)(b:Bool)(w:World)(h:Aw n 0 k=b):Calls Try.prog 69 #[.int .i64 n,.int .i64 k] w fun e w'=>e=.returned (.bool b)/\w=w':=by
 subst h;exact KE n k w
theorem Cu(n:Int)(b:Bool)(w:World)(h:C8 n=b):Calls Try.prog 71 #[.int .i64 n] w fun e w'=>e=.returned (.bool b)/\w=w':=by
 go_enter Try.func71,Try.ntmps71;go_wp2_with fail;refine(BQ n 1000002 b _ h).mono ?_;rintro e w' ⟨rfl,rfl⟩;go_wp2;go_ret;exact⟨rfl,rfl⟩
def La(w:World)(m:Nat)(hs:List Int)(iv:Value)(W:World):Prop:=∃ k:Nat,k<=m/\iv=.int .i64 k/\(hs.take k).all C8=true/\w=W
theorem Jb(H:Option Addr)(m d:Nat)(hs:List Int)(n:Nat)(w:World)(Z:Ints w H m hs)(hn:n<=281474976710656)(hm:m<=281474976710656) :
 Calls Try.prog 70 #[.slice H m d,.int .i64 n] w fun e w'=>e=.returned (.bool (decide (m=n / 5)&&hs.all C8))/\w=w':=by
 have hk:=hid Z.1;replace Z:=hid Z;by_cases h0:m=n / 5
 rotate_left
 . have E:=hid (show(decide (m=n / 5)&&hs.all C8)=false by rw[decide_eq_false h0]; rfl);have q:((m:Int) != (n:Int) / 5)=true:=by simp; omega
   clear h0;go_enter Try.func70,Try.ntmps70;go_wp2;go_ret;exact⟨Al E.out.symm,rfl⟩
 have E:=hid (show(decide (m=n / 5)&&hs.all C8)=hs.all C8 by rw[decide_eq_true h0]; rfl);have q:((m:Int) != (n:Int) / 5)=false:=by simp; omega
 clear h0;go_enter Try.func70,Try.ntmps70;go_wp2
 go_loopw [14] (La w m hs) (fun i _=>m-(intOf i).toNat)
 case atStart=>exact⟨0,Nat.zero_le _,rfl,rfl,rfl⟩
 case round =>
  obtain⟨k,hk2,rfl,ha,rfl⟩:=hrel;by_cases hlt:k<m
  . obtain⟨b,off,rfl,hb,hc⟩:=Z.out.2 (by omega);have cc:=hc k hlt;have hkl:k<hs.length:=by have:=hk.out; omega
    have et:=rh_next hkl;rw[ha,Bool.true_and] at et;have eb:=hid (rh_bad hkl);replace et:=hid et;clear hc ha hkl q;generalize hs.getD k 0=z at *;cases hv:C8 z
    . have e0:=hid (eb.out hv);replace hv:=hid hv;clear eb et;go_wp2_with fail;refine(Cu z false _ hv.out).mono ?_;rintro e w1 ⟨rfl,rfl⟩;go_wp2;go_ret;exact⟨Al (by rw[E.out,e0.out]),rfl⟩
    . have et:=et.out.trans hv;replace et:=hid et;replace hv:=hid hv;clear eb;go_wp2_with fail;refine(Cu z true _ hv.out).mono ?_;rintro e w1 ⟨rfl,rfl⟩;go_wp2
      go_roundw
      case rel=>exact⟨k+1,by omega,by go_num,et.out,rfl⟩
      case measure=>simp[intOf]; omega
  obtain rfl:k=m:=by omega
  have hall:=hid (show hs.all C8=true by rw[<- hk.out,List.take_length] at ha; exact ha);clear ha q;go_wp2;go_ret;exact⟨Al (by rw[E.out,hall.out]),rfl⟩
theorem Et(l p s:Int)(A:Option Addr)(n c:Nat)(H:Option Addr)(m d:Nat)(t:Int)(xs:List In)(hs:List Int)(w:World)(Y:Inputs w A n xs)(Z:Ints w H m hs)(hn:n<=281474976710656)(hm:m<=281474976710656) :
 Calls Try.prog 30 #[Dp l p s A n c H m d t] w fun e w'=>e=.returned (.bool (BJ ⟨l,p,s,xs,hs,t⟩))/\Below w.heap.size w w':=by
 have hl:=hid Y.1;have hk:=hid Z.1;replace Y:=hid Y;replace Z:=hid Z;have D:CellsAt (w.alloc (.cells #[.int .i64 l,.int .i64 p,.int .i64 s,.slice A n c,.slice H m d,.int .i64 t] 41)) w.heap.size (Be l p s A n c H m d t):=CellsAt.new w _ _ _ rfl;have B:=Ab (Ac w) (.cells #[.int .i64 l,.int .i64 p,.int .i64 s,.slice A n c,.slice H m d,.int .i64 t] 41);have E:=hid (show BJ ⟨l,p,s,xs,hs,t⟩=(Aw l 0 99&&Aw p 0 9&&Aw s 0 60&&Ce xs&&(decide (m=n / 5)&&hs.all C8)&&C8 t) by
  simp only[BJ,hl.out,hk.out];cases hs.all C8<;>simp)
 have c0:=D.cell 0 _ rfl;have c1:=D.cell 1 _ rfl;have c2:=D.cell 2 _ rfl;have c3:=D.cell 3 _ rfl;have c4:=D.cell 4 _ rfl;have c5:=D.cell 5 _ rfl;replace D:=hid D;replace B:=hid B;go_enter Try.func30,Try.ntmps30;cases a1:Aw l 0 99
 . replace a1:=hid a1;go_wp2_with fail;refine(BQ l 99 false _ a1.out).mono ?_;rintro e w1 ⟨rfl,rfl⟩;go_wp2;go_ret;refine⟨Al ?_,B.out⟩;rw[E.out,a1.out]; rfl
 replace a1:=hid a1;cases a2:Aw p 0 9
 . replace a2:=hid a2;go_wp2_with fail;refine(BQ l 99 true _ a1.out).mono ?_;rintro e w1 ⟨rfl,rfl⟩;go_wp2_with fail;refine(BQ p 9 false _ a2.out).mono ?_;rintro e w1 ⟨rfl,rfl⟩;go_wp2;go_ret;refine⟨Al ?_,B.out⟩;rw[E.out,a1.out,a2.out]; rfl
 replace a2:=hid a2;cases a3:Aw s 0 60
 . replace a3:=hid a3;go_wp2_with fail;refine(BQ l 99 true _ a1.out).mono ?_;rintro e w1 ⟨rfl,rfl⟩;go_wp2_with fail;refine(BQ p 9 true _ a2.out).mono ?_;rintro e w1 ⟨rfl,rfl⟩;go_wp2_with fail;refine(BQ s 60 false _ a3.out).mono ?_;rintro e w1 ⟨rfl,rfl⟩;go_wp2;go_ret;refine⟨Al ?_,B.out⟩;rw[E.out,a1.out,a2.out,a3.out]; rfl
 replace a3:=hid a3;go_wp2_with fail;refine(BQ l 99 true _ a1.out).mono ?_;rintro e w1 ⟨rfl,rfl⟩;go_wp2_with fail;refine(BQ p 9 true _ a2.out).mono ?_;rintro e w1 ⟨rfl,rfl⟩;go_wp2_with fail;refine(BQ s 60 true _ a3.out).mono ?_;rintro e w1 ⟨rfl,rfl⟩;go_wp2_with fail;refine(GY A n c xs _ (Y.out.step B.out) hn).mono ?_;rintro e w1 ⟨rfl,B1⟩;have D1:=D.out.step B1;replace B:=hid (Aa B.out B1);clear B1 c0 c1 c2 c3 c4 c5 D;have c3:=D1.cell 3 _ rfl;have c4:=D1.cell 4 _ rfl;have c5:=D1.cell 5 _ rfl;clear D1;cases a4:Ce xs
 . replace a4:=hid a4;go_wp2;go_ret;refine⟨Al ?_,B.out⟩;rw[E.out,a1.out,a2.out,a3.out,a4.out]; rfl
 replace a4:=hid a4;have hH:=Jb H m d hs n _ (Z.out.step B.out) hn hm;cases a5:(decide (m=n / 5)&&hs.all C8)
 . rw[a5] at hH;replace a5:=hid a5;go_wp2_with fail;refine hH.mono ?_;rintro e w2 ⟨rfl,rfl⟩;go_wp2;go_ret;refine⟨Al ?_,B.out⟩;rw[E.out,a1.out,a2.out,a3.out,a4.out,a5.out]; rfl
 rw[a5] at hH;replace a5:=hid a5;cases a6:C8 t
 . replace a6:=hid a6;go_wp2_with fail;refine hH.mono ?_;rintro e w2 ⟨rfl,rfl⟩;go_wp2_with fail;refine(Cu t false _ a6.out).mono ?_;rintro e w2 ⟨rfl,rfl⟩;go_wp2;go_ret;refine⟨Al ?_,B.out⟩;rw[E.out,a1.out,a2.out,a3.out,a4.out,a5.out,a6.out]; rfl
 . replace a6:=hid a6;go_wp2_with fail;refine hH.mono ?_;rintro e w2 ⟨rfl,rfl⟩;go_wp2_with fail;refine(Cu t true _ a6.out).mono ?_;rintro e w2 ⟨rfl,rfl⟩;go_wp2;go_ret;refine⟨Al ?_,B.out⟩;rw[E.out,a1.out,a2.out,a3.out,a4.out,a5.out,a6.out]; rfl
def Lb(w:World)(n:Nat)(l0:List Int)(xs:List In)(vs:List Value)(ov iv:Value)(W:World):Prop :=
 ∃ k:Nat,k<=n/\iv=.int .i64 k/\W.ownsRow (w.heap.size+1) 3 1 ov (4+k) ((l0++An (xs.take k)).map (Value.int .i64))/\CellsAt W w.heap.size vs/\Below w.heap.size w W
theorem Hx(l p s:Int)(A:Option Addr)(n c:Nat)(H:Option Addr)(m d:Nat)(t:Int)(xs:List In)(hs:List Int)(w:World)(Y:Inputs w A n xs)(Z:Ints w H m hs)(hn:n<=281474976710656)(hm:m<=281474976710656) :
 Calls Try.prog 26 #[Dp l p s A n c H m d t] w (Ej w (rlist ⟨l,p,s,xs,hs,t⟩)):=by
 have hl:=hid Y.1;have hk:=hid Z.1;replace Y:=hid Y;replace Z:=hid Z;have D:CellsAt (w.alloc (.cells #[.int .i64 l,.int .i64 p,.int .i64 s,.slice A n c,.slice H m d,.int .i64 t] 41)) w.heap.size (Be l p s A n c H m d t):=CellsAt.new w _ _ _ rfl;have B:=Ab (Ac w) (.cells #[.int .i64 l,.int .i64 p,.int .i64 s,.slice A n c,.slice H m d,.int .i64 t] 41);have c0:=D.cell 0 _ rfl;have c1:=D.cell 1 _ rfl;have c2:=D.cell 2 _ rfl;have c3:=D.cell 3 _ rfl;have c4:=D.cell 4 _ rfl;have c5:=D.cell 5 _ rfl;replace D:=hid D;replace B:=hid B;go_enter Try.func26,Try.ntmps26;go_wp2_with fail
 refine(Et l p s A n c H m d t xs hs _ (Y.out.step B.out) (Z.out.step B.out) hn hm).mono ?_;rintro e w1 ⟨rfl,B1⟩;replace D:=D.out.step B1;replace B:=hid (Aa B.out B1);clear B1 c0 c1 c2 c3 c4 c5;have c0:=D.cell 0 _ rfl;have c1:=D.cell 1 _ rfl;have c2:=D.cell 2 _ rfl;have c3:=D.cell 3 _ rfl;have hw1:=D.lt;cases ok:BJ ⟨l,p,s,xs,hs,t⟩
 . replace ok:=hid ok;go_wp2;go_ret;refine⟨_,rfl,?_,Ab B.out _⟩;rw[rlist,ok.out];exact World.ownsRow_lit w1 #[] 0 B.out.size (Nat.zero_le _) rfl
 have hx:=hid (Cc ok).2.2.2.2.1;have hm2:m<=1000:=by have:=(Cc ok).2.2.2.2.2.1; have:=(AP.1 hx.out).2; have:=hk.out; simp only at *; omega
 have hn2:n<=60:=by have h1:=(AP.1 hx.out).2; have h2:=hl.out; simp only at h1; omega
 have ER:=hid (show rlist ⟨l,p,s,xs,hs,t⟩=repL ⟨l,p,s,xs,hs,t⟩ by rw[rlist,ok]; rfl);have D2:=hid (D.alloc (.cells #[.int .i64 l,.int .i64 p,.int .i64 s,.int .i64 n] 3));have B2:=hid (Ab B.out (.cells #[.int .i64 l,.int .i64 p,.int .i64 s,.int .i64 n] 3));have O:(w1.alloc (.cells #[.int .i64 l,.int .i64 p,.int .i64 s,.int .i64 n] 3)).ownsRow (w.heap.size+1) 3 1 (.slice (some ⟨w1.heap.size,0,none⟩) 4 4) (4+0) (([l,p,s,(n:Int)]++An (xs.take 0)).map (Value.int .i64)):=by
  have:=World.ownsRow_lit (base:=w.heap.size+1) (size:=1) (e:=3) w1 #[.int .i64 l,.int .i64 p,.int .i64 s,.int .i64 n] 4 (by omega) (by unfold maxLen; omega) rfl;simpa[An] using this
 replace O:=hid O;replace ok:=hid ok;clear D B;go_wp2;clear c0 c1 c2 c3
 go_loopw [3,23] (Lb w n [l,p,s,(n:Int)] xs (Be l p s A n c H m d t)) (fun _ i _=>n-(intOf i).toNat)
 case atStart=>exact⟨0,Nat.zero_le _,rfl,O.out,D2.out,B2.out⟩
 case round =>
  clear O D2 B2;obtain⟨k,hk2,rfl,O,D,B⟩:=hrel;have c4:=D.cell 4 _ rfl;obtain⟨A1,ca,hv1,_⟩:=Ints.of_own O;subst hv1;by_cases hlt:k<n
  . obtain⟨b,off,rfl,hb,hc⟩:=Y.out.2 (by omega);obtain⟨d0,d1,d2⟩:=(hc k hlt).of (B.block b hb);have hkl:k<xs.length:=by have:=hl.out; omega
    have hv:=valid_at hkl hx.out;have en:=codes_next hkl;rw[show FD (xs.getD k iz)=FC (xs.getD k iz).s (xs.getD k iz).p (xs.getD k iz).z from rfl] at en;clear hc hkl;generalize xs.getD k iz=q at *;obtain⟨qs,qp,qz⟩:=q;dsimp only at d0 d1 d2 hv en;have C:=fun W=>Cq qs qp qz W;rw[DX hv] at C;replace en:=hid en;replace O:=hid O;replace B:=hid B;replace D:=hid D;clear hv;generalize FC qs qp qz=cd at *;replace C:=hid C;go_wp2_with fail;refine(C.out _).mono ?_;rintro e w3 ⟨rfl,B1⟩;replace O:=hid (As (O.out.alloc _) B1);replace D:=hid ((D.out.alloc _).step B1);replace B:=hid (Aa (Ab B.out _) B1);clear B1 c4 d0 d1 d2 C
    have hz:=B.out.size;have hz2:w.heap.size<w3.heap.size:=D.out.lt;go_wp2_with (at_builtin; refine AO _ rfl (.tmp 27) (.tmp 30) rfl (w.heap.size+1) (Value.slice A1 (4+k) ca) (4+k) ([l,p,s,(n:Int)]++An (xs.take k)) rfl (O.out.alloc _) (some ⟨w3.heap.size,0,none⟩) 1 1 [cd] rfl (Ints.one w3 cd _) (by omega) (by simp; omega) ?_);intro v' w9 O9 G9 hB9;have B9:=(Ab B.out _).grown G9 (by simp; omega) (fun g' e=>by have:=(O.out.lt g' e).1; omega);have D9:=(D.out.alloc _).grown G9 (fun e=>by have:=(O.out.lt _ e).1; omega)
    have O9:=(show w9.ownsRow (w.heap.size+1) 3 1 v' (4+(k+1)) (([l,p,s,(n:Int)]++An (xs.take (k+1))).map (Value.int .i64)) from by
     rw[en.out]; simpa[Nat.add_assoc] using O9)
    replace O9:=hid O9;replace B9:=hid B9;replace D9:=hid D9;clear G9 O B D hB9;go_wp2
    go_roundw
    case rel=>exact⟨k+1,by omega,by go_num,O9.out,D9.out,B9.out⟩
    case measure=>simp[intOf]; omega
  . obtain rfl:k=n:=by omega
    have hx2:xs.take k=xs:=by rw[<- hl.out,List.take_length]
    rw[hx2] at O;replace O:=hid O;replace B:=hid B;replace D:=hid D;have hz:=B.out.size;have hz2:=D.out.lt;clear hx2;go_wp2_with (at_builtin; refine AO _ rfl (.tmp 33) (.tmp 35) rfl (w.heap.size+1) (Value.slice A1 (4+k) ca) (4+k) ([l,p,s,(k:Int)]++An xs) rfl O.out H m d hs rfl (Z.out.step B.out) (by omega) (by omega) ?_);intro v' w9 O9 G9 hB9;have B9:=B.out.grown G9 (by omega) (fun g' e=>by have:=(O.out.lt g' e).1; omega);have O9:=(show w9.ownsRow w.heap.size 3 1 v' (repL ⟨l,p,s,xs,hs,t⟩).length ((repL ⟨l,p,s,xs,hs,t⟩).map (Value.int .i64)) from by
     have e:(repL ⟨l,p,s,xs,hs,t⟩)=[l,p,s,(k:Int)]++An xs++hs:=by simp only[repL]; rw[hl.out]
     rw[e];have e2:([l,p,s,(k:Int)]++An xs++hs).length=4+k+m:=by simp[An,hl.out,hk.out]; omega
     rw[e2];exact Bz (base:=w.heap.size+1) (by simpa using O9) (by omega))
    replace O9:=hid O9;replace B9:=hid B9;clear G9 O B D hB9;go_wp2;go_ret;exact⟨_,rfl,by rw[ER.out]; exact O9.out,B9.out⟩
end Go.Proofs.Ytflmmdljkhdjlaa
