import Derived.Test.YtgbiagonfbnooaaGreatDoorZRepB
set_option linter.all false
set_option maxRecDepth 100000
set_option maxHeartbeats 8000000
open Go.Lib
namespace Go.Proofs.YtgbiagonfbnooaaGreatDoor
open Go.RowKit
open M
abbrev CH(l p s:Int)(A:Option Addr)(n c:Nat)(H:Option Addr)(m d:Nat)(t:Int):Value:=.agg #[.int .i64 l,.int .i64 p,.int .i64 s,.slice A n c,.slice H m d,.int .i64 t]
abbrev AR(l p s:Int)(A:Option Addr)(n c:Nat)(H:Option Addr)(m d:Nat)(t:Int):List Value:=[.int .i64 l,.int .i64 p,.int .i64 s,.slice A n c,.slice H m d,.int .i64 t]
theorem Ae:(Tryz.prog.info? 26).map (·.size)=some 6:=by kernel_rfl
theorem CI(n:Int)(b:Bool)(w:World)(h:Dt n=b):Calls Tryz.prog 40 #[.int .i64 n] w fun e w'=>e=.returned (.bool b)/\w=w':=by
 go_enter Tryz.func40,Tryz.ntmps40;go_wp2_with fail;refine(Ak n 0 1000002 b _ h).mono ?_;rintro e w' ⟨rfl,rfl⟩;go_wp2;go_ret;exact⟨rfl,rfl⟩
theorem M.rh_next{xs:List Int}{k:Nat}(h:k<xs.length):(xs.take (k+1)).all Dt=((xs.take k).all Dt&&Dt (xs.getD k 0)):=by
 rw[List.take_succ_eq_append_getElem h,List.all_append,List.getD_eq_getElem?_getD,List.getElem?_eq_getElem h];simp
theorem M.rh_bad{xs:List Int}{k:Nat}(h:k<xs.length)(hv:Dt (xs.getD k 0)=false):xs.all Dt=false:=by
 rw[List.all_eq_false];exact⟨xs[k],List.getElem_mem h,by rw[List.getD_eq_getElem?_getD,List.getElem?_eq_getElem h] at hv; simpa using hv⟩
def Ny(w:World)(m:Nat)(hs:List Int)(vs:List Value)(iv:Value)(W:World):Prop:=∃ k:Nat,k<=m/\iv=.int .i64 k/\(hs.take k).all Dt=true/\CellsAt W w.heap.size vs/\Below w.heap.size w W
theorem Ic(l p s:Int)(A:Option Addr)(n c:Nat)(H:Option Addr)(m d:Nat)(t:Int)(xs:List In)(hs:List Int)(w:World)(Y:Inputs w A n xs)(Z:Ints w H m hs)(hn:n<=281474976710656)(hm:m<=281474976710656) :
 Calls Tryz.prog 19 #[CH l p s A n c H m d t] w fun e w'=>e=.returned (.bool (Bq ⟨l,p,s,xs,hs,t⟩))/\Below w.heap.size w w':=by
 have hl:=hid Y.1;have hk:=hid Z.1;replace Y:=hid Y;replace Z:=hid Z;have D:CellsAt (w.alloc (.cells #[.int .i64 l,.int .i64 p,.int .i64 s,.slice A n c,.slice H m d,.int .i64 t] 26)) w.heap.size (AR l p s A n c H m d t):=CellsAt.new w _ _ _ rfl;have B:=Ab (Ac w) (.cells #[.int .i64 l,.int .i64 p,.int .i64 s,.slice A n c,.slice H m d,.int .i64 t] 26);go_enter Tryz.func19,Tryz.ntmps19;go_wp2
 go_loopw [3] (Ny w m hs (AR l p s A n c H m d t)) (fun i _=>m-(RowKit.intOf i).toNat)
 case atStart=>exact⟨0,Nat.zero_le _,rfl,rfl,D,B⟩
 case round =>
  clear D B;obtain⟨k,hk2,rfl,ha,D,B⟩:=hrel;have c0:=D.cell 0 _ rfl;have c1:=D.cell 1 _ rfl;have c2:=D.cell 2 _ rfl;have c3:=D.cell 3 _ rfl;have c4:=D.cell 4 _ rfl;have c5:=D.cell 5 _ rfl;replace D:=hid D;by_cases hlt:k<m
  . obtain⟨b,off,rfl,hb,hc⟩:=(Z.out.step B).2 (by omega);have cc:=hc k hlt;have hkl:k<hs.length:=by have:=hk.out; omega
    have et:=rh_next hkl;rw[ha,Bool.true_and] at et;have eb:=hid (rh_bad hkl);replace et:=hid et;replace B:=hid B;clear hc ha hkl;generalize hs.getD k 0=z at *;cases hv:Dt z
    . have e0:=hid (eb.out hv);have hv:=hid hv;clear eb et;go_wp2_with fail;refine(CI z false _ hv.out).mono ?_;rintro e w1 ⟨rfl,rfl⟩;go_wp2;go_ret;refine⟨Al ?_,B.out⟩;rw[Bq,e0.out]; rfl
    . have et:=et.out.trans hv;replace et:=hid et;have hv:=hid hv;clear eb;go_wp2_with fail;refine(CI z true _ hv.out).mono ?_;rintro e w1 ⟨rfl,rfl⟩;go_wp2
      go_roundw
      case rel=>exact⟨k+1,by omega,by go_num,et.out,D.out,B.out⟩
      case measure=>simp[RowKit.intOf]; omega
  obtain rfl:k=m:=by omega
  have hall:hs.all Dt=true:=by rw[<- hk.out,List.take_length] at ha; exact ha
  have E:Bq ⟨l,p,s,xs,hs,t⟩=(Ax l 0 99&&Ax p 0 9&&Ax s 0 60&&Dz xs&&decide (hs.length=xs.length / 5)&&Dt t):=by rw[Bq,hall,Bool.true_and]
  replace E:=hid E;replace B:=hid B;clear ha hall hlt;have hdi:∀ b,decide (hs.length=xs.length / 5)=b->((k:Int)==(n:Int) / 5)=b:=by
   intro b h;rw[<- h,hk.out,hl.out];by_cases e:k=n / 5
   . rw[decide_eq_true e]; simp; omega
   . rw[decide_eq_false e]; simp; omega
  replace hdi:=hid hdi;cases a1:Ax l 0 99
  . replace a1:=hid a1;go_wp2_with fail;refine(Ak l 0 99 false _ a1.out).mono ?_;rintro e w1 ⟨rfl,rfl⟩;go_wp2;go_ret;refine⟨Al ?_,B.out⟩;rw[E.out,a1.out]; rfl
  replace a1:=hid a1;cases a2:Ax p 0 9
  . replace a2:=hid a2;go_wp2_with fail;refine(Ak l 0 99 true _ a1.out).mono ?_;rintro e w1 ⟨rfl,rfl⟩;go_wp2_with fail;refine(Ak p 0 9 false _ a2.out).mono ?_;rintro e w1 ⟨rfl,rfl⟩;go_wp2;go_ret;refine⟨Al ?_,B.out⟩;rw[E.out,a1.out,a2.out]; rfl
  replace a2:=hid a2;cases a3:Ax s 0 60
  . replace a3:=hid a3;go_wp2_with fail;refine(Ak l 0 99 true _ a1.out).mono ?_;rintro e w1 ⟨rfl,rfl⟩;go_wp2_with fail;refine(Ak p 0 9 true _ a2.out).mono ?_;rintro e w1 ⟨rfl,rfl⟩;go_wp2_with fail;refine(Ak s 0 60 false _ a3.out).mono ?_;rintro e w1 ⟨rfl,rfl⟩;go_wp2;go_ret;refine⟨Al ?_,B.out⟩;rw[E.out,a1.out,a2.out,a3.out]; rfl
  replace a3:=hid a3;go_wp2_with fail;refine(Ak l 0 99 true _ a1.out).mono ?_;rintro e w1 ⟨rfl,rfl⟩;go_wp2_with fail;refine(Ak p 0 9 true _ a2.out).mono ?_;rintro e w1 ⟨rfl,rfl⟩;go_wp2_with fail;refine(Ak s 0 60 true _ a3.out).mono ?_;rintro e w1 ⟨rfl,rfl⟩;go_wp2_with fail;refine(LM A n c xs _ (Y.out.step B.out) hn).mono ?_;rintro e w1 ⟨rfl,B1⟩;have D1:=D.out.step B1;replace B:=hid (Aa B.out B1);clear B1 c0 c1 c2 c3 c4 c5;have c3:=D1.cell 3 _ rfl;have c4:=D1.cell 4 _ rfl;have c5:=D1.cell 5 _ rfl;clear D1 D;cases a4:Dz xs
  . replace a4:=hid a4;go_wp2;go_ret;refine⟨Al ?_,B.out⟩;rw[E.out,a1.out,a2.out,a3.out,a4.out]; rfl
  replace a4:=hid a4;cases a5:decide (hs.length=xs.length / 5)
  . have q:=hdi.out _ a5;replace a5:=hid a5;go_wp2;go_ret;refine⟨Al ?_,B.out⟩;rw[E.out,a1.out,a2.out,a3.out,a4.out,a5.out]; rfl
  have q:=hdi.out _ a5;replace a5:=hid a5;cases a6:Dt t
  . replace a6:=hid a6;go_wp2_with fail;refine(CI t false _ a6.out).mono ?_;rintro e w1 ⟨rfl,rfl⟩;go_wp2;go_ret;refine⟨Al ?_,B.out⟩;rw[E.out,a1.out,a2.out,a3.out,a4.out,a5.out,a6.out]; rfl
  replace a6:=hid a6;go_wp2_with fail;refine(CI t true _ a6.out).mono ?_;rintro e w1 ⟨rfl,rfl⟩;go_wp2;go_ret;refine⟨Al ?_,B.out⟩;rw[E.out,a1.out,a2.out,a3.out,a4.out,a5.out,a6.out]; rfl
def M.repL(r:Rep):List Int:=[r.l,r.p,r.s,(r.xs.length:Int)]++An r.xs++r.hs
def Nz(w:World)(n:Nat)(l0:List Int)(xs:List In)(vs:List Value)(ov iv:Value)(W:World):Prop :=
 ∃ k:Nat,k<=n/\iv=.int .i64 k/\W.ownsRow (w.heap.size+1) 3 1 ov (4+k) ((l0++An (xs.take k)).map (Value.int .i64))/\CellsAt W w.heap.size vs/\Below w.heap.size w W
def Ki(w:World)(xs:List Int)(e:Ending)(w':World):Prop:=∃ v,e=.returned v/\w'.ownsRow w.heap.size 3 1 v xs.length (xs.map (Value.int .i64))/\Below w.heap.size w w'
theorem Kj(l p s:Int)(A:Option Addr)(n c:Nat)(H:Option Addr)(m d:Nat)(t:Int)(xs:List In)(hs:List Int)(w:World)(Y:Inputs w A n xs)(Z:Ints w H m hs)(ok:Dz xs=true)(hm:m<=1000) :
 Calls Tryz.prog 60 #[CH l p s A n c H m d t] w (Ki w (repL ⟨l,p,s,xs,hs,t⟩)):=by
 have hl:=hid Y.1;have hk:=hid Z.1;have hn:n<=60:=by have:=(AO.1 ok).2; have:=Y.1; omega
 replace Y:=hid Y;replace Z:=hid Z;replace ok:=hid ok;have r0:CellsAt (w.alloc (.cells #[.int .i64 l,.int .i64 p,.int .i64 s,.slice A n c,.slice H m d,.int .i64 t] 26)) w.heap.size (AR l p s A n c H m d t):=CellsAt.new w _ _ _ rfl;have D:=r0.alloc (.cells #[.int .i64 l,.int .i64 p,.int .i64 s,.int .i64 n] 3);have B:=Ab (Ab (Ac w) (.cells #[.int .i64 l,.int .i64 p,.int .i64 s,.slice A n c,.slice H m d,.int .i64 t] 26)) (.cells #[.int .i64 l,.int .i64 p,.int .i64 s,.int .i64 n] 3)
 have O:((w.alloc (.cells #[.int .i64 l,.int .i64 p,.int .i64 s,.slice A n c,.slice H m d,.int .i64 t] 26)).alloc (.cells #[.int .i64 l,.int .i64 p,.int .i64 s,.int .i64 n] 3)).ownsRow (w.heap.size+1) 3 1 (.slice (some ⟨w.heap.size+1,0,none⟩) 4 4) (4+0) (([l,p,s,(n:Int)]++An (xs.take 0)).map (Value.int .i64)):=by
  have:=World.ownsRow_lit (base:=w.heap.size+1) (size:=1) (e:=3) (w.alloc (.cells #[.int .i64 l,.int .i64 p,.int .i64 s,.slice A n c,.slice H m d,.int .i64 t] 26)) #[.int .i64 l,.int .i64 p,.int .i64 s,.int .i64 n] 4 (by simp) (by unfold maxLen; omega) rfl;simpa[An] using this
 have r00:=r0.cell 0 _ rfl;have r01:=r0.cell 1 _ rfl;have r02:=r0.cell 2 _ rfl;have r03:=r0.cell 3 _ rfl;replace D:=hid D;replace B:=hid B;replace O:=hid O;clear r0;go_enter Tryz.func60,Tryz.ntmps60;go_wp2;clear r00 r01 r02 r03
 go_loopw [3,4] (Nz w n [l,p,s,(n:Int)] xs (AR l p s A n c H m d t)) (fun _ i _=>n-(RowKit.intOf i).toNat)
 case atStart=>exact⟨0,Nat.zero_le _,rfl,O.out,D.out,B.out⟩
 case round =>
  clear O D B;obtain⟨k,hk2,rfl,O,D,B⟩:=hrel;have c3:=D.cell 3 _ rfl;have c4:=D.cell 4 _ rfl;obtain⟨A1,ca,hv1,_⟩:=Ints.of_own O;subst hv1;by_cases hlt:k<n
  . obtain⟨b,off,rfl,hb,hc⟩:=Y.out.2 (by omega);obtain⟨d0,d1,d2⟩:=(hc k hlt).of (B.block b hb);have hkl:k<xs.length:=by have:=hl.out; omega
    have hv:=valid_at hkl ok.out;have en:=codes_next hkl;rw[show IZ (xs.getD k iz)=Jl (xs.getD k iz).s (xs.getD k iz).p (xs.getD k iz).z from rfl] at en;clear hc hkl;generalize xs.getD k iz=q at *;obtain⟨qs,qp,qz⟩:=q;dsimp only at d0 d1 d2 hv en;have C:=Fp qs qp qz;replace en:=hid en;replace O:=hid O;replace B:=hid B;replace hv:=hid hv;generalize Jl qs qp qz=cd at *;go_wp2_with fail;refine(C _ hv.out).mono ?_;rintro e w1 ⟨rfl,B1⟩;replace O:=hid (As O.out B1);replace D:=hid (D.step B1);replace B:=hid (Aa B.out B1);clear B1 c3 c4 d0 d1 d2 C hv;have hz:=B.out.size;have hz2:w.heap.size<w1.heap.size:=D.out.lt
    go_wp2_with (at_builtin; refine AP _ rfl (.tmp 22) (.tmp 29) rfl (w.heap.size+1) (Value.slice A1 (4+k) ca) (4+k) ([l,p,s,(n:Int)]++An (xs.take k)) rfl (O.out.alloc _) (some ⟨w1.heap.size,0,none⟩) 1 1 [cd] rfl (Ints.one w1 cd _) (by omega) (by simp; omega) ?_);intro v' w9 O9 G9 hB9;have B9:=(Ab B.out _).grown G9 (by simp; omega) (fun g' e=>by have:=(O.out.lt g' e).1; omega);have D9:=(D.out.alloc _).grown G9 (fun e=>by have:=(O.out.lt _ e).1; omega);have O9:=(show w9.ownsRow (w.heap.size+1) 3 1 v' (4+(k+1)) (([l,p,s,(n:Int)]++An (xs.take (k+1))).map (Value.int .i64)) from by
     rw[en.out]; simpa[Nat.add_assoc] using O9)
    replace O9:=hid O9;replace B9:=hid B9;replace D9:=hid D9;clear G9 O B D hB9;go_wp2
    go_roundw
    case rel=>exact⟨k+1,by omega,by go_num,O9.out,D9.out,B9.out⟩
    case measure=>simp[RowKit.intOf]; omega
  . obtain rfl:k=n:=by omega
    have hx:xs.take k=xs:=by rw[<- hl.out,List.take_length]
    rw[hx] at O;replace O:=hid O;replace B:=hid B;replace D:=hid D;have hz:=B.out.size;have hz2:=D.out.lt;clear hx;go_wp2_with (at_builtin; refine AP _ rfl (.tmp 31) (.tmp 33) rfl (w.heap.size+1) (Value.slice A1 (4+k) ca) (4+k) ([l,p,s,(k:Int)]++An xs) rfl O.out H m d hs rfl (Z.out.step B.out) (by omega) (by omega) ?_);intro v' w9 O9 G9 hB9;have B9:=B.out.grown G9 (by omega) (fun g' e=>by have:=(O.out.lt g' e).1; omega);have O9:=(show w9.ownsRow w.heap.size 3 1 v' (repL ⟨l,p,s,xs,hs,t⟩).length ((repL ⟨l,p,s,xs,hs,t⟩).map (Value.int .i64)) from by
     have e:(repL ⟨l,p,s,xs,hs,t⟩)=[l,p,s,(k:Int)]++An xs++hs:=by simp only[repL]; rw[hl.out]
     rw[e];have e2:([l,p,s,(k:Int)]++An xs++hs).length=4+k+m:=by simp[An,hl.out,hk.out]; omega
     rw[e2];exact Ds (base:=w.heap.size+1) (by simpa using O9) (by omega))
    replace O9:=hid O9;replace B9:=hid B9;clear G9 O B D hB9;go_wp2;go_ret;exact⟨_,rfl,O9.out,B9.out⟩
end Go.Proofs.YtgbiagonfbnooaaGreatDoor
