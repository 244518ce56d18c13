import Derived.Test.YtgghhedkephohaaZEnP
import Derived.Test.YtgghhedkephohaaZEnV
set_option linter.all false
set_option maxRecDepth 100000
set_option maxHeartbeats 8000000
open Go.Lib
namespace Go.Proofs.Ytgghhedkephohaa
open Go.RowKit
open M
theorem M.ecnt_next{xs:List En}{k:Nat}{s:Int}(h:k<xs.length):Ax (xs.take (k+1)) s=if (xs.getD k ez).s<=s then Ax (xs.take k) s+1 else Ax (xs.take k) s:=by
 rw[List.take_succ_eq_append_getElem h,<- gd h,Ax,List.filter_append,List.length_append];by_cases e:(xs.getD k ez).s<=s
 . rw[if_pos e,List.filter_cons_of_pos (by simpa using e)]; simp[Ax]
 . rw[if_neg e,List.filter_cons_of_neg (by simpa using e)]; simp[Ax]
theorem M.ecnt_le(xs:List En)(s:Int):Ax xs s<=xs.length:=List.length_filter_le _ _
def Fq(w:World)(n:Nat)(xs:List En)(s:Int)(cv iv:Value)(W:World):Prop:=∃ k:Nat,k<=n/\iv=.int .i64 k/\cv=.int .i64 (Ax (xs.take k) s)/\Below w.heap.size w W
theorem E3(A:Option Addr)(n cap:Nat)(xs:List En)(s:Int)(w:World)(Y:Ents w A n xs)(hn:n<=281474976710656) :
 Calls Try.prog 49 #[.slice A n cap,.int .i64 s] w fun e w'=>e=.returned (.int .i64 (Ax xs s))/\Below w.heap.size w w':=by
 have hl:=hid Y.1;have Y:=hid Y;go_enter Try.func49,Try.ntmps49;go_wp2
 go_loopw [5,10] (Fq w n xs s) (fun _ i _=>n-(RowKit.intOf i).toNat)
 case atStart=>exact⟨0,Nat.zero_le _,rfl,rfl,Ac w⟩
 case round =>
  obtain⟨k,hk,rfl,rfl,B⟩:=hrel;have hcl:Ax (xs.take k) s<=k:=Nat.le_trans (ecnt_le _ _) (by simp; omega);by_cases hlt:k<n
  . obtain⟨b,off,rfl,hb,hc⟩:=(Y.out.step B).2 (by omega);obtain⟨c0,c1⟩:=hc k hlt;have hkl:k<xs.length:=by have:=hl.out; omega
    have en:=ecnt_next hkl (s:=s);clear hc;have B:=hid B;generalize xs.getD k ez=q at *;obtain⟨zp,zs⟩:=q;dsimp only at c0 c1 en;by_cases hp:zs<=s
    . rw[if_pos hp] at en;have hd:decide (zs<=s)=true:=decide_eq_true hp;have en:=hid en;generalize Ax (xs.take k) s=C at *;have hC:IntKind.i64.wrap ((C:Int)+1)=((C+1:Nat):Int):=by rw[IntWalk.i64_in _ (by omega)]; omega
      clear hp;go_wp2
      go_roundw
      case rel=>exact⟨k+1,by omega,by go_num,by rw[en.out]; go_num,Ad B.out _⟩
      case measure=>simp[RowKit.intOf]; omega
    . rw[if_neg hp] at en;have hd:decide (zs<=s)=false:=decide_eq_false hp;have en:=hid en;generalize Ax (xs.take k) s=C at *;clear hp;go_wp2
      go_roundw
      case rel=>exact⟨k+1,by omega,by go_num,by rw[en.out],Ad B.out _⟩
      case measure=>simp[RowKit.intOf]; omega
  . obtain rfl:k=n:=by omega
    have e:xs.take k=xs:=List.take_of_length_le (by have:=hl.out; omega);rw[e];have B:=hid B;go_wp2;go_ret;exact⟨rfl,B.out⟩
theorem AL(A:Option Addr)(n cap:Nat)(xs:List En)(w:World)(Y:Ents w A n xs)(hn:n<=281474976710656) :
 Calls Try.prog 23 #[.slice A n cap] w fun e w'=>e=.returned (.bool (F4 xs))/\Below w.heap.size w w':=by
 have hl:=hid Y.1;have Y:=hid Y;by_cases h4:4<n
 . have g4:decide ((4:Int)<(n:Int))=true:=decide_eq_true (by omega);have E:=hid (show F4 xs=false by rw[F4,decide_eq_false (show ¬ xs.length<=4 by have:=hl.out; omega),Bool.and_false]);go_enter Try.func23,Try.ntmps23;go_wp2;go_ret;exact⟨Av E.out.symm,Ac w⟩
 have g4:decide ((4:Int)<(n:Int))=false:=decide_eq_false (by omega);go_enter Try.func23,Try.ntmps23;go_wp2
 go_loopw [10] (Fh w n xs) (fun i _=>n-(RowKit.intOf i).toNat)
 case atStart=>exact⟨0,Nat.zero_le _,rfl,rfl,Ac w⟩
 case round =>
  obtain⟨k,hk,rfl,ha,B⟩:=hrel;by_cases hlt:k<n
  . obtain⟨b,off,hA,hb,hc⟩:=(Y.out.step B).2 (by omega);subst hA;obtain⟨z0,z1⟩:=hc k hlt;have hkl:k<xs.length:=by have:=hl.out; omega
    have hfu:=Cf (xs:=xs) (pl:=(xs.getD k ez).p) hkl rfl;have hfi:AG xs (xs.getD k ez).p=(Aj xs (xs.getD k ez).p:Int):=by rw[AG,if_pos (by omega)]
    have eb:=fun h=>Er hkl (h:Ek xs k=false);have et:=Ch xs k;rw[ha,Bool.true_and] at et;have ys1:=hid (show ∀ W:World,Below w.heap.size w W->W.cell? ⟨b,off+(k-1)*2+1,none⟩=some (.int .i64 (xs.getD (k-1) ez).s) from fun W hW=>by
     obtain⟨b',off',e',_,hc'⟩:=(Y.out.step hW).2 (by omega);cases e'
     exact(hc' (k-1) (by omega)).c1)
    have hbe:Ek xs k=(AR (xs.getD k ez)&&(decide (k=0)||decide ((xs.getD (k-1) ez).s<=(xs.getD k ez).s))&&decide (Aj xs (xs.getD k ez).p=k)):=rfl;rw[hbe] at eb et;generalize xs.getD k ez=q at *;obtain⟨zp,zs⟩:=q;dsimp only at z0 z1 hfu hfi eb et;generalize (xs.getD (k-1) ez).s=ys at *;have hfi:=hid hfi;have eb:=hid eb;have et:=hid et;clear hc ha hbe;have B:=hid B;have D:CellsAt (wr.alloc (.cells #[.int .i64 zp,.int .i64 zs] 25)) wr.heap.size [.int .i64 zp,.int .i64 zs]:=CellsAt.new wr _ _ _ rfl;have BA:=hid (Ad B.out (.cells #[.int .i64 zp,.int .i64 zs] 25));have D:=hid D;cases hv:AR ⟨zp,zs⟩
    . replace hv:=hid hv;clear et;go_wp2_with fail;refine(A5 zp zs _).mono ?_;rintro e w1 ⟨rfl,B1⟩;rw[hv.out];replace D:=hid (D.out.step B1);replace BA:=hid (Aa BA.out B1);have d0:=D.out.cell 0 _ rfl;have d1:=D.out.cell 1 _ rfl;clear B1 z0 z1;go_wp2;go_ret;exact⟨Av (eb.out (by rw[hv.out]; first | done | rfl)).symm,BA.out⟩
    replace hv:=hid hv;by_cases hf:Aj xs zp=k
    rotate_left
    . have hdf:=hid (show decide (Aj xs zp=k)=false from decide_eq_false hf);have hne:((Aj xs zp:Int) != (k:Int))=true:=by simp; omega
      have hne2:(Aj xs zp != k)=true:=by simp; omega
      clear et;go_wp2_with fail;refine(A5 zp zs _).mono ?_;rintro e w1 ⟨rfl,B1⟩;rw[hv.out];replace D:=hid (D.out.step B1);replace BA:=hid (Aa BA.out B1);have d0:=D.out.cell 0 _ rfl;have d1:=D.out.cell 1 _ rfl;clear B1 z0 z1;go_wp2_with fail;refine(AF _ n cap xs zp _ (Y.out.step BA.out) hn).mono ?_;rintro e w2 ⟨rfl,B2⟩;rw[hfi.out];replace D:=hid (D.out.step B2);replace BA:=hid (Aa BA.out B2);have d0:=D.out.cell 0 _ rfl;have d1:=D.out.cell 1 _ rfl;have y1:=ys1.out _ BA.out;clear B2;go_wp2;go_ret;exact⟨Av (eb.out (by rw[hdf.out,Bool.and_false])).symm,BA.out⟩
    have hdf:=hid (show decide (Aj xs zp=k)=true from decide_eq_true hf);have hne:((Aj xs zp:Int) != (k:Int))=false:=by simp; omega
    have hne2:(Aj xs zp != k)=false:=by simp; omega
    by_cases h0:k=0
    . have g0:decide ((0:Int)<(k:Int))=false:=decide_eq_false (by omega);have g1:decide (0<k)=false:=decide_eq_false (by omega);have g2:¬ 0<k:=by omega
      have et:=hid (show El xs (k+1)=true from et.out.trans (by rw[hv.out,hdf.out,decide_eq_true h0]; first | done | rfl));replace h0:=hid h0;replace hf:=hid hf;clear eb;go_wp2_with fail;refine(A5 zp zs _).mono ?_;rintro e w1 ⟨rfl,B1⟩;rw[hv.out];replace D:=hid (D.out.step B1);replace BA:=hid (Aa BA.out B1);have d0:=D.out.cell 0 _ rfl;have d1:=D.out.cell 1 _ rfl;clear B1 z0 z1;go_wp2_with fail;refine(AF _ n cap xs zp _ (Y.out.step BA.out) hn).mono ?_;rintro e w2 ⟨rfl,B2⟩;rw[hfi.out];replace D:=hid (D.out.step B2);replace BA:=hid (Aa BA.out B2);have d0:=D.out.cell 0 _ rfl;have d1:=D.out.cell 1 _ rfl;have y1:=ys1.out _ BA.out
      clear B2;go_wp2_with fail
      go_quiet (fail)
      go_wp2
      go_roundw
      case rel=>exact⟨k+1,by omega,by go_num,et.out,by first | with_reducible exact BA.out | with_reducible exact Ai BA.out _⟩
      case measure=>simp[RowKit.intOf]; omega
    have g0:decide ((0:Int)<(k:Int))=true:=decide_eq_true (by omega);have g1:decide (0<k)=true:=decide_eq_true (by omega);have g2:0<k:=by omega
    have hk1:IntKind.i64.wrap ((k:Int)-1)=((k-1:Nat):Int):=by rw[IntWalk.i64_in _ (by omega)]; omega
    have hk2:(k:Int)-1=((k-1:Nat):Int):=by omega
    have hk3:k-1<n:=by omega
    have hk5:IntKind.i64.wrap ((k-1:Nat):Int)=((k-1:Nat):Int):=IntWalk.i64_in _ (by omega);have d0k:=hid (show decide (k=0)=false from decide_eq_false h0);replace h0:=hid h0;replace hf:=hid hf;by_cases hd:ys<=zs
    . have hdg:decide (zs<ys)=false:=decide_eq_false (by omega);have et:=hid (show El xs (k+1)=true from et.out.trans (by rw[hv.out,hdf.out,decide_eq_true hd]; simp));clear eb hd;go_wp2_with fail;refine(A5 zp zs _).mono ?_;rintro e w1 ⟨rfl,B1⟩;rw[hv.out];replace D:=hid (D.out.step B1);replace BA:=hid (Aa BA.out B1);have d0:=D.out.cell 0 _ rfl;have d1:=D.out.cell 1 _ rfl;clear B1 z0 z1;go_wp2_with fail;refine(AF _ n cap xs zp _ (Y.out.step BA.out) hn).mono ?_;rintro e w2 ⟨rfl,B2⟩;rw[hfi.out];replace D:=hid (D.out.step B2);replace BA:=hid (Aa BA.out B2);have d0:=D.out.cell 0 _ rfl;have d1:=D.out.cell 1 _ rfl
      have y1:=ys1.out _ BA.out;clear B2;go_wp2_with fail
      go_quiet (fail)
      go_wp2
      go_roundw
      case rel=>exact⟨k+1,by omega,by go_num,et.out,by first | with_reducible exact BA.out | with_reducible exact Ai BA.out _⟩
      case measure=>simp[RowKit.intOf]; omega
    . have hdg:decide (zs<ys)=true:=decide_eq_true (by omega);have hdec:=hid (show decide (ys<=zs)=false from decide_eq_false hd);clear et hd;go_wp2_with fail;refine(A5 zp zs _).mono ?_;rintro e w1 ⟨rfl,B1⟩;rw[hv.out];replace D:=hid (D.out.step B1);replace BA:=hid (Aa BA.out B1);have d0:=D.out.cell 0 _ rfl;have d1:=D.out.cell 1 _ rfl;clear B1 z0 z1;go_wp2_with fail;refine(AF _ n cap xs zp _ (Y.out.step BA.out) hn).mono ?_;rintro e w2 ⟨rfl,B2⟩;rw[hfi.out];replace D:=hid (D.out.step B2);replace BA:=hid (Aa BA.out B2);have d0:=D.out.cell 0 _ rfl;have d1:=D.out.cell 1 _ rfl;have y1:=ys1.out _ BA.out;clear B2;go_wp2_with fail
      go_quiet (fail)
      go_wp2;go_ret;exact⟨Av (eb.out (by rw[hdec.out,d0k.out]; simp)).symm,by first | with_reducible exact BA.out | with_reducible exact Ai BA.out _⟩
  . obtain rfl:k=n:=by omega
    have B:=hid B;have E:=hid (show F4 xs=true by rw[F4,hl.out,ha,Bool.true_and]; exact decide_eq_true (by omega));clear ha;go_wp2;go_ret;exact⟨Av E.out.symm,B.out⟩
end Go.Proofs.Ytgghhedkephohaa
