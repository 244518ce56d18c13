import Derived.Test.YtgghhedkephohaaZHpD
import Derived.Test.YtgghhedkephohaaZEnA
set_option linter.all false
set_option maxRecDepth 100000
set_option maxHeartbeats 8000000
open Go.Lib
namespace Go.Proofs.Ytgghhedkephohaa
open Go.RowKit
open M
theorem EB(A:Option Addr)(n cap:Nat)(xs:List En)(p s:Int)(w:World)(Y:Ents w A n xs)(hn:n<=1048576) :
 Calls Try.prog 20 #[.slice A n cap,.agg #[.int .i64 p,.int .i64 s]] w (Made w (.int .i64 (Am xs ⟨p,s⟩).2) (Am xs ⟨p,s⟩).1):=by
 have hl:=hid Y.1;have Y:=hid Y;have D:CellsAt (w.alloc (.cells #[.int .i64 p,.int .i64 s] 25)) w.heap.size [.int .i64 p,.int .i64 s]:=CellsAt.new w _ _ _ rfl;have B:=hid (Ad (Ac w) (.cells #[.int .i64 p,.int .i64 s] 25));have D:=hid D;have d0:=D.out.cell 0 _ rfl;have d1:=D.out.cell 1 _ rfl;cases hv:F4 xs
 . have E:=hid (show Am xs ⟨p,s⟩=([],3) by rw[Am,hv]; rfl);rw[E.out];replace hv:=hid hv;go_enter Try.func20,Try.ntmps20;go_wp2_with fail;refine(AL A n cap xs _ (Y.out.step B.out) (by omega)).mono ?_;rintro e w1 ⟨rfl,BB⟩;rw[hv.out];replace D:=hid (D.out.step BB);replace B:=hid (Aa B.out BB);have d0:=D.out.cell 0 _ rfl;have d1:=D.out.cell 1 _ rfl;clear BB;go_wp2
   go_ret2
   exact⟨_,rfl,Af (Ah w1 w1.heap.size _ rfl (Nat.le_refl _)) B.out.size,Ad B.out _⟩
 cases ho:AR ⟨p,s⟩
 . have E:=hid (show Am xs ⟨p,s⟩=([],3) by rw[Am,hv,ho]; rfl);rw[E.out];replace hv:=hid hv;replace ho:=hid ho;go_enter Try.func20,Try.ntmps20;go_wp2_with fail;refine(AL A n cap xs _ (Y.out.step B.out) (by omega)).mono ?_;rintro e w1 ⟨rfl,BB⟩;rw[hv.out];replace D:=hid (D.out.step BB);replace B:=hid (Aa B.out BB);have d0:=D.out.cell 0 _ rfl;have d1:=D.out.cell 1 _ rfl;clear BB;go_wp2_with fail;refine(A5 p s _).mono ?_;rintro e w1 ⟨rfl,BB⟩;rw[ho.out];replace D:=hid (D.out.step BB);replace B:=hid (Aa B.out BB);have d0:=D.out.cell 0 _ rfl;have d1:=D.out.cell 1 _ rfl;clear BB;go_wp2
   go_ret2
   exact⟨_,rfl,Af (Ah w1 w1.heap.size _ rfl (Nat.le_refl _)) B.out.size,Ad B.out _⟩
 have hbp:=Aw.1 hv;have hb4:=hbp.len;have hpw:=(hbp.wo p).pw;have hwl:(As xs p).length<=4:=Nat.le_trans (List.length_filter_le _ _) hb4;rw[hl.out] at hb4;have E1:=hid (show Am xs ⟨p,s⟩=if 0<=AG xs p/\(xs.getD (Aj xs p) ez).s<=s then (xs,1) else if 4<=Ax (As xs p) s then (xs,2) else (CO (As xs p++[⟨p,s⟩]),0) by rw[EZ hpw hwl,Ci hpw,Am,hv,ho]; rfl);obtain⟨P,hP⟩:∃ P:Prop,P=(0<=AG xs p/\(xs.getD (Aj xs p) ez).s<=s):=⟨_,rfl⟩;have hP1:=hP;replace hP:=hid hP;generalize Am xs ⟨p,s⟩=R at *;replace hv:=hid hv;replace ho:=hid ho;clear hbp hpw;go_enter Try.func20,Try.ntmps20;go_wp2_with fail
 refine(AL A n cap xs _ (Y.out.step B.out) (by omega)).mono ?_;rintro e w1 ⟨rfl,BB⟩;rw[hv.out];replace D:=hid (D.out.step BB);replace B:=hid (Aa B.out BB);have d0:=D.out.cell 0 _ rfl;have d1:=D.out.cell 1 _ rfl;clear BB;go_wp2_with fail;refine(A5 p s _).mono ?_;rintro e w1 ⟨rfl,BB⟩;rw[ho.out];replace D:=hid (D.out.step BB);replace B:=hid (Aa B.out BB);have d0:=D.out.cell 0 _ rfl;have d1:=D.out.cell 1 _ rfl;clear BB;have hB:=B.out.size;go_wp2_with fail;refine(EC A n cap xs p _ (Y.out.step B.out) (by omega)).mono ?_;rintro e w2 ⟨v,rfl,O,BB⟩;replace D:=hid (D.out.step BB);replace B:=hid (Aa B.out BB);replace O:=hid (Af O hB)
 have d0:=D.out.cell 0 _ rfl;have d1:=D.out.cell 1 _ rfl;clear BB hv ho;go_wp2_with fail;refine(AF A n cap xs p _ (Y.out.step B.out) (by omega)).mono ?_;rintro e w1 ⟨rfl,BB⟩;replace D:=hid (D.out.step BB);replace B:=hid (Aa B.out BB);replace O:=hid (Ak O.out BB);have d0:=D.out.cell 0 _ rfl;have d1:=D.out.cell 1 _ rfl;clear BB;go_upto_region 5 with fail
 go_cut [25] from 26 to 37 (fun v W=>∃ b:Bool,v=.bool b/\(b=true↔P)/\∃ m,w1.drewN m=W)
 case first =>
  by_cases h0:0<=AG xs p
  . obtain⟨hlt,he⟩:=Ep h0;rw[hl.out] at hlt;obtain⟨b,off,rfl,_,hc⟩:=(Y.out.step B.out).2 (by omega);have c1:=(hc (Aj xs p) hlt).c1;have g0:((Aj xs p:Int) != -1)=true:=bne_iff_ne.2 (by omega);have hP2:P↔(xs.getD (Aj xs p) ez).s<=s:=by rw[hP1]; simp[h0]
    rw[he] at *;replace he:=hid he;clear hc h0 hP1;generalize (xs.getD (Aj xs p) ez).s=z at *;generalize Aj xs p=K at *;have hk5:IntKind.i64.wrap (K:Int)=(K:Int):=IntWalk.i64_in _ (by omega);by_cases hzs:z<=s
    . have gz:decide (z<=s)=true:=decide_eq_true hzs;have hq:=hid (hP2.2 hzs);clear hP2;go_wp2_with fail
      go_quiet (fail)
      go_wp2_with fail
      go_meet
      case rel=>exact⟨true,rfl,⟨fun _=>hq.out,fun _=>rfl⟩,_,rfl⟩
    . have gz:decide (z<=s)=false:=decide_eq_false hzs;have hq:=hid (mt hP2.1 hzs);clear hP2;go_wp2_with fail
      go_quiet (fail)
      go_wp2_with fail
      go_meet
      case rel=>exact⟨false,rfl,⟨fun c=>absurd c (by simp),fun c=>absurd c hq.out⟩,_,rfl⟩
  . have he:=(Fl h0).1;have hq:=hid (show ¬ P from fun c=>h0 (by rw[hP1] at c; exact c.1));have g0:(AG xs p != -1)=false:=by rw[he]; rfl
    replace he:=hid he;clear hP1 h0;go_wp2_with fail
    go_quiet (fail)
    go_wp2_with fail
    go_meet
    case rel=>exact⟨false,rfl,⟨fun c=>absurd c (by simp),fun c=>absurd c hq.out⟩,_,rfl⟩
 obtain⟨b,rfl,hbi,m,rfl⟩:=hcut;replace D:=hid (D.out.step (Ai (Ac w1) m));replace O:=hid (Ak O.out (Ai (Ac w1) m));replace B:=hid (Ai B.out m);generalize w1.drewN m=w1 at *;have d0:=D.out.cell 0 _ rfl;have d1:=D.out.cell 1 _ rfl;cases b
 rotate_left
 . have E:=hid (show R=(xs,1) by rw[E1.out,if_pos]; rw[<- hP.out]; exact hbi.1 rfl);clear hbi hP1;have hB:=B.out.size;go_wp2_with fail;refine(CC A n cap xs _ (Y.out.step B.out) (by omega)).mono ?_;rintro e w9 ⟨v9,rfl,O9,B9⟩;have O9:=hid (Af O9 hB);have H9:=hid (Aa B.out B9);clear B9;go_wp2
   go_ret2
   rw[E.out];exact⟨_,rfl,O9.out,H9.out⟩
 have E:=hid (show R=if 4<=Ax (As xs p) s then (xs,2) else (CO (As xs p++[⟨p,s⟩]),0) by rw[E1.out,if_neg]; rw[<- hP.out]; intro c; exact absurd (hbi.2 c) (by simp));clear hbi hP1 E1 hP;generalize As xs p=rs at *;obtain⟨A2,c2,rfl,_,_⟩:=Ents.of_own O.out;go_wp2_with fail;refine(E3 A2 rs.length c2 rs s _ (by obtain⟨_,_,e,I,_⟩:=Ents.of_own O.out; cases e; exact I) (by omega)).mono ?_;rintro e w3 ⟨rfl,BB⟩;replace D:=hid (D.out.step BB);replace O:=hid (Ak O.out BB);replace B:=hid (Aa B.out BB);have d0:=D.out.cell 0 _ rfl;have d1:=D.out.cell 1 _ rfl;clear BB;by_cases h4:4<=Ax rs s
 . have E:=hid (show R=(xs,2) by rw[E.out,if_pos h4]);have g4:decide ((4:Int)<=(Ax rs s:Int))=true:=decide_eq_true (by omega);have g5:decide (4<=Ax rs s)=true:=decide_eq_true (by omega);have hB:=B.out.size;go_wp2_with fail;refine(CC A n cap xs _ (Y.out.step B.out) (by omega)).mono ?_;rintro e w9 ⟨v9,rfl,O9,B9⟩;have O9:=hid (Af O9 hB);have H9:=hid (Aa B.out B9);clear B9;go_wp2
   go_ret2
   rw[E.out];exact⟨_,rfl,O9.out,H9.out⟩
 have E:=hid (show R=(CO (rs++[⟨p,s⟩]),0) by rw[E.out,if_neg h4]);have g4:decide ((4:Int)<=(Ax rs s:Int))=false:=decide_eq_false (by omega);have g5:decide (4<=Ax rs s)=false:=decide_eq_false (by omega);have hB:=B.out.size;go_wp2_with (at_builtin; refine Al _ rfl (.tmp 48) (.tmp 50) rfl w.heap.size (.slice A2 rs.length c2) rs.length rs rfl (O.out.alloc _) _ 1 1 [⟨p,s⟩] rfl (Ents.one _ _ p s _ (by simp)) (by omega) (by simp; omega) ?_);intro v' w9 O9 G9 _;have H9:=hid ((Ad B.out _).grown G9 (by simp; omega) (fun g e=>(O.out.lt g e).1));clear G9 O;obtain⟨A3,c3,rfl,I3,_⟩:=Ents.of_own O9;have hB9:=H9.out.size;replace I3:=hid I3
 clear O9;go_wp2_with fail;refine(Do A3 (rs.length+1) c3 (rs++[⟨p,s⟩]) _ I3.out (by omega)).mono ?_;rintro e w10 ⟨v10,rfl,O10,B10⟩;have O10:=hid (Af O10 hB9);have H10:=hid (Aa H9.out B10);clear B10;go_wp2
 go_ret2
 rw[E.out];exact⟨_,rfl,O10.out,H10.out⟩
end Go.Proofs.Ytgghhedkephohaa
