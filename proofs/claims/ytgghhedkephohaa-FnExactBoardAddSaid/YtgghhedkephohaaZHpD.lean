import Derived.Test.YtgghhedkephohaaZHpC
import Derived.Test.YtgghhedkephohaaZEnQ
set_option linter.all false
set_option maxRecDepth 100000
set_option maxHeartbeats 8000000
open Go.Lib
namespace Go.Proofs.Ytgghhedkephohaa
open Go.RowKit
open M
theorem M.hpushes_snoc(cs:List Ct)(c:Ct):Ag AA (cs++[c])=AO AA (Ag AA cs) c:=by simp[Ag]
theorem M.hpushes_len(cs:List Ct):(Ag AA cs).length=cs.length:=by
 have g:∀(cs ds:List Ct),(cs.foldl (AO AA) ds).length=ds.length+cs.length:=fun cs=>by
  induction cs with
  | nil=>intro ds; rfl
  | cons a cs ih=>intro ds; rw[List.foldl_cons,ih,D4]; simp; omega
 have t:=g cs [];simpa[Ag] using t
theorem De{W W':World}{base:Nat}{e:TypeId}{sz:Nat}{v:Value}{n:Nat}{xs:List Value}(h:W.ownsRow base e sz v n xs)(hs:∀ q,v.ownBlock=some q->W'.heap[q]?=W.heap[q]?):W'.ownsRow base e sz v n xs :=
 ⟨h.1,h.2.imp id (fun⟨g,cap,cur,e1,hg,hh,r⟩=>⟨g,cap,cur,e1,hg,(hs g (by rw[e1]; rfl)).trans hh,r⟩)⟩
def Fi:Value->Nat
 | .slice _ n _=>n
 | _=>0
def FH(lo n:Nat)(w:World)(xs:List En)(iv:Value)(W:World):Prop :=
 ∃ k:Nat,k<=n/\iv=.int .i64 k/\Hp lo lo (Ag AA (AY 0 (xs.take k))) W/\Below lo w W
def Fj(lo lo2:Nat)(w:World)(res:List En)(bv:Value)(W:World):Prop :=
 ∃(cs:List Ct) (ys:List En) (v:Value),W.ownsRow lo2 25 2 bv ys.length (AM ys)/\(CellsAt W lo [v]/\W.ownsRow lo 66 3 v cs.length (AS cs)/\(∀ q,v.ownBlock=some q->q<lo2/\q≠lo))/\(lo<lo2/\lo2<=W.heap.size)/\ys++(AH AA (4-ys.length) cs).map Ct.e=res/\(ys.length<=4/\cs.length<=5)/\Below lo w W
theorem Do(A:Option Addr)(n cap:Nat)(xs:List En)(w:World)(Y:Ents w A n xs)(hn:n<=5) :
 Calls Try.prog 50 #[.slice A n cap] w fun e w'=>∃ v,e=.returned v/\w'.ownsRow w.heap.size 25 2 v (CO xs).length (AM (CO xs))/\Below w.heap.size w w':=by
 have hl:=hid Y.1;have Y:=hid Y;have H0:Hp w.heap.size w.heap.size (Ag AA (AY 0 (xs.take 0))) (w.alloc (.cells #[.slice none 0 0] 62)) :=
  ⟨.slice none 0 0,CellsAt.new w _ _ _ rfl,⟨rfl,.inl ⟨rfl,rfl⟩⟩,(fun e=>by cases e),Nat.le_refl _⟩
 have B0:=Ad (Ac w) (.cells #[.slice none 0 0] 62);go_enter Try.func50,Try.ntmps50;go_wp2
 go_loopw [9] (FH w.heap.size n w xs) (fun i _=>n-(RowKit.intOf i).toNat)
 case atStart=>exact⟨0,Nat.zero_le _,rfl,H0,B0⟩
 case round =>
  clear H0 B0;obtain⟨k,hk,rfl,H,B⟩:=hrel;have hlr:=B.size;by_cases hlt:k<n
  . obtain⟨b,off,rfl,hb,hc⟩:=(Y.out.step B).2 (by omega);obtain⟨c0,c1⟩:=hc k hlt;have hkl:k<xs.length:=by have:=hl.out; omega
    have et:Ag AA (AY 0 (xs.take (k+1)))=AO AA (Ag AA (AY 0 (xs.take k))) ⟨(xs.getD k ez).p,(xs.getD k ez).s,k⟩:=by
     rw[List.take_succ_eq_append_getElem hkl,<- gd hkl,CP,hpushes_snoc];congr 2;simp; omega
    have hcl:(Ag AA (AY 0 (xs.take k))).length<=50:=by rw[hpushes_len,BG,List.length_take]; omega
    generalize Ag AA (AY 0 (xs.take k))=cs at *;generalize xs.getD k ez=q at *;obtain⟨zp,zs⟩:=q;dsimp only at c0 c1 et;have et:=hid et;have H:=hid (H.below (Ad (Ac wr) (.cells #[.int .i64 zp,.int .i64 zs] 25)));have B:=hid (Ad B (.cells #[.int .i64 zp,.int .i64 zs] 25));clear hc;go_wp2_with fail;refine(EN w.heap.size w.heap.size cs zp zs k _ H.out (by simp; omega) hcl).mono ?_;rintro e w1 ⟨rfl,H1,B1⟩;have B:=hid (AX B.out B1);rw[<- et.out] at H1;have H1:=hid H1;clear H B1;go_wp2
    go_roundw
    case rel=>exact⟨k+1,by omega,by go_num,H1.out,B.out⟩
    case measure=>simp[RowKit.intOf]; omega
  . obtain rfl:k=n:=by omega
    have e:xs.take k=xs:=List.take_of_length_le (by have:=hl.out; omega);rw[e] at H;obtain⟨v,D,O,hv,_⟩:=H;have hvl:∀ q,v.ownBlock=some q->q<wr.heap.size/\q≠w.heap.size:=fun q e=>⟨(O.lt q e).2,fun h=>hv (h▸e)⟩;have hDl:=D.lt;have hc5:(Ag AA (AY 0 xs)).length<=5:=by rw[hpushes_len,BG,hl.out]; omega
    have R0:=hid (show Fj w.heap.size wr.heap.size w (CO xs) (.slice none 0 0) wr from⟨Ag AA (AY 0 xs),[],v,⟨rfl,.inl ⟨rfl,rfl⟩⟩,⟨D,O,hvl⟩,⟨hDl,Nat.le_refl _⟩,rfl,⟨by simp,hc5⟩,B⟩);clear D O hvl B;obtain⟨res,hR⟩:∃ res,CO xs=res:=⟨_,rfl⟩;rw[hR] at R0;replace hR:=hid hR;obtain⟨lo2,hlo2⟩:∃ lo2,wr.heap.size=lo2:=⟨_,rfl⟩;rw[hlo2] at R0;go_wp2
    go_loopw [6] (Fj w.heap.size lo2 w res) (fun b _=>4-Fi b)
    case atStart=>exact R0.out
    case round =>
     clear R0;clear hlo2 hDl;obtain⟨cs,ys,v,OB,⟨D,O,hvl⟩,⟨hl1,hl2⟩,hres,⟨hy,hc5'⟩,B⟩:=hrel;obtain⟨A2,c2,rfl,I,_⟩:=Conts.of_own O;obtain⟨A3,c3,rfl,_,_⟩:=Ents.of_own OB;have c0:=D.cell 0 _ rfl;by_cases h0:cs.length=0
     . have g0:decide ((0:Int)<(cs.length:Int))=false:=decide_eq_false (by omega);have g1:decide (0<cs.length)=false:=decide_eq_false (by omega);obtain rfl:cs=[]:=List.eq_nil_of_length_eq_zero h0;have hr:ys=res:=by rw[<- hres]; cases 4-ys.length<;>simp[AH]
       subst hr;have OB:=hid (Af OB (show w.heap.size<=lo2 by omega));have B:=hid B;clear D O hres I;go_wp2;go_ret;exact⟨_,rfl,by rw[hR.out]; exact OB.out,B.out⟩
     have g0:decide ((0:Int)<(cs.length:Int))=true:=decide_eq_true (by omega);have g1:decide (0<cs.length)=true:=decide_eq_true (by omega);by_cases h4:ys.length=4
     . have g2:decide ((ys.length:Int)<4)=false:=decide_eq_false (by omega);have g3:decide (ys.length<4)=false:=decide_eq_false (by omega);have hr:ys=res:=by rw[<- hres,h4]; simp[AH]
       subst hr;have OB:=hid (Af OB (show w.heap.size<=lo2 by omega));have B:=hid B;replace h4:=hid h4;clear D O hres I;go_wp2;go_ret;exact⟨_,rfl,by rw[hR.out]; exact OB.out,B.out⟩
     have g2:decide ((ys.length:Int)<4)=true:=decide_eq_true (by omega);have g3:decide (ys.length<4)=true:=decide_eq_true (by omega);obtain⟨a,rest,rfl⟩:∃ a rest,cs=a::rest:=by
      cases cs with
      | nil=>exact absurd rfl h0
      | cons a rest=>exact⟨a,rest,rfl⟩
     have hres2:ys++[a.e]++(AH AA (4-(ys.length+1)) (Ca AA (a::rest))).map Ct.e=res:=by
      rw[<- hres,show 4-ys.length=4-(ys.length+1)+1 by omega,AH]; simp
     have hpl:(Ca AA (a::rest)).length<=5:=by rw[Eu]; omega
     obtain⟨b,off,e2,hb2,hcs⟩:=I.2 (by omega);have k1:=hcs 0 (by omega);obtain⟨g,rfl⟩:∃ g,A2=some ⟨g,0,none⟩:=by
      rcases O.2 with⟨e,h⟩ | ⟨g,cap',cur,e,_⟩
      . exact absurd h h0
      . cases e; exact⟨g,rfl⟩
     injection e2 with e2;injection e2 with e3 e4 _;subst e3;subst e4;obtain⟨hgl,hgn⟩:=hvl g rfl;have a0:wr.cell? ⟨g,0,none⟩=some (.int .i64 a.p):=by have:=k1.c0; simpa using this
     have a1:wr.cell? ⟨g,1,none⟩=some (.int .i64 a.s):=by have:=k1.c1; simpa using this
     have ae:a.e=⟨a.p,a.s⟩:=rfl;rw[ae] at hres2;have hres2:=hid hres2;have O:=hid O;have D:=hid D;have B:=hid B;have OB:=hid OB;have hcl:=hid hc5';generalize hgp:a.p=ap at *;generalize hgs:a.s=az at *;replace hgp:=hid hgp;replace hgs:=hid hgs;generalize hCL:(a::rest).length=CL at *;have hCp:0<CL:=by rw[<- hCL]; simp
     have hCp2:(0:Int)<(CL:Int):=by omega
     replace hCL:=hid hCL;clear k1 hcs I hres h0;go_wp2_with (at_builtin; refine Al _ rfl (.tmp 29) (.tmp 34) rfl lo2 _ ys.length ys rfl (OB.out.alloc _) _ 1 1 [⟨ap,az⟩] rfl (Ents.one _ _ ap az _ (by simp)) (by omega) (by simp; omega) ?_);intro v' w9 O9 G9 hown;have D9:=(D.out.alloc (.cells #[.int .i64 ap,.int .i64 az] 25)).grown G9 (fun e=>by have:=(OB.out.lt _ e).1; omega);have OC9:=De (O.out.alloc (.cells #[.int .i64 ap,.int .i64 az] 25)) (fun q e=>by
      have hq:g=q:=Option.some.inj e;refine G9.block q (by rw[<- hq]; simp; omega) (fun e2=>?_);have:=(OB.out.lt q e2.symm).1;omega)
     have H9:Hg w.heap.size w.heap.size g (a::rest) w9:=⟨c2,by rw[hCL.out]; exact D9,by rw[hCL.out]; exact OC9,hgn,Nat.le_refl _⟩;have B9:Below w.heap.size w w9:=(Ad B.out _).grown G9 (by simp; omega) (fun q e=>by have:=(OB.out.lt q e).1; omega);have hs9:=G9.size;obtain⟨A4,c4,rfl,_,_⟩:=Ents.of_own O9;have h50:(a::rest).length<=50:=by rw[hCL.out]; omega
     have h1:0<(a::rest).length:=by simp
     have hlg:=H9.lt.1;replace O9:=hid O9;replace H9:=hid H9;replace B9:=hid B9;clear D9 OC9 G9 hown D O B OB a0 a1 c0;go_wp2_with fail;refine(heapPop w.heap.size w.heap.size g (a::rest) _ H9.out h1 h50).mono ?_;rintro e w10 ⟨⟨r,rfl⟩,⟨c',D',O',_,_⟩,F⟩;have O10:=hid (show w10.ownsRow lo2 25 2 (.slice A4 (ys.length+1) c4) (ys++[(⟨ap,az⟩:En)]).length (AM (ys++[⟨ap,az⟩])) from by
      rw[List.length_append];exact De O9.out (fun q e=>F.block q (O9.out.lt q e).2 (by have:=(O9.out.lt q e).1; omega) (by have:=(O9.out.lt q e).1; omega)))
     have B10:=hid (AX B9.out (F.below B9.out.size (Nat.le_refl _) hlg));have hs10:=F.size;replace D':=hid D';replace O':=hid O';have hs11:lo2<=w10.heap.size:=by simp at hs9; omega
     clear F O9 H9 B9;go_wp2
     go_roundw
     case rel=>exact⟨Ca AA (a::rest),ys++[⟨ap,az⟩],_,O10.out,⟨D'.out,O'.out,fun q e=>by cases e; exact⟨hgl,hgn⟩⟩,⟨hl1,hs11⟩,by rw[List.length_append]; exact hres2.out,⟨by simp; omega,hpl⟩,B10.out⟩
     case measure=>simp[Fi]; omega
end Go.Proofs.Ytgghhedkephohaa
