import Derived.Test.YtgghhedkephohaaZHpB
set_option linter.all false
set_option maxRecDepth 100000
set_option maxHeartbeats 8000000
open Go.Lib
namespace Go.Proofs.Ytgghhedkephohaa
open Go.RowKit
open M
theorem Hp.open{lo hb:Nat}{cs:List Ct}{W:World}(H:Hp lo hb cs W)(h0:0<cs.length):∃ g c,W.cell? ⟨hb,0,none⟩=some (.slice (some ⟨g,0,none⟩) cs.length c)/\W.ownsRow lo 66 3 (.slice (some ⟨g,0,none⟩) cs.length c) cs.length (AS cs)/\Conts W (some ⟨g,0,none⟩) cs.length cs/\g≠hb/\lo<=g/\CellsAt W hb [.slice (some ⟨g,0,none⟩) cs.length c]/\lo<=hb:=by
 obtain⟨v,D,O,hv,hlo⟩:=H;rcases O.2 with⟨rfl,h⟩ | ⟨g,c,cur,rfl,hg,_⟩
 . omega
 . obtain⟨_,_,e,I,_⟩:=Conts.of_own O;cases e
   exact⟨g,c,D.cell 0 _ rfl,O,I,fun e=>hv (by rw[e]; rfl),hg,D,hlo⟩
theorem Hp.cell{lo hb:Nat}{cs:List Ct}{W:World}(H:Hp lo hb cs W):∃ A c,W.cell? ⟨hb,0,none⟩=some (.slice A cs.length c):=by
 obtain⟨v,D,O,_⟩:=H;obtain⟨A,c,rfl,_,_⟩:=Conts.of_own O;exact⟨A,c,D.cell 0 _ rfl⟩
theorem Hp.below{lo hb:Nat}{cs:List Ct}{W W':World}(H:Hp lo hb cs W)(B:Below W.heap.size W W'):Hp lo hb cs W':=by
 obtain⟨v,D,O,hv,hlo⟩:=H;exact⟨v,D.step B,Ak O B,hv,hlo⟩
theorem Hp.swapped{lo hb g c:Nat}{cs ds:List Ct}{W W':World}(D:CellsAt W hb [.slice (some ⟨g,0,none⟩) cs.length c])(hg:g≠hb)(hlo:lo<=hb)(hl:ds.length=cs.length)(O:W'.ownsRow lo 66 3 (.slice (some ⟨g,0,none⟩) cs.length c) cs.length (AS ds))(K:Kept g W W'):Hp lo hb ds W' :=
 ⟨_,D.kept K (fun e=>hg e.symm),by rw[hl]; exact O,fun e=>hg (Option.some.inj e),hlo⟩
theorem Hg.open{lo hb g:Nat}{cs:List Ct}{W:World}(H:Hg lo hb g cs W):∃ c,W.cell? ⟨hb,0,none⟩=some (.slice (some ⟨g,0,none⟩) cs.length c)/\W.ownsRow lo 66 3 (.slice (some ⟨g,0,none⟩) cs.length c) cs.length (AS cs)/\Conts W (some ⟨g,0,none⟩) cs.length cs/\g≠hb/\CellsAt W hb [.slice (some ⟨g,0,none⟩) cs.length c]/\lo<=hb:=by
 obtain⟨c,D,O,hg,hlo⟩:=H;obtain⟨_,_,e,I,_⟩:=Conts.of_own O;cases e
 exact⟨c,D.cell 0 _ rfl,O,I,hg,D,hlo⟩
theorem Hg.below{lo hb g:Nat}{cs:List Ct}{W W':World}(H:Hg lo hb g cs W)(B:Below W.heap.size W W'):Hg lo hb g cs W':=by
 obtain⟨c,D,O,hg,hlo⟩:=H;exact⟨c,D.step B,Ak O B,hg,hlo⟩
theorem Hg.swapped{lo hb g c:Nat}{cs ds:List Ct}{W W':World}(D:CellsAt W hb [.slice (some ⟨g,0,none⟩) cs.length c])(hg:g≠hb)(hlo:lo<=hb)(hl:ds.length=cs.length)(O:W'.ownsRow lo 66 3 (.slice (some ⟨g,0,none⟩) cs.length c) cs.length (AS ds))(K:Kept g W W'):Hg lo hb g ds W' :=
 ⟨c,by rw[hl]; exact D.kept K (fun e=>hg e.symm),by rw[hl]; exact O,hg,hlo⟩
theorem EL{lo g:Nat}{W W':World}(K:Kept g W W')(hW:lo<=W.heap.size)(hg:lo<=g):Below lo W W':=(Below.refl lo W).trans (K.below hW hg)
theorem Ef{lo:Nat}{W W':World}(B:Below W.heap.size W W')(hW:lo<=W.heap.size):Below lo W W':=B.mono hW
def FF(lo hb:Nat)(w:World)(n:Nat)(res:List Ct)(jv:Value)(W:World):Prop :=
 ∃(f j:Nat) (cs:List Ct),jv=.int .i64 j/\j<f/\j<n/\cs.length=n/\Em AA f cs j=res/\Hp lo hb cs W/\Below lo w W
theorem Fu(lo hb:Nat)(cs:List Ct)(j:Nat)(w:World)(H:Hp lo hb cs w)(hlw:lo<=w.heap.size)(hj:j<cs.length)(hn:cs.length<=100) :
 Calls Try.prog 60 #[.iface 64 (.pointer (some ⟨hb,0,none⟩)),.int .i64 j] w fun e w'=>e=.returned (.tuple #[])/\Hp lo hb (Em AA (j+1) cs j) w'/\Below lo w w':=by
 obtain⟨n,hN⟩:∃ n,cs.length=n:=⟨_,rfl⟩;rw[hN] at hj hn;obtain⟨res,hres⟩:∃ res,Em AA (j+1) cs j=res:=⟨_,rfl⟩;rw[hres];go_enter Try.func60,Try.ntmps60;go_wp2
 go_loopw [1] (FF lo hb w n res) (fun j _=>(RowKit.intOf j).toNat)
 case atStart=>exact⟨j+1,j,cs,rfl,by omega,hj,hN,hres,H,Below.refl lo w⟩
 case round =>
  clear H hres hN;obtain⟨f,j,cs,rfl,hjf,hjn,hN,hres,H,B⟩:=hrel;have hlr:lo<=wr.heap.size:=Nat.le_trans hlw B.size;obtain⟨f,rfl⟩:∃ f',f=f'+1:=⟨f-1,by omega⟩;unfold Em at hres;by_cases h0:j=0
  . subst h0;rw[if_pos (by decide)] at hres;subst hres;have H:=hid H;have B:=hid B;go_wp2
    try simp only[Exit.inBlock,Exit.then]
    refine bodyPost_end (results_none rfl _ _ _) rfl ?_;exact⟨rfl,H.out,B.out⟩
  rw[if_neg (by omega)] at hres;obtain⟨i,hi⟩:∃ i,(j-1) / 2=i:=⟨_,rfl⟩;rw[hi] at hres;have hij:i<j:=by omega
  have hq1:IntKind.i64.wrap ((j:Int)-1)=((j-1:Nat):Int):=by rw[IntWalk.i64_in _ (by omega)]; omega
  have hq2:(j:Int)-1=((j-1:Nat):Int):=by omega
  have hq3:IntKind.i64.wrap ((j-1:Nat):Int)=((j-1:Nat):Int):=IntWalk.i64_in _ (by omega);have hq4:Int.tdiv ((j-1:Nat):Int) 2=(i:Int):=by rw[Int.tdiv_eq_ediv_of_nonneg (by omega)]; omega
  have hq5:((j-1:Nat):Int) / 2=(i:Int):=by omega
  have hq6:IntKind.i64.wrap (i:Int)=(i:Int):=IntWalk.i64_in _ (by omega);have hq7:((i:Int)==(j:Int))=false:=by simp; omega
  have hq8:(i==j)=false:=by simp; omega
  have hq9:¬ (i:Int)=(j:Int):=by omega
  obtain⟨g,c,c0,O,I,hgb,hlg,D,hlo⟩:=H.open (by omega);rw[hN] at c0 O I;have hres:=hid hres;have B:=hid B;have H:=hid H;have O:=hid O;have I:=hid I;have D:=hid D;clear h0;go_wp2_with fail;rw[Bh (by decide) c0];simp only[Result.andThen_ok];rw[Bi,Oper.upon_enter];refine(Bf _ n c cs j i _ I.out hjn (by omega) (by omega)).mono ?_;rintro e w1 ⟨rfl,B1⟩;replace O:=hid (Ak O.out B1);replace D:=hid (D.out.step B1);replace H:=hid (H.out.below B1);have hlr1:=Nat.le_trans hlr B1.size;replace B:=hid (AX B.out (Ef B1 hlr));have c1:=D.out.cell 0 _ rfl;rw[hN] at c1;clear B1 I c0;cases hls:Ds AA cs j i
  . replace hres:=hres.out;rw[hls,if_neg (by simp)] at hres;subst hres;go_wp2
    try simp only[Exit.inBlock,Exit.then]
    refine bodyPost_end (results_none rfl _ _ _) rfl ?_;exact⟨rfl,H.out,B.out⟩
  replace hres:=hres.out;rw[hls,if_pos rfl] at hres;replace hres:=hid hres;replace hls:=hid hls;go_wp2_with fail;rw[Bj (by decide) c1];simp only[Result.andThen_ok];rw[Bl,Oper.upon_enter];refine(Bg lo g n c cs i j _ O.out (by omega) hjn (by omega)).mono ?_;rintro e w1 ⟨rfl,O2,K2⟩;have H2:=hid (Hp.swapped D.out hgb hlo (Aq cs i j) (by rw[hN]; exact O2) K2);have B2:=hid (AX B.out (EL K2 hlr1 hlg));clear O2 K2 c1;go_wp2
  go_roundw
  case rel=>exact⟨f,i,swp cs i j,rfl,by omega,by omega,by rw[Aq]; exact hN,hres.out,H2.out,B2.out⟩
  case measure=>simp[RowKit.intOf]; omega
def FG(lo hb g:Nat)(w:World)(n m:Nat)(res:List Ct)(iv:Value)(W:World):Prop :=
 ∃(f i:Nat) (cs:List Ct),iv=.int .i64 i/\(n<=f+i/\i<m)/\cs.length=m/\Dt AA f cs i n=res/\Hg lo hb g cs W/\Fg hb g w W
theorem EM(lo hb g:Nat)(cs:List Ct)(n:Nat)(w:World)(H:Hg lo hb g cs w)(hm:n<cs.length)(hn:cs.length<=100) :
 Calls Try.prog 61 #[.iface 64 (.pointer (some ⟨hb,0,none⟩)),.int .i64 0,.int .i64 n] w fun e w'=>(∃ r,e=.returned r)/\Hg lo hb g (Dt AA cs.length cs 0 n) w'/\Fg hb g w w':=by
 obtain⟨m,hN⟩:∃ m,cs.length=m:=⟨_,rfl⟩;obtain⟨res,hres⟩:∃ res,Dt AA cs.length cs 0 n=res:=⟨_,rfl⟩;rw[hres];rw[hN] at hm hn hres;go_enter Try.func61,Try.ntmps61;go_wp2
 go_loopw [7] (FG lo hb g w n m res) (fun i _=>n-(RowKit.intOf i).toNat)
 case atStart=>exact⟨m,0,cs,rfl,⟨by omega,by omega⟩,hN,hres,H,Fg.refl hb g w⟩
 case round =>
  clear H hres hN;obtain⟨f,i,cs,rfl,⟨hf,him⟩,hN,hres,H,B⟩:=hrel;obtain⟨j1,hj1⟩:∃ j1,2*i+1=j1:=⟨_,rfl⟩;have q1:IntKind.i64.wrap (2*(i:Int))=2*(i:Int):=IntWalk.i64_in _ (by omega);have q2:2*(i:Int)+1=(j1:Int):=by omega
  have q3:IntKind.i64.wrap (j1:Int)=(j1:Int):=IntWalk.i64_in _ (by omega);obtain⟨j2,hj2⟩:∃ j2,j1+1=j2:=⟨_,rfl⟩;have q4:(j1:Int)+1=(j2:Int):=by omega
  have q5:IntKind.i64.wrap (j2:Int)=(j2:Int):=IntWalk.i64_in _ (by omega);have q6:decide ((j1:Int)<0)=false:=decide_eq_false (by omega);have q7:¬ (j1:Int)<0:=by omega
  by_cases h1:n<=j1
  . have g1:decide ((n:Int)<=(j1:Int))=true:=decide_eq_true (by omega);have g2:decide (n<=j1)=true:=decide_eq_true h1;have hr:cs=res:=by
     cases f with
     | zero=>exact hres
     | succ f=>unfold Dt at hres; rw[if_pos (by omega)] at hres; exact hres
    subst hr;have H:=hid H;have B:=hid B;clear hres;go_wp2;go_ret;exact⟨⟨_,rfl⟩,H.out,B.out⟩
  have g1:decide ((n:Int)<=(j1:Int))=false:=decide_eq_false (by omega);have g2:decide (n<=j1)=false:=decide_eq_false h1;obtain⟨f,rfl⟩:∃ f',f=f'+1:=⟨f-1,by omega⟩;unfold Dt at hres;rw[if_neg (by omega)] at hres;obtain⟨c,c0,O,I,hgb,D,hlo⟩:=H.open;rw[hN] at c0 O I;have hres:=hid hres;have B:=hid B;have H:=hid H;have O:=hid O;have I:=hid I;have D:=hid D;by_cases h2:j2<n
  . have g3:decide ((j2:Int)<(n:Int))=true:=decide_eq_true (by omega);have g4:decide (j2<n)=true:=decide_eq_true h2;go_wp2_with fail;rw[Bh (by decide) c0];simp only[Result.andThen_ok];rw[Bi,Oper.upon_enter];refine(Bf _ m c cs j2 j1 _ I.out (by omega) (by omega) (by omega)).mono ?_;rintro e w1 ⟨rfl,B1⟩;replace O:=hid (Ak O.out B1);replace I:=hid (I.out.step B1);replace D:=hid (D.out.step B1);replace H:=hid (H.out.below B1);replace B:=hid (B.out.trans (Fg.of_below B1));replace c0:=D.out.cell 0 _ rfl;rw[hN] at c0;clear B1;cases hls0:Ds AA cs j2 j1
    . have hkid:Et AA cs i n=j1:=by unfold Et; rw[if_neg,hj1]; rintro⟨_,c⟩; rw[show 2*i+2=j2 by omega,hj1,hls0] at c; cases c
      replace hls0:=hid hls0;go_wp2_with fail;rw[Bh (by decide) c0];simp only[Result.andThen_ok];rw[Bi,Oper.upon_enter];refine(Bf _ m c cs (j1) i _ I.out (by omega) (by omega) (by omega)).mono ?_;rintro e w1 ⟨rfl,B1⟩;replace O:=hid (Ak O.out B1);replace I:=hid (I.out.step B1);replace D:=hid (D.out.step B1);replace H:=hid (H.out.below B1);replace B:=hid (B.out.trans (Fg.of_below B1));replace c0:=D.out.cell 0 _ rfl;rw[hN] at c0;clear B1;cases hls:Ds AA cs (j1) i
      . replace hres:=hres.out;rw[hkid,hls,if_neg (by simp)] at hres;subst hres;go_wp2;go_ret;exact⟨⟨_,rfl⟩,H.out,B.out⟩
      replace hres:=hres.out;rw[hkid,hls,if_pos rfl] at hres;replace hres:=hid hres;replace hls:=hid hls;replace hkid:=hid hkid;go_wp2_with fail;rw[Bj (by decide) c0];simp only[Result.andThen_ok];rw[Bl,Oper.upon_enter];refine(Bg lo g m c cs i (j1) _ O.out (by omega) (by omega) (by omega)).mono ?_;rintro e w1 ⟨rfl,O2,K2⟩;have H2:=hid (Hg.swapped D.out hgb hlo (Aq cs i (j1)) (by rw[hN]; exact O2) K2);have B2:=hid (B.out.trans (Fg.of_kept K2));clear O2 K2 c0;go_wp2
      go_roundw
      case rel=>exact⟨f,j1,swp cs i (j1),rfl,by omega,by rw[Aq]; exact hN,hres.out,H2.out,B2.out⟩
      case measure=>simp[RowKit.intOf]; omega
    . have hkid:Et AA cs i n=j2:=(if_pos ⟨by omega,by rw[show 2*i+2=j2 by omega,hj1,hls0]⟩).trans (by omega);replace hls0:=hid hls0;go_wp2_with fail;rw[Bh (by decide) c0];simp only[Result.andThen_ok];rw[Bi,Oper.upon_enter];refine(Bf _ m c cs (j2) i _ I.out (by omega) (by omega) (by omega)).mono ?_;rintro e w1 ⟨rfl,B1⟩;replace O:=hid (Ak O.out B1);replace I:=hid (I.out.step B1);replace D:=hid (D.out.step B1);replace H:=hid (H.out.below B1);replace B:=hid (B.out.trans (Fg.of_below B1));replace c0:=D.out.cell 0 _ rfl;rw[hN] at c0;clear B1;cases hls:Ds AA cs (j2) i
      . replace hres:=hres.out;rw[hkid,hls,if_neg (by simp)] at hres;subst hres;go_wp2;go_ret;exact⟨⟨_,rfl⟩,H.out,B.out⟩
      replace hres:=hres.out;rw[hkid,hls,if_pos rfl] at hres;replace hres:=hid hres;replace hls:=hid hls;replace hkid:=hid hkid;go_wp2_with fail;rw[Bj (by decide) c0];simp only[Result.andThen_ok];rw[Bl,Oper.upon_enter];refine(Bg lo g m c cs i (j2) _ O.out (by omega) (by omega) (by omega)).mono ?_;rintro e w1 ⟨rfl,O2,K2⟩;have H2:=hid (Hg.swapped D.out hgb hlo (Aq cs i (j2)) (by rw[hN]; exact O2) K2);have B2:=hid (B.out.trans (Fg.of_kept K2));clear O2 K2 c0;go_wp2
      go_roundw
      case rel=>exact⟨f,j2,swp cs i (j2),rfl,by omega,by rw[Aq]; exact hN,hres.out,H2.out,B2.out⟩
      case measure=>simp[RowKit.intOf]; omega
  . have g3:decide ((j2:Int)<(n:Int))=false:=decide_eq_false (by omega);have g4:decide (j2<n)=false:=decide_eq_false h2;have hkid:Et AA cs i n=j1:=by unfold Et; rw[if_neg (by omega),hj1]
    go_wp2_with fail;rw[Bh (by decide) c0];simp only[Result.andThen_ok];rw[Bi,Oper.upon_enter];refine(Bf _ m c cs (j1) i _ I.out (by omega) (by omega) (by omega)).mono ?_;rintro e w1 ⟨rfl,B1⟩;replace O:=hid (Ak O.out B1);replace I:=hid (I.out.step B1);replace D:=hid (D.out.step B1);replace H:=hid (H.out.below B1);replace B:=hid (B.out.trans (Fg.of_below B1));replace c0:=D.out.cell 0 _ rfl;rw[hN] at c0;clear B1;cases hls:Ds AA cs (j1) i
    . replace hres:=hres.out;rw[hkid,hls,if_neg (by simp)] at hres;subst hres;go_wp2;go_ret;exact⟨⟨_,rfl⟩,H.out,B.out⟩
    replace hres:=hres.out;rw[hkid,hls,if_pos rfl] at hres;replace hres:=hid hres;replace hls:=hid hls;replace hkid:=hid hkid;go_wp2_with fail;rw[Bj (by decide) c0];simp only[Result.andThen_ok];rw[Bl,Oper.upon_enter];refine(Bg lo g m c cs i (j1) _ O.out (by omega) (by omega) (by omega)).mono ?_;rintro e w1 ⟨rfl,O2,K2⟩;have H2:=hid (Hg.swapped D.out hgb hlo (Aq cs i (j1)) (by rw[hN]; exact O2) K2);have B2:=hid (B.out.trans (Fg.of_kept K2));clear O2 K2 c0;go_wp2
    go_roundw
    case rel=>exact⟨f,j1,swp cs i (j1),rfl,by omega,by rw[Aq]; exact hN,hres.out,H2.out,B2.out⟩
    case measure=>simp[RowKit.intOf]; omega
theorem EN(lo hb:Nat)(cs:List Ct)(p s t:Int)(w:World)(H:Hp lo hb cs w)(hlw:lo<=w.heap.size)(hn:cs.length<=50) :
 Calls Try.prog 57 #[.iface 64 (.pointer (some ⟨hb,0,none⟩)),.iface 66 (.agg #[.int .i64 p,.int .i64 s,.int .i64 t])] w fun e w'=>e=.returned (.tuple #[])/\Hp lo hb (AO AA cs ⟨p,s,t⟩) w'/\Below lo w w':=by
 have H:=hid H;obtain⟨n,hN⟩:∃ n,cs.length=n:=⟨_,rfl⟩;rw[show AO AA cs ⟨p,s,t⟩=Em AA (n+1) (cs++[⟨p,s,t⟩]) n by rw[AO,hN]];go_enter Try.func57,Try.ntmps57;go_wp2_with fail;rw[EQ (by decide)];simp only[Result.andThen_ok];rw[ER,Oper.upon_enter];refine(Ee lo hb cs p s t _ H.out hlw (by omega)).mono ?_;rintro e w1 ⟨rfl,H1,B1⟩;have hl1:=Nat.le_trans hlw B1.size;obtain⟨A,c,c0⟩:=H1.cell;have hlen:(cs++[(⟨p,s,t⟩:Ct)]).length=cs.length+1:=by simp
 rw[hlen] at c0;rw[hN] at c0 hn hlen;have q1:IntKind.i64.wrap (((n+1:Nat):Int)-1)=(n:Int):=by rw[IntWalk.i64_in _ (by omega)]; omega
 have q2:((n:Int)+1)-1=(n:Int):=by omega
 have q3:IntKind.i64.wrap (n:Int)=(n:Int):=IntWalk.i64_in _ (by omega);replace H1:=hid H1;replace B1:=hid B1;go_wp2_with fail;rw[DO (by decide) c0];simp only[Result.andThen_ok];rw[DR,Oper.upon_enter];refine(DN A (n+1) c _).mono ?_;rintro e w1 ⟨rfl,rfl⟩;go_wp2_with fail;refine(Fu lo hb _ n _ H1.out hl1 (by omega) (by omega)).mono ?_;rintro e w2 ⟨rfl,H2,B2⟩;have B:=hid (AX B1.out B2);have H2:=hid H2;go_wp2
 try simp only[Exit.inBlock,Exit.then]
 refine bodyPost_end (results_none rfl _ _ _) rfl ?_;exact⟨rfl,H2.out,B.out⟩
theorem heapPop(lo hb g:Nat)(cs:List Ct)(w:World)(H:Hg lo hb g cs w)(h0:0<cs.length)(hn:cs.length<=50) :
 Calls Try.prog 58 #[.iface 64 (.pointer (some ⟨hb,0,none⟩))] w fun e w'=>(∃ r,e=.returned r)/\Hg lo hb g (Ca AA cs) w'/\Fg hb g w w':=by
 have H:=hid H;obtain⟨c,c0,O,I,hgb,D,hlo⟩:=H.out.open;obtain⟨n,hN⟩:∃ n,cs.length=n:=⟨_,rfl⟩;rw[hN] at c0 O I h0 hn;have E:=hid (show Ca AA cs=(Dt AA n (swp cs 0 (n-1)) 0 (n-1)).take (n-1) by rw[Ca,hN]);rw[E.out];have q1:IntKind.i64.wrap ((n:Int)-1)=((n-1:Nat):Int):=by rw[IntWalk.i64_in _ (by omega)]; omega
 have q2:(n:Int)-1=((n-1:Nat):Int):=by omega
 have q3:IntKind.i64.wrap ((n-1:Nat):Int)=((n-1:Nat):Int):=IntWalk.i64_in _ (by omega);replace O:=hid O;replace D:=hid D;clear I;go_enter Try.func58,Try.ntmps58;go_wp2_with fail;rw[DO (by decide) c0];simp only[Result.andThen_ok];rw[DR,Oper.upon_enter];refine(DN (some ⟨g,0,none⟩) n c _).mono ?_;rintro e w1 ⟨rfl,rfl⟩;go_wp2_with fail;rw[Bj (by decide) c0];simp only[Result.andThen_ok];rw[Bl,Oper.upon_enter];refine(Bg lo g n c cs 0 (n-1) _ O.out (by omega) (by omega) (by omega)).mono ?_;rintro e w1 ⟨rfl,O2,K2⟩;have H2:=hid (Hg.swapped D.out hgb hlo (Aq cs 0 (n-1)) (by rw[hN]; exact O2) K2)
 have B2:=Fg.of_kept (hb:=hb) K2;replace B2:=hid B2;clear O2 K2 c0;go_wp2_with fail;refine(EM lo hb g _ (n-1) _ H2.out (by rw[Aq]; omega) (by rw[Aq]; omega)).mono ?_;rintro e w3 ⟨⟨r,rfl⟩,H3,B3⟩;rw[Aq,hN] at H3;have B:=hid (B2.out.trans B3);replace H3:=hid H3;clear B3;have hlen:(Dt AA n (swp cs 0 (n-1)) 0 (n-1)).length=n:=by rw[CK,Aq,hN]
 go_wp2_with fail;rw[Fa (by decide)];simp only[Result.andThen_ok];rw[Fb,Oper.upon_enter];refine(EK lo hb g _ _ H3.out (by omega) (by omega)).mono ?_;rintro e w1 ⟨⟨r2,rfl⟩,H4,B4⟩;rw[hlen] at H4;have B:=hid (B.out.trans B4);have H4:=hid H4;go_wp2;go_ret;exact⟨⟨_,rfl⟩,H4.out,B.out⟩
end Go.Proofs.Ytgghhedkephohaa
