import Derived.Test.YtbeohbhhmcjokaaZRdS
import Derived.Deep.DeepCutAuto
import Derived.Laws.StructEq
set_option linter.all false
set_option maxRecDepth 100000
set_option maxHeartbeats 8000000
open Go.Lib
namespace Go.Proofs.Ytbeohbhhmcjokaa
open Go.RowKit
open M
theorem Ch(x y:Int)(w:World):Calls Try.prog 119 #[Ce x y] w fun e w'=>e=.returned (Ce x y)/\Below w.heap.size w w':=by
 go_enter Try.func119,Try.ntmps119;go_wp2;exact bodyPost_ret (v:=Ce x y) (by simp[results,Try.results119,go_sem]) rfl ⟨rfl,by repeat (first | exact Ac _ | refine Ab ?_ _ | refine Ag ?_ _ _ _ (by simp))⟩
theorem EE(x y:Int)(w:World):Calls Try.prog 125 #[Ce x y] w fun e w'=>e=.returned (Ce x y)/\Below w.heap.size w w':=by
 go_enter Try.func125,Try.ntmps125;go_wp2;exact bodyPost_ret (v:=Ce x y) (by simp[results,Try.results125,go_sem]) rfl ⟨rfl,by repeat (first | exact Ac _ | refine Ab ?_ _ | refine Ag ?_ _ _ _ (by simp))⟩
theorem CX{W:World}{b:Nat}{p q s t:Int}(h:BCell W b p q s t):W.cell? ⟨b,0,none⟩=some (.int .i64 p)/\W.cell? ⟨b,1,none⟩=some (.int .i64 q)/\W.cell? ⟨b,2,none⟩=some (.int .i64 s)/\W.cell? ⟨b,3,none⟩=some (.int .i64 t):=⟨h.c0,h.c1,h.c2,h.c3⟩
theorem BN(a b c d:Int)(w:World):Calls Try.prog 111 #[box a b c d] w fun e w'=>e=.returned (box a b c d)/\Below w.heap.size w w':=by
 have O0:BCell ((w.alloc (.cells #[.int .i64 a,.int .i64 b,.int .i64 c,.int .i64 d] 56)).alloc (.cells #[.int .i64 0,.int .i64 0,.int .i64 0,.int .i64 0] 136)) w.heap.size a b c d:=(BCell.new w w.heap.size a b c d _ rfl).alloc _;have O1:BCell ((w.alloc (.cells #[.int .i64 a,.int .i64 b,.int .i64 c,.int .i64 d] 56)).alloc (.cells #[.int .i64 0,.int .i64 0,.int .i64 0,.int .i64 0] 136)) (w.heap.size+1) 0 0 0 0:=BCell.new _ (w.heap.size+1) 0 0 0 0 _ (by simp)
 have Hb:=hid (show Below w.heap.size w ((w.alloc (.cells #[.int .i64 a,.int .i64 b,.int .i64 c,.int .i64 d] 56)).alloc (.cells #[.int .i64 0,.int .i64 0,.int .i64 0,.int .i64 0] 136)) from Ab (Ab (Ac w) _) _);go_enter Try.func111,Try.ntmps111;go_upto_region 1 with fail
 go_region_held3 (fun w'=>w'.cell? ⟨w.heap.size,0,none⟩=some (.int .i64 a)/\w'.cell? ⟨w.heap.size,1,none⟩=some (.int .i64 b)/\w'.cell? ⟨w.heap.size,2,none⟩=some (.int .i64 c)/\w'.cell? ⟨w.heap.size,3,none⟩=some (.int .i64 d))
  (exact CX (by repeat (first | with_reducible exact O0 | with_reducible refine BCell.far ?_ (by omega) _ _ | with_reducible refine BCell.alloc ?_ _ | with_reducible refine BCell.drew ?_)))
  ((go_at_call 119; (with_reducible refine(Ch _ _ _).mono ?_); rintro e wn ⟨rfl,Bn⟩; have O0:=BCell.step (by first | with_reducible exact O0 | with_reducible exact O0.drew) Bn; have O1:=BCell.step (by first | with_reducible exact O1 | with_reducible exact O1.drew) Bn; have Hb:=hid (Aa (by first | with_reducible exact Hb.out | with_reducible exact Af Hb.out) Bn); clear Bn; have dc0:=O1.c0; have dc1:=O1.c1; have dc2:=O1.c2; have dc3:=O1.c3; have df0:=O1.f0; have df1:=O1.f1; have df2:=O1.f2; have df3:=O1.f3; have dl:=O1.lt))
 all_goals
  go_wp2;exact bodyPost_ret (v:=box a b c d) (by simp[results,Try.results111,go_sem,O1.c0,O1.c1,O1.c2,O1.c3]) rfl ⟨rfl,by repeat (first | with_reducible exact Hb.out | with_reducible refine Ag ?_ _ _ _ (by omega) | with_reducible refine Ab ?_ _ | with_reducible refine Af ?_)⟩
def Gi(a b c d:Int):Bool:=decide (a<=c)&&decide (b<=d)
theorem GO{a b c d:Int}(h:a<=c)(g:b<=d):Gi a b c d=true:=by simp[Gi,h,g]
theorem GP{a b c d:Int}(h:c<a):Gi a b c d=false:=by
 have:¬ a<=c:=by omega
 simp[Gi,this]
theorem GQ{a b c d:Int}(h:d<b):Gi a b c d=false:=by
 have:¬ b<=d:=by omega
 simp[Gi,this]
def GR(a b c d:Int)(i:Value):Prop:=i=.int .i64 0\/(i=.int .i64 1/\a<=c)\/(i=.int .i64 2/\a<=c/\b<=d)
theorem Di(a b c d:Int)(w:World):Calls Try.prog 112 #[box a b c d] w fun e w'=>e=.returned (.bool (Gi a b c d))/\Below w.heap.size w w':=by
 have O0:BCell (w.alloc (.cells #[.int .i64 a,.int .i64 b,.int .i64 c,.int .i64 d] 136)) w.heap.size a b c d:=BCell.new w w.heap.size a b c d _ rfl;have Hb:=hid (show Below w.heap.size w (w.alloc (.cells #[.int .i64 a,.int .i64 b,.int .i64 c,.int .i64 d] 136)) from Ab (Ac w) _);have i0:∀ w:World,(Instr.index 134 (.agg #[.int .i64 a,.int .i64 b]) (.int .i64 0)).run Try.prog w=.ok (.int .i64 a) w:=fun _=>by kernel_rfl
 have i1:∀ w:World,(Instr.index 134 (.agg #[.int .i64 a,.int .i64 b]) (.int .i64 1)).run Try.prog w=.ok (.int .i64 b) w:=fun _=>by kernel_rfl
 go_enter Try.func112,Try.ntmps112;go_wp2
 go_loop [7] (GR a b c d) (fun i=>2-(RowKit.intOf i).toNat)
 case atStart=>exact Or.inl rfl
 case round =>
  rcases hrel with rfl | ⟨rfl,h⟩ | ⟨rfl,h,g⟩
  . by_cases h:a<=c
    . go_wp2
      go_round
      case rel=>exact Or.inr (Or.inl ⟨by go_num,h⟩)
      case measure=>simp[RowKit.intOf]
    . have h':c<a:=by omega
      have E:=hid (GP (b:=b) (d:=d) h');go_wp2;go_ret;exact⟨Ad (by rw[E.out]),Hb.out⟩
  . by_cases g:b<=d
    . go_wp2
      go_round
      case rel=>exact Or.inr (Or.inr ⟨by go_num,h,g⟩)
      case measure=>simp[RowKit.intOf]
    . have g':d<b:=by omega
      have E:=hid (GQ (a:=a) (c:=c) g');go_wp2;go_ret;exact⟨Ad (by rw[E.out]),Hb.out⟩
  . have E:=hid (GO h g);go_wp2;go_ret;exact⟨Ad (by rw[E.out]),Hb.out⟩
open Go.RowKit
open M
def Gj(w:World)(o:Nat)(a b c d x y:Int)(i:Value)(W:World):Prop :=
 ∃ m0 m1:Int,BCell W w.heap.size a b c d/\PCell W (w.heap.size+1+1) 0 0/\PCell W o m0 m1/\Below w.heap.size w W /\
  (i=.int .i64 0\/(i=.int .i64 1/\m0=min (max x a) c)\/(i=.int .i64 2/\m0=min (max x a) c/\m1=min (max y b) d))
theorem EF(a b c d x y:Int)(w:World):Calls Try.prog 124 #[box a b c d,Ce x y] w fun e w'=>e=.returned (Ce (min (max x a) c) (min (max y b) d))/\Below w.heap.size w w':=by
 have hmx:=Eh;have hmn:=Ei;have i0:∀ w:World,(Instr.index 134 (.agg #[.int .i64 x,.int .i64 y]) (.int .i64 0)).run Try.prog w=.ok (.int .i64 x) w:=fun _=>by kernel_rfl
 have i1:∀ w:World,(Instr.index 134 (.agg #[.int .i64 x,.int .i64 y]) (.int .i64 1)).run Try.prog w=.ok (.int .i64 y) w:=fun _=>by kernel_rfl
 go_enter Try.func124,Try.ntmps124;go_wp2_with fail;refine(Ch _ _ _).mono ?_;rintro e w1 ⟨rfl,B1⟩;have P1:BCell w1 w.heap.size a b c d:=(((BCell.new w w.heap.size a b c d _ rfl).alloc _).alloc _).step B1;have D1:PCell w1 (w.heap.size+1+1) 0 0:=(PCell.new _ (w.heap.size+1+1) 0 0 _ (by simp)).step B1;have H1:=hid (Aa (Ab (Ab (Ab (Ac w) _) _) _) B1);clear B1;have lp:=P1.lt;have ld:=D1.lt;obtain⟨o,ho⟩:∃ o,o=w1.heap.size:=⟨_,rfl⟩;have o1:w.heap.size+1+1<o:=by omega
 have ho:=hid ho;go_wp2
 go_loopw [11] (Gj w w1.heap.size a b c d x y) (fun i _=>2-(RowKit.intOf i).toNat)
 case atStart=>exact⟨x,y,P1.alloc _,D1.alloc _,PCell.new _ _ x y _ rfl,Ab H1.out _,Or.inl rfl⟩
 case round =>
  obtain⟨m0,m1,P,D,M,H,hi⟩:=hrel;have Hb:=hid H;clear H P1 D1 H1;have pc0:=P.c0;have pc1:=P.c1;have pc2:=P.c2;have pc3:=P.c3;have pf0:=P.f0;have pf1:=P.f1;have pf2:=P.f2;have pf3:=P.f3;have pl:=P.lt;have dc0:=D.c0;have dc1:=D.c1;have df0:=D.f0;have df1:=D.f1;have dl:=D.lt;have mc0:=M.c0;have mc1:=M.c1;have mf0:=M.f0;have mf1:=M.f1;have ml:=M.lt;rcases hi with rfl | ⟨rfl,e0⟩ | ⟨rfl,e0,e1⟩
  . go_wp2_with fail
    go_region_held3 (fun w'=>w'.cell? ⟨w.heap.size,0,none⟩=some (.int .i64 a)/\w'.cell? ⟨w.heap.size,1,none⟩=some (.int .i64 b)/\w'.cell? ⟨w.heap.size,2,none⟩=some (.int .i64 c)/\w'.cell? ⟨w.heap.size,3,none⟩=some (.int .i64 d))
     (exact CX (by repeat (first | with_reducible exact P | with_reducible refine BCell.far ?_ (by omega) _ _ | with_reducible refine BCell.alloc ?_ _ | with_reducible refine BCell.drew ?_)))
     (fail)
    go_wp2
    go_roundw
    case rel=>exact⟨_,_,(by repeat (first | with_reducible exact P | with_reducible refine BCell.far ?_ (by omega) _ _ | with_reducible refine BCell.alloc ?_ _ | with_reducible refine BCell.drew ?_)),(by repeat (first | with_reducible exact D | with_reducible refine PCell.far ?_ (by omega) _ _ | with_reducible refine PCell.alloc ?_ _ | with_reducible refine PCell.drew ?_)),(by first | exact M.set0 _ | exact(M.set0 _).drew),(by repeat (first | with_reducible exact Hb.out | with_reducible refine Ag ?_ _ _ _ (by omega) | with_reducible refine Ab ?_ _ | with_reducible refine Af ?_)),Or.inr (Or.inl ⟨by go_num,rfl⟩)⟩
    case measure=>simp[RowKit.intOf]
  . have E0:=hid e0;clear e0;go_wp2_with fail
    go_region_held3 (fun w'=>w'.cell? ⟨w.heap.size,0,none⟩=some (.int .i64 a)/\w'.cell? ⟨w.heap.size,1,none⟩=some (.int .i64 b)/\w'.cell? ⟨w.heap.size,2,none⟩=some (.int .i64 c)/\w'.cell? ⟨w.heap.size,3,none⟩=some (.int .i64 d))
     (exact CX (by repeat (first | with_reducible exact P | with_reducible refine BCell.far ?_ (by omega) _ _ | with_reducible refine BCell.alloc ?_ _ | with_reducible refine BCell.drew ?_)))
     (fail)
    go_wp2
    go_roundw
    case rel=>exact⟨_,_,(by repeat (first | with_reducible exact P | with_reducible refine BCell.far ?_ (by omega) _ _ | with_reducible refine BCell.alloc ?_ _ | with_reducible refine BCell.drew ?_)),(by repeat (first | with_reducible exact D | with_reducible refine PCell.far ?_ (by omega) _ _ | with_reducible refine PCell.alloc ?_ _ | with_reducible refine PCell.drew ?_)),(by first | exact M.set1 _ | exact(M.set1 _).drew),(by repeat (first | with_reducible exact Hb.out | with_reducible refine Ag ?_ _ _ _ (by omega) | with_reducible refine Ab ?_ _ | with_reducible refine Af ?_)),Or.inr (Or.inr ⟨by go_num,E0.out,rfl⟩)⟩
    case measure=>simp[RowKit.intOf]
  . subst e0 e1;clear pc0 pc1 pc2 pc3 pf0 pf1 pf2 pf3 pl;go_wp2_with fail;refine(EE _ _ _).mono ?_;rintro e w9 ⟨rfl,B9⟩;have D9:=D.step B9;have H9:=hid (Aa Hb.out B9);clear B9 Hb P D M dc0 dc1 df0 df1 dl mc0 mc1 mf0 mf1 ml;have dc0:=D9.c0;have dc1:=D9.c1;have df0:=D9.f0;have df1:=D9.f1;have dl:=D9.lt;go_wp2;exact bodyPost_ret (v:=Ce (min (max x a) c) (min (max y b) d)) (by simp[results,Try.results124,go_sem,dc0,dc1]) rfl ⟨rfl,by repeat (first | with_reducible exact H9.out | with_reducible refine Ag ?_ _ _ _ (by omega) | with_reducible refine Ab ?_ _ | with_reducible refine Af ?_)⟩
open Go.RowKit
open M
theorem Hn{a b c d:Int}(h:Am a b=true)(g:Am c d=true):Bh a b c d=Gi a b c d:=by simp[Bh,Gi,h,g]
theorem Eg{a c x:Int}(h:a<=c):min (max x a) c=max a (min x c):=by omega
theorem AE(a b c d:Int)(w:World):Calls Try.prog 95 #[box a b c d] w fun e w'=>e=.returned (.bool (Bh a b c d))/\Below w.heap.size w w':=by
 cases h:Am a b
 . have E:=hid (Fa (c:=c) (d:=d) h);go_enter Try.func95,Try.ntmps95;go_wp2_with fail;refine(Ap _ _ _).mono ?_;rintro e w1 ⟨rfl,B1⟩;have C1:=B1;clear B1;obtain⟨hc1,hf1⟩:=Ae C1;have H1:=hid (Aa (Ab (Ac w) _) C1);go_wp2;go_ret;exact⟨Ad (by rw[E.out]),H1.out⟩
 cases g:Am c d
 . have E:=hid (Fb (a:=a) (b:=b) g);go_enter Try.func95,Try.ntmps95;go_wp2_with fail;refine(Ap _ _ _).mono ?_;rintro e w1 ⟨rfl,B1⟩;have C1:=B1;clear B1;obtain⟨hc1,hf1⟩:=Ae C1;have H1:=hid (Aa (Ab (Ac w) _) C1);go_wp2_with fail;refine(Ap _ _ _).mono ?_;rintro e w2 ⟨rfl,B2⟩;have C2:=Aa C1 B2;clear hc1 hf1 C1 B2;obtain⟨hc2,hf2⟩:=Ae C2;have H2:=hid (Aa (Ab (Ac w) _) C2);go_wp2;go_ret;exact⟨Ad (by rw[E.out]),H2.out⟩
 . have E:=hid (Hn h g);go_enter Try.func95,Try.ntmps95;go_wp2_with fail;refine(Ap _ _ _).mono ?_;rintro e w1 ⟨rfl,B1⟩;have C1:=B1;clear B1;obtain⟨hc1,hf1⟩:=Ae C1;have H1:=hid (Aa (Ab (Ac w) _) C1);go_wp2_with fail;refine(Ap _ _ _).mono ?_;rintro e w2 ⟨rfl,B2⟩;have C2:=Aa C1 B2;clear hc1 hf1 C1 B2;obtain⟨hc2,hf2⟩:=Ae C2;have H2:=hid (Aa (Ab (Ac w) _) C2);go_wp2_with fail;refine(BN _ _ _ _ _).mono ?_;rintro e w3 ⟨rfl,B3⟩;have C3:=Aa C2 B3;clear hc2 hf2 C2 B3;obtain⟨hc3,hf3⟩:=Ae C3;have H3:=hid (Aa (Ab (Ac w) _) C3);go_wp2_with fail
   refine(Di _ _ _ _ _).mono ?_;rintro e w4 ⟨rfl,B4⟩;have C4:=Aa C3 B4;clear hc3 hf3 C3 B4;obtain⟨hc4,hf4⟩:=Ae C4;have H4:=hid (Aa (Ab (Ac w) _) C4);go_wp2;go_ret;exact⟨Ad (by rw[E.out]),H4.out⟩
theorem DO(a b c d x y r:Int)(w:World)(h:Bh a b c d=true)(x1:-2000000<=x)(x2:x<=2000000)(y1:-2000000<=y)(y2:y<=2000000)(r0:0<=r)(r1:r<=1000000):Calls Try.prog 121 #[box a b c d,Ce x y,.int .i64 r] w fun e w'=>e=.returned (.bool (Gk a b c d x y r))/\Below w.heap.size w w':=by
 obtain⟨⟨⟨a1,a2⟩,b1,b2⟩,⟨⟨c1,c2⟩,d1,d2⟩,ac,bd⟩:=(Fc a b c d).1 h;have n3:-1000000<=max a (min x c)/\max a (min x c)<=1000000:=by omega
 have n4:-1000000<=max b (min y d)/\max b (min y d)<=1000000:=by omega
 have E:=hid (show Gk a b c d x y r=decide ((x-max a (min x c))*(x-max a (min x c))+(y-max b (min y d))*(y-max b (min y d))<=r*r) from rfl);have Q:=hid (fun W:World=>EF a b c d x y W);rw[Eg (x:=x) ac,Eg (x:=y) bd] at Q;obtain⟨X,eX⟩:∃ X,max a (min x c)=X:=⟨_,rfl⟩;obtain⟨Y,eY⟩:∃ Y,max b (min y d)=Y:=⟨_,rfl⟩;rw[eX] at n3 E Q;rw[eY] at n4 E Q;clear eX eY h ac bd;have m1:=BM (a:=x-X) (b:=x-X) (by omega) (by omega) (by omega) (by omega);have m2:=BM (a:=y-Y) (b:=y-Y) (by omega) (by omega) (by omega) (by omega);have m3:=BM (a:=r) (b:=r) (by omega) (by omega) (by omega) (by omega)
 have v1:IntKind.i64.wrap (x-X)=x-X:=IntWalk.i64_in _ (by omega);have v2:IntKind.i64.wrap (y-Y)=y-Y:=IntWalk.i64_in _ (by omega);go_enter Try.func121,Try.ntmps121;go_wp2_with fail;refine(Q.out _).mono ?_;rintro e w1 ⟨rfl,B1⟩;have C1:=B1;clear B1;obtain⟨hc1,hf1⟩:=Ae C1;have H1:=hid (Aa (Ab (Ab (Ac w) _) _) C1);have l1:w.heap.size+1<w1.heap.size:=by have:=C1.size; simp at this; omega
 clear Q;go_wp2_with fail
 go_quiet (fail)
 go_wp2;go_ret;exact⟨Ad (by rw[E.out]),by repeat (first | with_reducible exact H1.out | with_reducible refine Ab ?_ _ | with_reducible refine Ar ?_ _)⟩
end Go.Proofs.Ytbeohbhhmcjokaa
