import Derived.Test.YtaemcekcancpdaaGreatDoorZRdS
import Derived.Test.YtaemcekcancpdaaGreatDoorZVecP
import Derived.Deep.DeepCutAuto
import Derived.Laws.StructEq
set_option linter.all false
set_option maxRecDepth 100000
set_option maxHeartbeats 8000000
open Go.Lib
namespace Go.Proofs.YtaemcekcancpdaaGreatDoor
open Go.RowKit
open M
theorem A6(x y:Int)(w:World):Calls Tryz.prog 66 #[Bs x y] w fun e w'=>e=.returned (Bs x y)/\Below w.heap.size w w':=by
 go_enter Tryz.func66,Tryz.ntmps66;go_wp2;exact bodyPost_ret (v:=Bs x y) (by simp[results,Tryz.results66,go_sem]) rfl ⟨rfl,by repeat (first | exact Ac _ | refine Aa ?_ _ | refine Ap ?_ _ _ _ (by simp))⟩
theorem DJ(x y:Int)(w:World):Calls Tryz.prog 67 #[Bs x y] w fun e w'=>e=.returned (Bs x y)/\Below w.heap.size w w':=by
 go_enter Tryz.func67,Tryz.ntmps67;go_wp2;exact bodyPost_ret (v:=Bs x y) (by simp[results,Tryz.results67,go_sem]) rfl ⟨rfl,by repeat (first | exact Ac _ | refine Aa ?_ _ | refine Ap ?_ _ _ _ (by simp))⟩
theorem SI{W:World}{b:Nat}{x y:Int}(h:PCell W b x y):W.cell? ⟨b,0,none⟩=some (.int .i64 x)/\W.cell? ⟨b,1,none⟩=some (.int .i64 y):=⟨h.c0,h.c1⟩
theorem Hi{W:World}{b:Nat}{p q s t:Int}(h:BCell W b p q s t):W.cell? ⟨b,0,none⟩=some (.int .i64 p)/\W.cell? ⟨b,1,none⟩=some (.int .i64 q)/\W.cell? ⟨b,2,none⟩=some (.int .i64 s)/\W.cell? ⟨b,3,none⟩=some (.int .i64 t):=⟨h.c0,h.c1,h.c2,h.c3⟩
theorem Eo(a b c d:Int)(w:World):Calls Tryz.prog 50 #[box a b c d] w fun e w'=>e=.returned (box a b c d)/\Below w.heap.size w w':=by
 have O0:BCell ((w.alloc (.cells #[.int .i64 a,.int .i64 b,.int .i64 c,.int .i64 d] 27)).alloc (.cells #[.int .i64 0,.int .i64 0,.int .i64 0,.int .i64 0] 82)) w.heap.size a b c d:=(BCell.new w w.heap.size a b c d _ rfl).alloc _;have O1:BCell ((w.alloc (.cells #[.int .i64 a,.int .i64 b,.int .i64 c,.int .i64 d] 27)).alloc (.cells #[.int .i64 0,.int .i64 0,.int .i64 0,.int .i64 0] 82)) (w.heap.size+1) 0 0 0 0:=BCell.new _ (w.heap.size+1) 0 0 0 0 _ (by simp)
 have Hb:=hid (show Below w.heap.size w ((w.alloc (.cells #[.int .i64 a,.int .i64 b,.int .i64 c,.int .i64 d] 27)).alloc (.cells #[.int .i64 0,.int .i64 0,.int .i64 0,.int .i64 0] 82)) from Aa (Aa (Ac w) _) _);go_enter Tryz.func50,Tryz.ntmps50;go_upto_region 1 with fail
 go_region_held3 (fun w'=>w'.cell? ⟨w.heap.size,0,none⟩=some (.int .i64 a)/\w'.cell? ⟨w.heap.size,1,none⟩=some (.int .i64 b)/\w'.cell? ⟨w.heap.size,2,none⟩=some (.int .i64 c)/\w'.cell? ⟨w.heap.size,3,none⟩=some (.int .i64 d))
  (exact Hi (by repeat (first | with_reducible exact O0 | with_reducible refine BCell.far ?_ (by omega) _ _ | with_reducible refine BCell.alloc ?_ _ | with_reducible refine BCell.drew ?_)))
  ((go_at_call 66; (with_reducible refine(A6 _ _ _).mono ?_); rintro e wn ⟨rfl,Bn⟩; have O0:=BCell.step (by first | with_reducible exact O0 | with_reducible exact O0.drew) Bn; have O1:=BCell.step (by first | with_reducible exact O1 | with_reducible exact O1.drew) Bn; have Hb:=hid (Ab (by first | with_reducible exact Hb.out | with_reducible exact AE Hb.out) Bn); clear Bn; have dc0:=O1.c0; have dc1:=O1.c1; have dc2:=O1.c2; have dc3:=O1.c3; have df0:=O1.f0; have df1:=O1.f1; have df2:=O1.f2; have df3:=O1.f3; have dl:=O1.lt))
 all_goals
  go_wp2;exact bodyPost_ret (v:=box a b c d) (by simp[results,Tryz.results50,go_sem,O1.c0,O1.c1,O1.c2,O1.c3]) rfl ⟨rfl,by repeat (first | with_reducible exact Hb.out | with_reducible refine Ap ?_ _ _ _ (by omega) | with_reducible refine Aa ?_ _ | with_reducible refine AE ?_)⟩
def Q3(a b c d:Int):Bool:=decide (a<=c)&&decide (b<=d)
theorem SJ{a b c d:Int}(h:a<=c)(g:b<=d):Q3 a b c d=true:=by simp[Q3,h,g]
theorem SK{a b c d:Int}(h:c<a):Q3 a b c d=false:=by
 have:¬ a<=c:=by omega
 simp[Q3,this]
theorem SL{a b c d:Int}(h:d<b):Q3 a b c d=false:=by
 have:¬ b<=d:=by omega
 simp[Q3,this]
def SN(a b c d:Int)(i:Value):Prop:=i=.int .i64 0\/(i=.int .i64 1/\a<=c)\/(i=.int .i64 2/\a<=c/\b<=d)
theorem Kz(a b c d:Int)(w:World):Calls Tryz.prog 63 #[box a b c d] w fun e w'=>e=.returned (.bool (Q3 a b c d))/\Below w.heap.size w w':=by
 have O0:BCell (w.alloc (.cells #[.int .i64 a,.int .i64 b,.int .i64 c,.int .i64 d] 82)) w.heap.size a b c d:=BCell.new w w.heap.size a b c d _ rfl;have Hb:=hid (show Below w.heap.size w (w.alloc (.cells #[.int .i64 a,.int .i64 b,.int .i64 c,.int .i64 d] 82)) from Aa (Ac w) _);have i0:∀ w:World,(Instr.index 80 (.agg #[.int .i64 a,.int .i64 b]) (.int .i64 0)).run Tryz.prog w=.ok (.int .i64 a) w:=fun _=>by kernel_rfl
 have i1:∀ w:World,(Instr.index 80 (.agg #[.int .i64 a,.int .i64 b]) (.int .i64 1)).run Tryz.prog w=.ok (.int .i64 b) w:=fun _=>by kernel_rfl
 go_enter Tryz.func63,Tryz.ntmps63;go_wp2
 go_loop [7] (SN a b c d) (fun i=>2-(intOf i).toNat)
 case atStart=>exact Or.inl rfl
 case round =>
  rcases hrel with rfl | ⟨rfl,h⟩ | ⟨rfl,h,g⟩
  . by_cases h:a<=c
    . go_wp2
      go_round
      case rel=>exact Or.inr (Or.inl ⟨by go_num,h⟩)
      case measure=>simp[intOf]
    . have h':c<a:=by omega
      have E:=hid (SK (b:=b) (d:=d) h');go_wp2;go_ret;exact⟨Aq (by rw[E.out]),Hb.out⟩
  . by_cases g:b<=d
    . go_wp2
      go_round
      case rel=>exact Or.inr (Or.inr ⟨by go_num,h,g⟩)
      case measure=>simp[intOf]
    . have g':d<b:=by omega
      have E:=hid (SL (a:=a) (c:=c) g');go_wp2;go_ret;exact⟨Aq (by rw[E.out]),Hb.out⟩
  . have E:=hid (SJ h g);go_wp2;go_ret;exact⟨Aq (by rw[E.out]),Hb.out⟩
open Go.RowKit
open M
def Q4(w:World)(o:Nat)(a b c d x y:Int)(i:Value)(W:World):Prop :=
 ∃ m0 m1:Int,BCell W w.heap.size a b c d/\PCell W (w.heap.size+1+1) 0 0/\PCell W o m0 m1/\Below w.heap.size w W /\
  (i=.int .i64 0\/(i=.int .i64 1/\m0=min (max x a) c)\/(i=.int .i64 2/\m0=min (max x a) c/\m1=min (max y b) d))
theorem I9(a b c d x y:Int)(w:World):Calls Tryz.prog 51 #[box a b c d,Bs x y] w fun e w'=>e=.returned (Bs (min (max x a) c) (min (max y b) d))/\Below w.heap.size w w':=by
 have hmx:=NH;have hmn:=NJ;have i0:∀ w:World,(Instr.index 80 (.agg #[.int .i64 x,.int .i64 y]) (.int .i64 0)).run Tryz.prog w=.ok (.int .i64 x) w:=fun _=>by kernel_rfl
 have i1:∀ w:World,(Instr.index 80 (.agg #[.int .i64 x,.int .i64 y]) (.int .i64 1)).run Tryz.prog w=.ok (.int .i64 y) w:=fun _=>by kernel_rfl
 go_enter Tryz.func51,Tryz.ntmps51;go_wp2_with fail;refine(A6 _ _ _).mono ?_;rintro e w1 ⟨rfl,B1⟩;have P1:BCell w1 w.heap.size a b c d:=(((BCell.new w w.heap.size a b c d _ rfl).alloc _).alloc _).step B1;have D1:PCell w1 (w.heap.size+1+1) 0 0:=(PCell.new _ (w.heap.size+1+1) 0 0 _ (by simp)).step B1;have H1:=hid (Ab (Aa (Aa (Aa (Ac w) _) _) _) B1);clear B1;have lp:=P1.lt;have ld:=D1.lt;obtain⟨o,ho⟩:∃ o,o=w1.heap.size:=⟨_,rfl⟩;have o1:w.heap.size+1+1<o:=by omega
 have ho:=hid ho;go_wp2
 go_loopw [11] (Q4 w w1.heap.size a b c d x y) (fun i _=>2-(intOf i).toNat)
 case atStart=>exact⟨x,y,P1.alloc _,D1.alloc _,PCell.new _ _ x y _ rfl,Aa H1.out _,Or.inl rfl⟩
 case round =>
  obtain⟨m0,m1,P,D,M,H,hi⟩:=hrel;have Hb:=hid H;clear H P1 D1 H1;have pc0:=P.c0;have pc1:=P.c1;have pc2:=P.c2;have pc3:=P.c3;have pf0:=P.f0;have pf1:=P.f1;have pf2:=P.f2;have pf3:=P.f3;have pl:=P.lt;have dc0:=D.c0;have dc1:=D.c1;have df0:=D.f0;have df1:=D.f1;have dl:=D.lt;have mc0:=M.c0;have mc1:=M.c1;have mf0:=M.f0;have mf1:=M.f1;have ml:=M.lt;rcases hi with rfl | ⟨rfl,e0⟩ | ⟨rfl,e0,e1⟩
  . go_wp2_with fail
    go_region_held3 (fun w'=>w'.cell? ⟨w.heap.size,0,none⟩=some (.int .i64 a)/\w'.cell? ⟨w.heap.size,1,none⟩=some (.int .i64 b)/\w'.cell? ⟨w.heap.size,2,none⟩=some (.int .i64 c)/\w'.cell? ⟨w.heap.size,3,none⟩=some (.int .i64 d))
     (exact Hi (by repeat (first | with_reducible exact P | with_reducible refine BCell.far ?_ (by omega) _ _ | with_reducible refine BCell.alloc ?_ _ | with_reducible refine BCell.drew ?_)))
     (fail)
    go_wp2
    go_roundw
    case rel=>exact⟨_,_,(by repeat (first | with_reducible exact P | with_reducible refine BCell.far ?_ (by omega) _ _ | with_reducible refine BCell.alloc ?_ _ | with_reducible refine BCell.drew ?_)),(by repeat (first | with_reducible exact D | with_reducible refine PCell.far ?_ (by omega) _ _ | with_reducible refine PCell.alloc ?_ _ | with_reducible refine PCell.drew ?_)),(by first | exact M.set0 _ | exact(M.set0 _).drew),(by repeat (first | with_reducible exact Hb.out | with_reducible refine Ap ?_ _ _ _ (by omega) | with_reducible refine Aa ?_ _ | with_reducible refine AE ?_)),Or.inr (Or.inl ⟨by go_num,rfl⟩)⟩
    case measure=>simp[intOf]
  . have E0:=hid e0;clear e0;go_wp2_with fail
    go_region_held3 (fun w'=>w'.cell? ⟨w.heap.size,0,none⟩=some (.int .i64 a)/\w'.cell? ⟨w.heap.size,1,none⟩=some (.int .i64 b)/\w'.cell? ⟨w.heap.size,2,none⟩=some (.int .i64 c)/\w'.cell? ⟨w.heap.size,3,none⟩=some (.int .i64 d))
     (exact Hi (by repeat (first | with_reducible exact P | with_reducible refine BCell.far ?_ (by omega) _ _ | with_reducible refine BCell.alloc ?_ _ | with_reducible refine BCell.drew ?_)))
     (fail)
    go_wp2
    go_roundw
    case rel=>exact⟨_,_,(by repeat (first | with_reducible exact P | with_reducible refine BCell.far ?_ (by omega) _ _ | with_reducible refine BCell.alloc ?_ _ | with_reducible refine BCell.drew ?_)),(by repeat (first | with_reducible exact D | with_reducible refine PCell.far ?_ (by omega) _ _ | with_reducible refine PCell.alloc ?_ _ | with_reducible refine PCell.drew ?_)),(by first | exact M.set1 _ | exact(M.set1 _).drew),(by repeat (first | with_reducible exact Hb.out | with_reducible refine Ap ?_ _ _ _ (by omega) | with_reducible refine Aa ?_ _ | with_reducible refine AE ?_)),Or.inr (Or.inr ⟨by go_num,E0.out,rfl⟩)⟩
    case measure=>simp[intOf]
  . subst e0 e1;clear pc0 pc1 pc2 pc3 pf0 pf1 pf2 pf3 pl;go_wp2_with fail;refine(DJ _ _ _).mono ?_;rintro e w9 ⟨rfl,B9⟩;have D9:=D.step B9;have H9:=hid (Ab Hb.out B9);clear B9 Hb P D M dc0 dc1 df0 df1 dl mc0 mc1 mf0 mf1 ml;have dc0:=D9.c0;have dc1:=D9.c1;have df0:=D9.f0;have df1:=D9.f1;have dl:=D9.lt;go_wp2;exact bodyPost_ret (v:=Bs (min (max x a) c) (min (max y b) d)) (by simp[results,Tryz.results51,go_sem,dc0,dc1]) rfl ⟨rfl,by repeat (first | with_reducible exact H9.out | with_reducible refine Ap ?_ _ _ _ (by omega) | with_reducible refine Aa ?_ _ | with_reducible refine AE ?_)⟩
open Go.RowKit
open M
theorem Ue{a b c d:Int}(h:Aw a b=true)(g:Aw c d=true):Dd a b c d=Q3 a b c d:=by simp[Dd,Q3,h,g]
theorem Hj{a c x:Int}(h:a<=c):min (max x a) c=max a (min x c):=by omega
theorem Q5{a b c d x y:Int}(h:Dd a b c d=true)(g:Aw x y=true)(e1:max a (min x c)=x)(e2:max b (min y d)=y):LN a b c d x y=true:=by
 rw[GP h g];have h1:=(EL a b c d).1 h;unfold Du;rw[BR (by omega),BR (by omega)];rfl
theorem Q6{a b c d x y:Int}(h:Dd a b c d=true)(g:Aw x y=true)(e1:¬ max a (min x c)=x):LN a b c d x y=false:=by
 rw[GP h g];have h1:=(EL a b c d).1 h;unfold Du;rw[CJ (by omega)];rfl
theorem Q7{a b c d x y:Int}(h:Dd a b c d=true)(g:Aw x y=true)(e2:¬ max b (min y d)=y):LN a b c d x y=false:=by
 rw[GP h g];have h1:=(EL a b c d).1 h;unfold Du;rw[CJ (n:=y) (by omega),Bool.and_false]
theorem Cg(a b c d:Int)(w:World):Calls Tryz.prog 46 #[box a b c d] w fun e w'=>e=.returned (.bool (Dd a b c d))/\Below w.heap.size w w':=by
 cases h:Aw a b
 . have E:=hid (QP (c:=c) (d:=d) h);go_enter Tryz.func46,Tryz.ntmps46;go_wp2_with fail;refine(A3 _ _ _).mono ?_;rintro e w1 ⟨rfl,B1⟩;have C1:=B1;clear B1;obtain⟨hc1,hf1⟩:=AC C1;have H1:=hid (Ab (Aa (Ac w) _) C1);go_wp2;go_ret;exact⟨Aq (by rw[E.out]),H1.out⟩
 cases g:Aw c d
 . have E:=hid (QQ (a:=a) (b:=b) g);go_enter Tryz.func46,Tryz.ntmps46;go_wp2_with fail;refine(A3 _ _ _).mono ?_;rintro e w1 ⟨rfl,B1⟩;have C1:=B1;clear B1;obtain⟨hc1,hf1⟩:=AC C1;have H1:=hid (Ab (Aa (Ac w) _) C1);go_wp2_with fail;refine(A3 _ _ _).mono ?_;rintro e w2 ⟨rfl,B2⟩;have C2:=Ab C1 B2;clear hc1 hf1 C1 B2;obtain⟨hc2,hf2⟩:=AC C2;have H2:=hid (Ab (Aa (Ac w) _) C2);go_wp2;go_ret;exact⟨Aq (by rw[E.out]),H2.out⟩
 . have E:=hid (Ue h g);go_enter Tryz.func46,Tryz.ntmps46;go_wp2_with fail;refine(A3 _ _ _).mono ?_;rintro e w1 ⟨rfl,B1⟩;have C1:=B1;clear B1;obtain⟨hc1,hf1⟩:=AC C1;have H1:=hid (Ab (Aa (Ac w) _) C1);go_wp2_with fail;refine(A3 _ _ _).mono ?_;rintro e w2 ⟨rfl,B2⟩;have C2:=Ab C1 B2;clear hc1 hf1 C1 B2;obtain⟨hc2,hf2⟩:=AC C2;have H2:=hid (Ab (Aa (Ac w) _) C2);go_wp2_with fail;refine(Eo _ _ _ _ _).mono ?_;rintro e w3 ⟨rfl,B3⟩;have C3:=Ab C2 B3;clear hc2 hf2 C2 B3;obtain⟨hc3,hf3⟩:=AC C3;have H3:=hid (Ab (Aa (Ac w) _) C3);go_wp2_with fail
   refine(Kz _ _ _ _ _).mono ?_;rintro e w4 ⟨rfl,B4⟩;have C4:=Ab C3 B4;clear hc3 hf3 C3 B4;obtain⟨hc4,hf4⟩:=AC C4;have H4:=hid (Ab (Aa (Ac w) _) C4);go_wp2;go_ret;exact⟨Aq (by rw[E.out]),H4.out⟩
theorem EN(a b c d x y:Int)(w:World):Calls Tryz.prog 33 #[box a b c d,Bs x y] w fun e w'=>e=.returned (.tuple #[Bs (UQ a b c d x y) (UR a b c d x y),.bool (NK a b c d x y)])/\Below w.heap.size w w':=by
 cases h:Dd a b c d
 . have e0:NK a b c d x y=false:=by simp[NK,h]
   have E0:=hid e0;have E:=hid (QR e0);clear e0;go_enter Tryz.func33,Tryz.ntmps33;go_wp2_with fail;refine(Cg _ _ _ _ _).mono ?_;rintro e w1 ⟨rfl,B1⟩;have C1:=B1;clear B1;obtain⟨hc1,hf1⟩:=AC C1;have H1:=hid (Ab (Aa (Aa (Aa (Ac w) _) _) _) C1);go_wp2;exact bodyPost_ret (v:=.tuple #[Bs 0 0,.bool false]) (by simp[results,Tryz.results33,go_sem,hc1]) rfl ⟨Cf (by rw[E.out.1]) (by rw[E.out.2]) (by rw[E0.out]),Ap (Ap (H1.out) _ _ _ (by omega)) _ _ _ (by omega)⟩
 cases g:Aw x y
 . have e0:NK a b c d x y=false:=by simp[NK,g]
   have E0:=hid e0;have E:=hid (QR e0);clear e0;go_enter Tryz.func33,Tryz.ntmps33;go_wp2_with fail;refine(Cg _ _ _ _ _).mono ?_;rintro e w1 ⟨rfl,B1⟩;have C1:=B1;clear B1;obtain⟨hc1,hf1⟩:=AC C1;have H1:=hid (Ab (Aa (Aa (Aa (Ac w) _) _) _) C1);go_wp2_with fail;refine(A3 _ _ _).mono ?_;rintro e w2 ⟨rfl,B2⟩;have C2:=Ab C1 B2;clear hc1 hf1 C1 B2;obtain⟨hc2,hf2⟩:=AC C2;have H2:=hid (Ab (Aa (Aa (Aa (Ac w) _) _) _) C2);go_wp2
   exact bodyPost_ret (v:=.tuple #[Bs 0 0,.bool false]) (by simp[results,Tryz.results33,go_sem,hc2]) rfl ⟨Cf (by rw[E.out.1]) (by rw[E.out.2]) (by rw[E0.out]),Ap (Ap (H2.out) _ _ _ (by omega)) _ _ _ (by omega)⟩
 . have e0:NK a b c d x y=true:=by simp[NK,h,g]
   have e1:=QS e0;obtain⟨_,_,ac,bd⟩:=(EL a b c d).1 h;rw[<- Hj (x:=x) ac,<- Hj (x:=y) bd] at e1;have E0:=hid e0;have E:=hid e1;clear e0 e1 ac bd;go_enter Tryz.func33,Tryz.ntmps33;go_wp2_with fail;refine(Cg _ _ _ _ _).mono ?_;rintro e w1 ⟨rfl,B1⟩;have O0:BCell w1 w.heap.size a b c d:=(((BCell.new w w.heap.size a b c d _ rfl).alloc _).alloc _).step B1;have O1:PCell w1 (w.heap.size+1) x y:=((PCell.new _ (w.heap.size+1) x y _ (by simp)).alloc _).step B1;have D:PCell w1 (w.heap.size+1+1) 0 0:=(PCell.new _ (w.heap.size+1+1) 0 0 _ (by simp)).step B1;have Hb:=hid (Ab (Aa (Aa (Aa (Ac w) _) _) _) B1)
   clear B1;have c1:=O1.c0;have c2:=O1.c1;go_wp2_with fail;refine(A3 _ _ _).mono ?_;rintro e w2 ⟨rfl,B2⟩;have P0:=O0.step B2;have P1:=O1.step B2;have D2:=D.step B2;have Hc:=hid (Ab Hb.out B2);clear B2 O0 O1 D Hb c1 c2;have O0:=P0;have O1:=P1;have D:=D2;have Hb:=Hc;clear P0 P1 D2 Hc;go_wp2_with fail
   go_region_held3 (fun w'=>(w'.cell? ⟨w.heap.size,0,none⟩=some (.int .i64 a)/\w'.cell? ⟨w.heap.size,1,none⟩=some (.int .i64 b)/\w'.cell? ⟨w.heap.size,2,none⟩=some (.int .i64 c)/\w'.cell? ⟨w.heap.size,3,none⟩=some (.int .i64 d))/\(w'.cell? ⟨w.heap.size+1,0,none⟩=some (.int .i64 x)/\w'.cell? ⟨w.heap.size+1,1,none⟩=some (.int .i64 y)))
    (exact⟨Hi (by repeat (first | with_reducible exact O0 | with_reducible refine BCell.far ?_ (by omega) _ _ | with_reducible refine BCell.alloc ?_ _ | with_reducible refine BCell.drew ?_)),SI (by repeat (first | with_reducible exact O1 | with_reducible refine PCell.far ?_ (by omega) _ _ | with_reducible refine PCell.alloc ?_ _ | with_reducible refine PCell.drew ?_))⟩)
    (first | (go_at_call 50; (with_reducible refine(Eo _ _ _ _ _).mono ?_); rintro e wn ⟨rfl,Bn⟩; have O0:=BCell.step (by first | with_reducible exact O0 | with_reducible exact O0.drew) Bn; have O1:=PCell.step (by first | with_reducible exact O1 | with_reducible exact O1.drew) Bn; have D:=PCell.step (by first | with_reducible exact D | with_reducible exact D.drew) Bn; have Hb:=hid (Ab (by first | with_reducible exact Hb.out | with_reducible exact AE Hb.out) Bn); clear Bn; have dc0:=D.c0; have dc1:=D.c1; have df0:=D.f0; have df1:=D.f1; have dl:=D.lt) | (go_at_call 51; (with_reducible refine(I9 _ _ _ _ _ _ _).mono ?_); rintro e wn ⟨rfl,Bn⟩; have O0:=BCell.step (by first | with_reducible exact O0 | with_reducible exact O0.drew) Bn; have O1:=PCell.step (by first | with_reducible exact O1 | with_reducible exact O1.drew) Bn; have D:=PCell.step (by first | with_reducible exact D | with_reducible exact D.drew) Bn; have Hb:=hid (Ab (by first | with_reducible exact Hb.out | with_reducible exact AE Hb.out) Bn); clear Bn; have dc0:=D.c0; have dc1:=D.c1; have df0:=D.f0; have df1:=D.f1; have dl:=D.lt))
   all_goals
    go_wp2;exact bodyPost_ret (v:=.tuple #[Bs (min (max x a) c) (min (max y b) d),.bool true]) (by simp[results,Tryz.results33,go_sem,D.c0,D.c1]) rfl ⟨Cf (by rw[E.out.1]) (by rw[E.out.2]) (by rw[E0.out]),by repeat (first | with_reducible exact Hb.out | with_reducible refine Ap ?_ _ _ _ (by omega) | with_reducible refine Aa ?_ _ | with_reducible refine AE ?_)⟩
theorem Gd(X Y x y:Int)(w:World):(binOp .eql 24 (.agg #[.int .i64 X,.int .i64 Y]) (.agg #[.int .i64 x,.int .i64 y])).run Tryz.prog w=.ok (.bool ((X==x)&&(Y==y))) w:=by
 have u3:=Tryz.underlying3;have a3:=Tryz.isAgg3;have z3:=Tryz.sizeOf3;have hS:Tryz.prog.underlying 24=some (.struct (Tryz.prog.fieldsOf 24)):=by kernel_rfl
 have hp:Tryz.prog.stoodInHeld 24=false:=by kernel_rfl
 rw[run_eql_struct,show(10000:Nat)=9999+1 from rfl,run_equalIn_agg w 9999 24 _ _ hS hp];simp only[Program.fieldsOf,Tryz.underlying24];go_simp;by_cases h1:X=x<;>by_cases h2:Y=y<;>simp[h1,h2]
theorem Da:Tryz.prog.eqGuardType Tryz.prog.depth 24=false:=by kernel_rfl
theorem FB(a b c d x y:Int)(w:World):Calls Tryz.prog 18 #[box a b c d,Bs x y] w fun e w'=>e=.returned (.bool (LN a b c d x y))/\Below w.heap.size w w':=by
 cases n0:NK a b c d x y
 . obtain⟨n1,n2⟩:=QR n0;have e:LN a b c d x y=false:=by
    cases h:Dd a b c d
    . exact TY h
    . cases g:Aw x y
      . exact TZ g
      . simp[NK,h,g] at n0
   have E:=hid e;have Q:=hid (show ∀ W:World,Calls Tryz.prog 33 #[box a b c d,Bs x y] W (fun e w'=>e=.returned (.tuple #[Bs 0 0,.bool false])/\Below W.heap.size W w') from fun W=>by have t:=EN a b c d x y W; rw[n1,n2,n0] at t; exact t);clear n0 n1 n2 e;have hev:=fun X Y W=>Gd X Y x y W;have hgd:=Da;go_enter Tryz.func18,Tryz.ntmps18;go_wp2_with fail;refine(Q.out _).mono ?_;rintro e w1 ⟨rfl,B1⟩;have C1:=B1;clear B1;obtain⟨hc1,hf1⟩:=AC C1;have H1:=hid (Ab (Aa (Aa (Ac w) _) _) C1);have l1:w.heap.size+1<w1.heap.size:=by have:=C1.size; simp at this; omega
   clear Q;go_wp2;go_ret;exact⟨Aq (by rw[E.out]),by repeat (first | with_reducible exact H1.out | with_reducible refine Aa ?_ _)⟩
 obtain⟨n1,n2⟩:=QS n0;have hg:Dd a b c d=true/\Aw x y=true:=by simpa[NK] using n0
 obtain⟨h,g⟩:=hg;by_cases e1:max a (min x c)=x
 . by_cases e2:max b (min y d)=y
   . have E:=hid (Q5 h g e1 e2);rw[e1] at n1;rw[e2] at n2;have Q:=hid (show ∀ W:World,Calls Tryz.prog 33 #[box a b c d,Bs x y] W (fun e w'=>e=.returned (.tuple #[Bs x y,.bool true])/\Below W.heap.size W w') from fun W=>by have t:=EN a b c d x y W; rw[n1,n2,n0] at t; exact t);clear n0 n1 n2 e1 e2 h g;have hev:=fun X Y W=>Gd X Y x y W;have hgd:=Da;go_enter Tryz.func18,Tryz.ntmps18;go_wp2_with fail;refine(Q.out _).mono ?_;rintro e w1 ⟨rfl,B1⟩;have C1:=B1;clear B1;obtain⟨hc1,hf1⟩:=AC C1;have H1:=hid (Ab (Aa (Aa (Ac w) _) _) C1)
     have l1:w.heap.size+1<w1.heap.size:=by have:=C1.size; simp at this; omega
     clear Q;go_wp2;go_ret;exact⟨Aq (by rw[E.out]),by repeat (first | with_reducible exact H1.out | with_reducible refine Aa ?_ _)⟩
   . have E:=hid (Q7 h g e2);rw[e1] at n1;obtain⟨Y,eY⟩:∃ Y,max b (min y d)=Y:=⟨_,rfl⟩;rw[eY] at n2 e2;have e2:¬ Y=y:=e2;have Q:=hid (show ∀ W:World,Calls Tryz.prog 33 #[box a b c d,Bs x y] W (fun e w'=>e=.returned (.tuple #[Bs x Y,.bool true])/\Below W.heap.size W w') from fun W=>by have t:=EN a b c d x y W; rw[n1,n2,n0] at t; exact t);clear n0 n1 n2 e1 eY h g;have hev:=fun X Y W=>Gd X Y x y W;have hgd:=Da;go_enter Tryz.func18,Tryz.ntmps18;go_wp2_with fail;refine(Q.out _).mono ?_;rintro e w1 ⟨rfl,B1⟩;have C1:=B1;clear B1;obtain⟨hc1,hf1⟩:=AC C1;have H1:=hid (Ab (Aa (Aa (Ac w) _) _) C1)
     have l1:w.heap.size+1<w1.heap.size:=by have:=C1.size; simp at this; omega
     clear Q;go_wp2;go_ret;exact⟨Aq (by rw[E.out]; simp[e2]),by repeat (first | with_reducible exact H1.out | with_reducible refine Aa ?_ _)⟩
 . have E:=hid (Q6 h g e1);obtain⟨X,eX⟩:∃ X,max a (min x c)=X:=⟨_,rfl⟩;obtain⟨Y,eY⟩:∃ Y,max b (min y d)=Y:=⟨_,rfl⟩;rw[eX] at n1 e1;rw[eY] at n2;have Q:=hid (show ∀ W:World,Calls Tryz.prog 33 #[box a b c d,Bs x y] W (fun e w'=>e=.returned (.tuple #[Bs X Y,.bool true])/\Below W.heap.size W w') from fun W=>by have t:=EN a b c d x y W; rw[n1,n2,n0] at t; exact t);clear n0 n1 n2 eX eY h g;have hev:=fun X Y W=>Gd X Y x y W;have hgd:=Da;go_enter Tryz.func18,Tryz.ntmps18;go_wp2_with fail;refine(Q.out _).mono ?_;rintro e w1 ⟨rfl,B1⟩;have C1:=B1;clear B1;obtain⟨hc1,hf1⟩:=AC C1
   have H1:=hid (Ab (Aa (Aa (Ac w) _) _) C1);have l1:w.heap.size+1<w1.heap.size:=by have:=C1.size; simp at this; omega
   clear Q;go_wp2;go_ret;exact⟨Aq (by rw[E.out]; simp[e1]),by repeat (first | with_reducible exact H1.out | with_reducible refine Aa ?_ _)⟩
theorem LR(a b c d x y r:Int)(w:World)(h:Dd a b c d=true)(x1:-2000000<=x)(x2:x<=2000000)(y1:-2000000<=y)(y2:y<=2000000)(r0:0<=r)(r1:r<=1000000):Calls Tryz.prog 65 #[box a b c d,Bs x y,.int .i64 r] w fun e w'=>e=.returned (.bool (NL a b c d x y r))/\Below w.heap.size w w':=by
 obtain⟨⟨⟨a1,a2⟩,b1,b2⟩,⟨⟨c1,c2⟩,d1,d2⟩,ac,bd⟩:=(EL a b c d).1 h;have n3:-1000000<=max a (min x c)/\max a (min x c)<=1000000:=by omega
 have n4:-1000000<=max b (min y d)/\max b (min y d)<=1000000:=by omega
 have E:=hid (show NL a b c d x y r=decide ((x-max a (min x c))*(x-max a (min x c))+(y-max b (min y d))*(y-max b (min y d))<=r*r) from rfl);have Q:=hid (fun W:World=>I9 a b c d x y W);rw[Hj (x:=x) ac,Hj (x:=y) bd] at Q;obtain⟨X,eX⟩:∃ X,max a (min x c)=X:=⟨_,rfl⟩;obtain⟨Y,eY⟩:∃ Y,max b (min y d)=Y:=⟨_,rfl⟩;rw[eX] at n3 E Q;rw[eY] at n4 E Q;clear eX eY h ac bd;have m1:=Cm (a:=x-X) (b:=x-X) (by omega) (by omega) (by omega) (by omega);have m2:=Cm (a:=y-Y) (b:=y-Y) (by omega) (by omega) (by omega) (by omega);have m3:=Cm (a:=r) (b:=r) (by omega) (by omega) (by omega) (by omega)
 have v1:IntKind.i64.wrap (x-X)=x-X:=IntWalk.i64_in _ (by omega);have v2:IntKind.i64.wrap (y-Y)=y-Y:=IntWalk.i64_in _ (by omega);go_enter Tryz.func65,Tryz.ntmps65;go_wp2_with fail;refine(Q.out _).mono ?_;rintro e w1 ⟨rfl,B1⟩;have C1:=B1;clear B1;obtain⟨hc1,hf1⟩:=AC C1;have H1:=hid (Ab (Aa (Aa (Ac w) _) _) C1);have l1:w.heap.size+1<w1.heap.size:=by have:=C1.size; simp at this; omega
 clear Q;go_wp2_with fail
 go_quiet (fail)
 go_wp2;go_ret;exact⟨Aq (by rw[E.out]),by repeat (first | with_reducible exact H1.out | with_reducible refine Aa ?_ _ | with_reducible refine BD ?_ _)⟩
end Go.Proofs.YtaemcekcancpdaaGreatDoor
