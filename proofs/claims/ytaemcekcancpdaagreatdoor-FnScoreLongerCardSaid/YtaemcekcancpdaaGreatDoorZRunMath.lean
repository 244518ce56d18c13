import Derived.Test.YtaemcekcancpdaaGreatDoorZRunA
import Derived.Test.YtaemcekcancpdaaGreatDoorZTo
set_option linter.all false
set_option maxRecDepth 100000
set_option maxHeartbeats 8000000
open Go.Lib
namespace Go.Proofs.YtaemcekcancpdaaGreatDoor
open Go.RowKit
open M
open Ren
theorem LA(t b:Int):∀(xs:List In) (i ps s0:Int),0<=i->JN t b xs i ps s0=-1->(∀ q∈xs,DY q.s q.p q.z=true)/\∀ j:Nat,j<xs.length->i+j<t
 | [],i,ps,s0,_,_=>⟨fun q hq=>(by cases hq),fun j hj=>(by simp at hj)⟩
 | q::xs,i,ps,s0,hi,h=>by
  cases g:En t b i ps s0 q
  . rw[FL g] at h;obtain⟨h1,h2⟩:=LA t b xs _ _ _ (by omega) h;obtain⟨g1,_,g3⟩:=Pv g;refine⟨fun z hz=>?_,fun j hj=>?_⟩
    . rcases List.mem_cons.1 hz with rfl | hz
      . exact Gj g3
      . exact h1 z hz
    . rcases j with _ | j
      . simpa using g1
      . have:=h2 j (by simpa using hj);omega
  . rw[B7 g] at h;omega
def Lv.ev(L:Lv)(s:St):Bool:=evB L.i L.t L.x L.y L.ws L.gs L.fp L.fq L.fs L.fz L.b s.k s.ax s.ay s.fx s.fy s.u s.g s.d s.o
abbrev Lv.sS(L:Lv):St->In->St:=stS L.ws L.gs L.fp L.fq L.fs L.fz
theorem Lv.goes(L:Lv):∀(xs:List In) (i:Nat) (s:St),L.ev s=true->(s.k=i\/(s.k<i/\(s.d||s.o)=true))->(∀ q∈xs,DY q.s q.p q.z=true)->(∀ j:Nat,j<xs.length->(i:Int)+j<L.t) ->
 xs.foldl L.nx s=xs.foldl L.sS s/\L.ev (xs.foldl L.nx s)=true/\((xs.foldl L.nx s).k=(i+xs.length:Nat)\/((xs.foldl L.nx s).k<(i+xs.length:Nat)/\((xs.foldl L.nx s).d||(xs.foldl L.nx s).o)=true))
 | [],i,s,he,hk,_,_=>⟨rfl,he,hk⟩
 | q::xs,i,s,he,hk,hv,ht=>by
  have h0:=ht 0 (by simp);have eo:eoB L.i L.t L.x L.y L.ws L.gs L.fp L.fq L.fs L.fz L.b s.k s.ax s.ay s.fx s.fy s.u s.g s.d s.o q.s q.p q.z=true:=(JK ..).2 ⟨he,hv q (List.mem_cons_self ..),hk.elim (fun h=>.inl (by omega)) fun h=>.inr h.2⟩;have e1:L.nx s q=L.sS s q:=Po eo;have e2:L.ev (L.nx s q)=true:=NP eo (K:=(L.nx s q).k) (X:=(L.nx s q).ax) (Y:=(L.nx s q).ay) (P:=(L.nx s q).fx) (Q:=(L.nx s q).fy) (U:=(L.nx s q).u) (V:=(L.nx s q).g) (D:=(L.nx s q).d) (O:=(L.nx s q).o) rfl
  have T:=JL eo (K:=(L.nx s q).k) (X:=(L.nx s q).ax) (Y:=(L.nx s q).ay) (P:=(L.nx s q).fx) (Q:=(L.nx s q).fy) (U:=(L.nx s q).u) (V:=(L.nx s q).g) (D:=(L.nx s q).d) (O:=(L.nx s q).o) rfl;have e3:(L.nx s q).k=(i+1:Nat)\/((L.nx s q).k<(i+1:Nat)/\((L.nx s q).d||(L.nx s q).o)=true):=by
   cases c:(s.d||s.o)
   . have:=T.tick c;rcases hk with h | ⟨_,h⟩
     . left; omega
     . rw[c] at h; cases h
   . obtain⟨h1,_,_,_,_,_,_,h8,h9⟩:=T.stop c;right;rw[h8,h9,c];refine⟨?_,rfl⟩;rcases hk with h | ⟨h,_⟩<;>omega
  have:=L.goes xs (i+1) (L.nx s q) e2 e3 (fun z hz=>hv z (List.mem_cons_of_mem _ hz)) (fun j hj=>by have:=ht (j+1) (by simpa using hj); omega);rw[show i+1+xs.length=i+(q::xs).length from by simp; omega] at this;simp only[List.foldl_cons];rw[<- e1];exact this
theorem Lv.start_ok{L:Lv}(h:L.ok=true):L.s0=⟨0,L.x,L.y,0,0,0,0,false,false⟩/\L.ev L.s0=true:=by
 have e:L.s0=⟨0,L.x,L.y,0,0,0,0,false,false⟩:=by unfold Lv.s0; rw[h]; rfl
 exact⟨e,by rw[e]; exact Pp h⟩
theorem BZ{L:Lv}{xs:List In}{n:Nat}{k0:Int}:B8 L xs n k0=true↔(0<=k0/\k0<=n)/\L.ok=true/\Ku L.t L.b xs=-1:=by
 simp only[B8,Bool.and_eq_true,decide_eq_true_eq];constructor
 . rintro⟨h1,h2,h3⟩;cases h:L.ok
   . have h:Cr L.i L.t L.x L.y L.ws L.gs L.fp L.fq L.fs L.fz L.b=false:=h;simp[JO,h] at h3
   . have h':Cr L.i L.t L.x L.y L.ws L.gs L.fp L.fq L.fs L.fz L.b=true:=h;simp only[JO,h',if_true] at h3;exact⟨⟨h1,h2⟩,rfl,h3⟩
 . rintro⟨⟨h1,h2⟩,h,h3⟩;have h':Cr L.i L.t L.x L.y L.ws L.gs L.fp L.fq L.fs L.fz L.b=true:=h;exact⟨h1,h2,by simp only[JO,h',if_true]; exact h3⟩
theorem Ko{L:Lv}{xs:List In}{n:Nat}{k0:Int}(hl:xs.length=n)(h:B8 L xs n k0=true) :
 L.run (xs.take k0.toNat)=toS L.ws L.gs L.fp L.fq L.fs L.fz ⟨0,L.x,L.y,0,0,0,0,false,false⟩ (xs.take k0.toNat)/\L.ev (L.run (xs.take k0.toNat))=true /\
  ((L.run (xs.take k0.toNat)).k=k0\/((L.run (xs.take k0.toNat)).k<k0/\((L.run (xs.take k0.toNat)).d||(L.run (xs.take k0.toNat)).o)=true)):=by
 obtain⟨⟨h1,h2⟩,hok,hlg⟩:=BZ.1 h;obtain⟨e0,ev0⟩:=Lv.start_ok hok;obtain⟨hin,hlt⟩:=LA L.t L.b (xs.take k0.toNat) 0 0 0 (by omega) (JQ L.t L.b xs k0.toNat 0 0 0 (by omega) hlg);have:=L.goes (xs.take k0.toNat) 0 L.s0 ev0 (.inl (by rw[e0]; rfl)) hin (fun j hj=>by have:=hlt j hj; omega);have el:((0+(xs.take k0.toNat).length:Nat):Int)=k0:=by
  rw[List.length_take];omega
 rw[el] at this;refine⟨?_,this.2.1,this.2.2⟩
 show(xs.take k0.toNat).foldl L.nx L.s0=_
 rw[this.1,e0];rfl
theorem LB(L:Lv)(D:Option Addr)(k cc:Nat)(xs:List In)(w:World)(I:Boxes w L.A L.n L.ws)(J:Boxes w L.G L.m L.gs)(hn:L.n<=281474976710656)(hm:L.m<=281474976710656)(Y:Inputs w D k xs)(hk:k<=281474976710656) :
 Calls Tryz.prog 26 #[L.val,.slice D k cc] w fun e w'=>e=.returned (.bool (decide (JO L.i L.t L.x L.y L.ws L.gs L.fp L.fq L.fs L.fz L.b xs=-1)))/\Below w.heap.size w w':=by
 have V:=fun(W:World) (Z:Boxes W L.A L.n L.ws) (X:Boxes W L.G L.m L.gs)=>KO L.i L.t L.x L.y L.A L.n L.c L.G L.m L.kk L.fp L.fq L.fs L.fz L.b L.ws L.gs W Z X hn hm;have P:CellsAt (w.alloc (.cells #[.int .i64 L.i,.int .i64 L.t,.int .i64 L.x,.int .i64 L.y,.slice L.A L.n L.c,.slice L.G L.m L.kk,.int .i64 L.fp,.int .i64 L.fq,.int .i64 L.fs,.int .i64 L.fz,.int .i64 L.b] 29)) w.heap.size L.cs:=CellsAt.new w _ _ _ rfl;have I:=hid (I.alloc (.cells #[.int .i64 L.i,.int .i64 L.t,.int .i64 L.x,.int .i64 L.y,.slice L.A L.n L.c,.slice L.G L.m L.kk,.int .i64 L.fp,.int .i64 L.fq,.int .i64 L.fs,.int .i64 L.fz,.int .i64 L.b] 29))
 have J:=hid (J.alloc (.cells #[.int .i64 L.i,.int .i64 L.t,.int .i64 L.x,.int .i64 L.y,.slice L.A L.n L.c,.slice L.G L.m L.kk,.int .i64 L.fp,.int .i64 L.fq,.int .i64 L.fs,.int .i64 L.fz,.int .i64 L.b] 29));have Y:=hid Y;have H:=hid (Aa (Ac w) (.cells #[.int .i64 L.i,.int .i64 L.t,.int .i64 L.x,.int .i64 L.y,.slice L.A L.n L.c,.slice L.G L.m L.kk,.int .i64 L.fp,.int .i64 L.fq,.int .i64 L.fs,.int .i64 L.fz,.int .i64 L.b] 29));cases h:Cr L.i L.t L.x L.y L.ws L.gs L.fp L.fq L.fs L.fz L.b
 . rw[h] at V;have E:=hid (show decide (JO L.i L.t L.x L.y L.ws L.gs L.fp L.fq L.fs L.fz L.b xs=-1)=false by simp[JO,h]);have V:=hid V;clear h;go_enter Tryz.func26,Tryz.ntmps26;go_upto_region 1 with fail;refine wp_region_lit ?_;refine Af rfl 29 (.tmp 2) rfl w.heap.size rfl L.cs P Tryz.underlying29 rfl Ad ?_;go_wp;refine(V.out _ I.out J.out).mono ?_;rintro e w1 ⟨rfl,B⟩;have H:=hid (Ab H.out B);clear B;go_wp2;go_ret;exact⟨by rw[E.out]; rfl,H.out⟩
 . obtain⟨b0,b3⟩:=M6 h;have hb:=Pw L.t L.b xs 0 0 0;have E:=hid (show decide (JO L.i L.t L.x L.y L.ws L.gs L.fp L.fq L.fs L.fz L.b xs=-1)=decide (Ku L.t L.b xs<0) by
    simp only[JO,h,if_true];have hb:Ku L.t L.b xs=-1\/_:=hb;apply Bool.eq_iff_iff.2;simp only[decide_eq_true_eq];have:JN L.t L.b xs 0 0 0=Ku L.t L.b xs:=rfl;omega)
   rw[h] at V;have V:=hid V;have C:=hid (fun(W:World) (Z:Inputs W D k xs)=>Fl L.i L.t L.x L.y L.A L.n L.c L.G L.m L.kk L.fp L.fq L.fs L.fz L.b D k cc xs W Z hk b0 b3);clear h hb;go_enter Tryz.func26,Tryz.ntmps26;go_upto_region 1 with fail;refine wp_region_lit ?_;refine Af rfl 29 (.tmp 2) rfl w.heap.size rfl L.cs P Tryz.underlying29 rfl Ad ?_;go_wp;refine(V.out _ I.out J.out).mono ?_;rintro e w1 ⟨rfl,B⟩;have P1:=P.step B;have H:=hid (Ab H.out B);clear B;dsimp only
   iterate 4 go_step
   refine Az (by simp[Region.wanted,yielded]) 29 (.tmp 2) rfl w.heap.size rfl L.cs P1 Tryz.underlying29 rfl Ad ?_;go_wp;rename_i K hK;refine(C.out _ (Y.out.step H.out)).mono ?_;rintro e w2 ⟨rfl,B⟩;have H:=hid (Ab H.out B);clear B P1;dsimp only;apply hK;go_wp2;go_ret;exact⟨by rw[E.out]; rfl,H.out⟩
theorem SB{L:Lv}(h:L.ok=true):(Dh L.ws=true/\(-1000000<=L.x/\L.x<=1000000))/\(-1000000<=L.y/\L.y<=1000000):=by
 have h':Cr L.i L.t L.x L.y L.ws L.gs L.fp L.fq L.fs L.fz L.b=true:=h;obtain⟨_,_,h3,_,h5,_⟩:=(Di ..).1 h';simp only[Aw,okB,Bc,Bool.and_eq_true,decide_eq_true_eq] at h3;exact⟨⟨h5,by omega⟩,by omega⟩
theorem Nw(L:Lv)(D:Option Addr)(k cc:Nat)(xs:List In)(k0:Int)(w:World)(I:Boxes w L.A L.n L.ws)(J:Boxes w L.G L.m L.gs)(hn:L.n<=281474976710656)(hm:L.m<=281474976710656)(Y:Inputs w D k xs)(hk:k<=1000) :
 Calls Tryz.prog 11 #[L.val,.slice D k cc,.int .i64 k0] w fun e w'=>e=.returned (L.ans xs k k0)/\Below w.heap.size w w':=by
 have hl:=Y.1;have P:CellsAt ((w.alloc (.cells #[.int .i64 L.i,.int .i64 L.t,.int .i64 L.x,.int .i64 L.y,.slice L.A L.n L.c,.slice L.G L.m L.kk,.int .i64 L.fp,.int .i64 L.fq,.int .i64 L.fs,.int .i64 L.fz,.int .i64 L.b] 29)).alloc (.cells #[.int .i64 0,.int .i64 0,.int .i64 0,.int .i64 0,.int .i64 0,.int .i64 0,.int .i64 0,.bool false,.bool false] 34)) w.heap.size L.cs:=(CellsAt.new w _ _ _ rfl).alloc _
 have Q:CellsAt ((w.alloc (.cells #[.int .i64 L.i,.int .i64 L.t,.int .i64 L.x,.int .i64 L.y,.slice L.A L.n L.c,.slice L.G L.m L.kk,.int .i64 L.fp,.int .i64 L.fq,.int .i64 L.fs,.int .i64 L.fz,.int .i64 L.b] 29)).alloc (.cells #[.int .i64 0,.int .i64 0,.int .i64 0,.int .i64 0,.int .i64 0,.int .i64 0,.int .i64 0,.bool false,.bool false] 34)) (w.heap.size+1) (svs z0):=CellsAt.new _ _ _ _ (by simp)
 have V:=hid (LB L D k cc xs ((w.alloc (.cells #[.int .i64 L.i,.int .i64 L.t,.int .i64 L.x,.int .i64 L.y,.slice L.A L.n L.c,.slice L.G L.m L.kk,.int .i64 L.fp,.int .i64 L.fq,.int .i64 L.fs,.int .i64 L.fz,.int .i64 L.b] 29)).alloc (.cells #[.int .i64 0,.int .i64 0,.int .i64 0,.int .i64 0,.int .i64 0,.int .i64 0,.int .i64 0,.bool false,.bool false] 34)) ((I.alloc _).alloc _) ((J.alloc _).alloc _) hn hm ((Y.alloc _).alloc _) (by omega))
 have H:=hid (Aa (Aa (Ac w) (.cells #[.int .i64 L.i,.int .i64 L.t,.int .i64 L.x,.int .i64 L.y,.slice L.A L.n L.c,.slice L.G L.m L.kk,.int .i64 L.fp,.int .i64 L.fq,.int .i64 L.fs,.int .i64 L.fz,.int .i64 L.b] 29)) (.cells #[.int .i64 0,.int .i64 0,.int .i64 0,.int .i64 0,.int .i64 0,.int .i64 0,.int .i64 0,.bool false,.bool false] 34));have I:=hid I;have J:=hid J;have Y:=hid Y;go_enter Tryz.func11,Tryz.ntmps11;go_upto_region 1 with fail;refine wp_region_lit ?_;refine Af rfl 29 (.tmp 3) rfl w.heap.size rfl L.cs P Tryz.underlying29 rfl Ad ?_;go_wp;refine V.out.mono ?_;rintro e w1 ⟨rfl,B⟩;have P:=P.step B;have Q:=Q.step B
 replace H:=hid (Ab H.out B);clear B V;dsimp only;cases hI:decide (JO L.i L.t L.x L.y L.ws L.gs L.fp L.fq L.fs L.fz L.b xs=-1)
 . have E:=hid (show B8 L xs k k0=false by simp[B8,hI]);clear hI;go_upto_region 2 with fail;refine wp_region_lit ?_
   iterate 3 go_step
   refine Ai rfl 34 (.tmp 6) (.tmp 19) rfl (w.heap.size+1) rfl (svs z0) rfl _ Q (Nat.le_refl _) Ae rfl ?_;intro w2 K S;have H:=Ao H.out K (by omega);go_wp;exact bodyPost_ret (v:=.tuple #[sva z0,.bool false]) (AY rfl (w.heap.size+1) rfl (svs z0) S (.bool false) rfl Tryz.underlying34 rfl Ae) rfl ⟨by rw[Lv.ans,E.out]; rfl,H⟩
 . go_wp;rename_i K hK;refine(Gy _ _ _ _).mono ?_;rintro e w' ⟨rfl,rfl⟩;dsimp only;apply hK;clear hK K;cases hB:Bc k0 0 k
   . have E:=hid (show B8 L xs k k0=false by
      simp only[Bc,Bool.and_eq_false_iff,decide_eq_false_iff_not] at hB;simp only[B8,Bool.and_eq_false_iff,decide_eq_false_iff_not];omega)
     clear hB hI;go_upto_region 2 with fail;refine wp_region_lit ?_
     iterate 3 go_step
     refine Ai rfl 34 (.tmp 6) (.tmp 19) rfl (w.heap.size+1) rfl (svs z0) rfl _ Q (Nat.le_refl _) Ae rfl ?_;intro w2 K S;have H:=Ao H.out K (by omega);go_wp;exact bodyPost_ret (v:=.tuple #[sva z0,.bool false]) (AY rfl (w.heap.size+1) rfl (svs z0) S (.bool false) rfl Tryz.underlying34 rfl Ae) rfl ⟨by rw[Lv.ans,E.out]; rfl,H⟩
   . have hok:B8 L xs k k0=true:=by
      simp only[Bc,Bool.and_eq_true,decide_eq_true_eq] at hB;simp only[decide_eq_true_eq] at hI;simp only[B8,Bool.and_eq_true,decide_eq_true_eq];exact⟨hB.1,hB.2,hI⟩
     obtain⟨⟨h1,h2⟩,hlv,hlg⟩:=BZ.1 hok;have er:=(Ko hl hok).1;obtain⟨⟨hb,hx⟩,hy⟩:=SB hlv;have E:=hid (show L.ans xs k k0=.tuple #[sva (toS L.ws L.gs L.fp L.fq L.fs L.fz ⟨0,L.x,L.y,0,0,0,0,false,false⟩ (xs.take k0.toNat)),.bool true] by
      rw[Lv.ans,hok,if_pos rfl,er])
     have vx:VIn xs:=(LA L.t L.b xs 0 0 0 (by omega) hlg).1;obtain⟨j0,rfl⟩:=Int.eq_ofNat_of_zero_le h1;have T:=hid (Qw L.i L.t L.x L.y L.A L.n L.c L.G L.m L.kk L.fp L.fq L.fs L.fz L.b L.ws L.gs D k cc xs j0 w1 (I.out.step H.out) (J.out.step H.out) (Y.out.step H.out) hb hn hm hk (by omega) vx hx hy);clear hB hI hok er vx hlg hlv I J Y;go_upto_region 3 with fail;refine wp_region_lit ?_;refine Af rfl 29 (.tmp 3) rfl w.heap.size rfl L.cs P Tryz.underlying29 rfl Ad ?_;go_wp;refine T.out.mono ?_;rintro e w2 ⟨rfl,B⟩;have Q:=Q.step B;replace H:=hid (Ab H.out B);clear B T P;dsimp only;go_step
     refine Ai rfl 34 (.tmp 6) (.tmp 23) rfl (w.heap.size+1) rfl (svs (toS L.ws L.gs L.fp L.fq L.fs L.fz ⟨0,L.x,L.y,0,0,0,0,false,false⟩ (xs.take j0))) rfl _ Q (Nat.le_refl _) Ae rfl ?_;intro w3 K S;have H:=Ao H.out K (by omega);go_wp;exact bodyPost_ret (v:=.tuple #[sva (toS L.ws L.gs L.fp L.fq L.fs L.fz ⟨0,L.x,L.y,0,0,0,0,false,false⟩ (xs.take j0)),.bool true]) (AY rfl (w.heap.size+1) rfl (svs (toS L.ws L.gs L.fp L.fq L.fs L.fz ⟨0,L.x,L.y,0,0,0,0,false,false⟩ (xs.take j0))) S (.bool true) rfl Tryz.underlying34 rfl Ae) rfl ⟨by rw[E.out]; rfl,H⟩
end Go.Proofs.YtaemcekcancpdaaGreatDoor
