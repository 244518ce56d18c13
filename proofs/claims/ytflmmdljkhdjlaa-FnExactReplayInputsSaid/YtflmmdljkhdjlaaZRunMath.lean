import Derived.Test.YtflmmdljkhdjlaaZLvT
import Derived.Test.YtflmmdljkhdjlaaZTo
set_option linter.all false
set_option maxRecDepth 100000
set_option maxHeartbeats 8000000
open Go.Lib
namespace Go.Proofs.Ytflmmdljkhdjlaa
open Go.RowKit
open M
theorem FT(t b:Int):∀(xs:List In) (i ps s0:Int),0<=i->FE t b xs i ps s0=-1->(∀ q∈xs,Bp q.s q.p q.z=true)/\∀ j:Nat,j<xs.length->i+j<t
 | [],i,ps,s0,_,_=>⟨fun q hq=>(by cases hq),fun j hj=>(by simp at hj)⟩
 | q::xs,i,ps,s0,hi,h=>by
  cases g:Cf t b i ps s0 q
  . rw[El g] at h;obtain⟨h1,h2⟩:=FT t b xs _ _ _ (by omega) h;obtain⟨g1,_,g3⟩:=IY g;refine⟨fun z hz=>?_,fun j hj=>?_⟩
    . rcases List.mem_cons.1 hz with rfl | hz
      . exact Fv g3
      . exact h1 z hz
    . rcases j with _ | j
      . simpa using g1
      . have:=h2 j (by simpa using hj);omega
  . rw[BA g] at h;omega
def Lv.ev(L:Lv)(s:St):Bool:=evB L.i L.t L.x L.y L.ws L.gs L.fp L.fq L.fs L.fz L.b s.k s.ax s.ay s.fx s.fy s.u s.g s.d s.o
abbrev Lv.sS(L:Lv):St->In->St:=Dk L.ws L.gs L.fp L.fq L.fs L.fz
theorem Lv.goes(L:Lv):∀(xs:List In) (i:Nat) (s:St),L.ev s=true->(s.k=i\/(s.k<i/\(s.d||s.o)=true))->(∀ q∈xs,Bp q.s q.p q.z=true)->(∀ j:Nat,j<xs.length->(i:Int)+j<L.t) ->
 xs.foldl L.nx s=xs.foldl L.sS s/\L.ev (xs.foldl L.nx s)=true/\((xs.foldl L.nx s).k=(i+xs.length:Nat)\/((xs.foldl L.nx s).k<(i+xs.length:Nat)/\((xs.foldl L.nx s).d||(xs.foldl L.nx s).o)=true))
 | [],i,s,he,hk,_,_=>⟨rfl,he,hk⟩
 | q::xs,i,s,he,hk,hv,ht=>by
  have h0:=ht 0 (by simp);have eo:eoB L.i L.t L.x L.y L.ws L.gs L.fp L.fq L.fs L.fz L.b s.k s.ax s.ay s.fx s.fy s.u s.g s.d s.o q.s q.p q.z=true:=(Gk ..).2 ⟨he,hv q (List.mem_cons_self ..),hk.elim (fun h=>.inl (by omega)) fun h=>.inr h.2⟩;have e1:L.nx s q=L.sS s q:=Ii eo;have e2:L.ev (L.nx s q)=true:=Hi eo (K:=(L.nx s q).k) (X:=(L.nx s q).ax) (Y:=(L.nx s q).ay) (P:=(L.nx s q).fx) (Q:=(L.nx s q).fy) (U:=(L.nx s q).u) (V:=(L.nx s q).g) (D:=(L.nx s q).d) (O:=(L.nx s q).o) rfl
  have T:=GI eo (K:=(L.nx s q).k) (X:=(L.nx s q).ax) (Y:=(L.nx s q).ay) (P:=(L.nx s q).fx) (Q:=(L.nx s q).fy) (U:=(L.nx s q).u) (V:=(L.nx s q).g) (D:=(L.nx s q).d) (O:=(L.nx s q).o) rfl;have e3:(L.nx s q).k=(i+1:Nat)\/((L.nx s q).k<(i+1:Nat)/\((L.nx s q).d||(L.nx s q).o)=true):=by
   cases c:(s.d||s.o)
   . have:=T.tick c;rcases hk with h | ⟨_,h⟩
     . left; omega
     . rw[c] at h; cases h
   . obtain⟨h1,_,_,_,_,_,_,h8,h9⟩:=T.stop c;right;rw[h8,h9,c];refine⟨?_,rfl⟩;rcases hk with h | ⟨h,_⟩<;>omega
  have:=L.goes xs (i+1) (L.nx s q) e2 e3 (fun z hz=>hv z (List.mem_cons_of_mem _ hz)) (fun j hj=>by have:=ht (j+1) (by simpa using hj); omega);rw[show i+1+xs.length=i+(q::xs).length from by simp; omega] at this;simp only[List.foldl_cons];rw[<- e1];exact this
theorem Lv.start_ok{L:Lv}(h:L.ok=true):L.s0=⟨0,L.x,L.y,0,0,0,0,false,false⟩/\L.ev L.s0=true:=by
 have e:L.s0=⟨0,L.x,L.y,0,0,0,0,false,false⟩:=by unfold Lv.s0; rw[h]; rfl
 exact⟨e,by rw[e]; exact Ij h⟩
theorem Cs{L:Lv}{xs:List In}{n:Nat}{k0:Int}:Fi L xs n k0=true↔(0<=k0/\k0<=n)/\L.ok=true/\Gd L.t L.b xs=-1:=by
 simp only[Fi,Bool.and_eq_true,decide_eq_true_eq];constructor
 . rintro⟨h1,h2,h3⟩;cases h:L.ok
   . have h:BX L.i L.t L.x L.y L.ws L.gs L.fp L.fq L.fs L.fz L.b=false:=h;simp[HF,h] at h3
   . have h':BX L.i L.t L.x L.y L.ws L.gs L.fp L.fq L.fs L.fz L.b=true:=h;simp only[HF,h',if_true] at h3;exact⟨⟨h1,h2⟩,rfl,h3⟩
 . rintro⟨⟨h1,h2⟩,h,h3⟩;have h':BX L.i L.t L.x L.y L.ws L.gs L.fp L.fq L.fs L.fz L.b=true:=h;exact⟨h1,h2,by simp only[HF,h',if_true]; exact h3⟩
theorem Iu{L:Lv}{xs:List In}{n:Nat}{k0:Int}(hl:xs.length=n)(h:Fi L xs n k0=true) :
 L.run (xs.take k0.toNat)=toS L.ws L.gs L.fp L.fq L.fs L.fz ⟨0,L.x,L.y,0,0,0,0,false,false⟩ (xs.take k0.toNat)/\L.ev (L.run (xs.take k0.toNat))=true /\
  ((L.run (xs.take k0.toNat)).k=k0\/((L.run (xs.take k0.toNat)).k<k0/\((L.run (xs.take k0.toNat)).d||(L.run (xs.take k0.toNat)).o)=true)):=by
 obtain⟨⟨h1,h2⟩,hok,hlg⟩:=Cs.1 h;obtain⟨e0,ev0⟩:=Lv.start_ok hok;obtain⟨hin,hlt⟩:=FT L.t L.b (xs.take k0.toNat) 0 0 0 (by omega) (GZ L.t L.b xs k0.toNat 0 0 0 (by omega) hlg);have:=L.goes (xs.take k0.toNat) 0 L.s0 ev0 (.inl (by rw[e0]; rfl)) hin (fun j hj=>by have:=hlt j hj; omega);have el:((0+(xs.take k0.toNat).length:Nat):Int)=k0:=by
  rw[List.length_take];omega
 rw[el] at this;refine⟨?_,this.2.1,this.2.2⟩
 show(xs.take k0.toNat).foldl L.nx L.s0=_
 rw[this.1,e0];rfl
theorem Ed(L:Lv)(D:Option Addr)(k cc:Nat)(xs:List In)(w:World)(I:Boxes w L.A L.n L.ws)(J:Boxes w L.G L.m L.gs)(hn:L.n<=281474976710656)(hm:L.m<=281474976710656)(Y:Inputs w D k xs)(hk:k<=281474976710656) :
 Calls Try.prog 103 #[L.val,.slice D k cc] w fun e w'=>e=.returned (.bool (decide (HF L.i L.t L.x L.y L.ws L.gs L.fp L.fq L.fs L.fz L.b xs=-1)))/\Below w.heap.size w w':=by
 have V:=fun(W:World) (Z:Boxes W L.A L.n L.ws) (X:Boxes W L.G L.m L.gs)=>Dn L.i L.t L.x L.y L.A L.n L.c L.G L.m L.kk L.fp L.fq L.fs L.fz L.b L.ws L.gs W Z X hn hm;have P:CellsAt (w.alloc (.cells #[.int .i64 L.i,.int .i64 L.t,.int .i64 L.x,.int .i64 L.y,.slice L.A L.n L.c,.slice L.G L.m L.kk,.int .i64 L.fp,.int .i64 L.fq,.int .i64 L.fs,.int .i64 L.fz,.int .i64 L.b] 73)) w.heap.size L.cs:=CellsAt.new w _ _ _ rfl;have I:=hid (I.alloc (.cells #[.int .i64 L.i,.int .i64 L.t,.int .i64 L.x,.int .i64 L.y,.slice L.A L.n L.c,.slice L.G L.m L.kk,.int .i64 L.fp,.int .i64 L.fq,.int .i64 L.fs,.int .i64 L.fz,.int .i64 L.b] 73))
 have J:=hid (J.alloc (.cells #[.int .i64 L.i,.int .i64 L.t,.int .i64 L.x,.int .i64 L.y,.slice L.A L.n L.c,.slice L.G L.m L.kk,.int .i64 L.fp,.int .i64 L.fq,.int .i64 L.fs,.int .i64 L.fz,.int .i64 L.b] 73));have Y:=hid Y;have H:=hid (Ab (Ac w) (.cells #[.int .i64 L.i,.int .i64 L.t,.int .i64 L.x,.int .i64 L.y,.slice L.A L.n L.c,.slice L.G L.m L.kk,.int .i64 L.fp,.int .i64 L.fq,.int .i64 L.fs,.int .i64 L.fz,.int .i64 L.b] 73));cases h:BX L.i L.t L.x L.y L.ws L.gs L.fp L.fq L.fs L.fz L.b
 . rw[h] at V;have E:=hid (show decide (HF L.i L.t L.x L.y L.ws L.gs L.fp L.fq L.fs L.fz L.b xs=-1)=false by simp[HF,h]);have V:=hid V;clear h;go_enter Try.func103,Try.ntmps103;go_upto_region 1 with fail;refine wp_region_lit ?_;refine Ag rfl 73 (.tmp 2) rfl w.heap.size rfl L.cs P Try.underlying73 rfl Ap ?_;go_wp;refine(V.out _ I.out J.out).mono ?_;rintro e w1 ⟨rfl,B⟩;have H:=hid (Aa H.out B);clear B;go_wp2;go_ret;exact⟨by rw[E.out]; rfl,H.out⟩
 . obtain⟨b0,b3⟩:=JB h;have hb:=I0 L.t L.b xs 0 0 0;have E:=hid (show decide (HF L.i L.t L.x L.y L.ws L.gs L.fp L.fq L.fs L.fz L.b xs=-1)=decide (Gd L.t L.b xs<0) by
    simp only[HF,h,if_true];have hb:Gd L.t L.b xs=-1\/_:=hb;apply Bool.eq_iff_iff.2;simp only[decide_eq_true_eq];have:FE L.t L.b xs 0 0 0=Gd L.t L.b xs:=rfl;omega)
   rw[h] at V;have V:=hid V;have C:=hid (fun(W:World) (Z:Inputs W D k xs)=>CG L.i L.t L.x L.y L.A L.n L.c L.G L.m L.kk L.fp L.fq L.fs L.fz L.b D k cc xs W Z hk b0 b3);clear h hb;go_enter Try.func103,Try.ntmps103;go_upto_region 1 with fail;refine wp_region_lit ?_;refine Ag rfl 73 (.tmp 2) rfl w.heap.size rfl L.cs P Try.underlying73 rfl Ap ?_;go_wp;refine(V.out _ I.out J.out).mono ?_;rintro e w1 ⟨rfl,B⟩;have P1:=P.step B;have H:=hid (Aa H.out B);clear B;dsimp only
   iterate 4 go_step
   refine CU (by simp[Region.wanted,yielded]) 73 (.tmp 2) rfl w.heap.size rfl L.cs P1 Try.underlying73 rfl Ap ?_;go_wp;rename_i K hK;refine(C.out _ (Y.out.step H.out)).mono ?_;rintro e w2 ⟨rfl,B⟩;have H:=hid (Aa H.out B);clear B P1;dsimp only;apply hK;go_wp2;go_ret;exact⟨by rw[E.out]; rfl,H.out⟩
theorem J6{L:Lv}(h:L.ok=true):(Cx L.ws=true/\(-1000000<=L.x/\L.x<=1000000))/\(-1000000<=L.y/\L.y<=1000000):=by
 have h':BX L.i L.t L.x L.y L.ws L.gs L.fp L.fq L.fs L.fz L.b=true:=h;obtain⟨_,_,h3,_,h5,_⟩:=(De ..).1 h';simp only[AG,okB,Aw,Bool.and_eq_true,decide_eq_true_eq] at h3;exact⟨⟨h5,by omega⟩,by omega⟩
open Go.RowKit
open M
abbrev Lv.at(L:Lv)(xs:List In)(j:Nat):St:=L.run (xs.take j)
theorem JQ{L:Lv}{xs:List In}{n j:Nat}(h:Fi L xs n (n:Int)=true)(hj:j<=n):Fi L xs n (j:Int)=true:=by
 obtain⟨_,hok,hlg⟩:=Cs.1 h;exact Cs.2 ⟨⟨by omega,by omega⟩,hok,hlg⟩
open Go.RowKit
open M
theorem G4{L:Lv}{xs:List In}{k:Nat}:Fi L xs k (k:Int)=decide (HF L.i L.t L.x L.y L.ws L.gs L.fp L.fq L.fs L.fz L.b xs=-1):=by
 simp[Fi]
theorem Hy(L:Lv)(D:Option Addr)(k cc:Nat)(xs:List In)(w:World)(I:Boxes w L.A L.n L.ws)(J:Boxes w L.G L.m L.gs)(hn:L.n<=281474976710656)(hm:L.m<=281474976710656)(Y:Inputs w D k xs)(hk:k<=1000) :
 Calls Try.prog 104 #[L.val,.slice D k cc] w fun e w'=>e=.returned (.int .i64 (L.score xs k))/\Below w.heap.size w w':=by
 have hl:=Y.1;have P:CellsAt (w.alloc (.cells #[.int .i64 L.i,.int .i64 L.t,.int .i64 L.x,.int .i64 L.y,.slice L.A L.n L.c,.slice L.G L.m L.kk,.int .i64 L.fp,.int .i64 L.fq,.int .i64 L.fs,.int .i64 L.fz,.int .i64 L.b] 73)) w.heap.size L.cs:=CellsAt.new w _ _ _ rfl;have V:=hid (Ed L D k cc xs (w.alloc (.cells #[.int .i64 L.i,.int .i64 L.t,.int .i64 L.x,.int .i64 L.y,.slice L.A L.n L.c,.slice L.G L.m L.kk,.int .i64 L.fp,.int .i64 L.fq,.int .i64 L.fs,.int .i64 L.fz,.int .i64 L.b] 73)) (I.alloc _) (J.alloc _) hn hm (Y.alloc _) (by omega))
 have H:=hid (Ab (Ac w) (.cells #[.int .i64 L.i,.int .i64 L.t,.int .i64 L.x,.int .i64 L.y,.slice L.A L.n L.c,.slice L.G L.m L.kk,.int .i64 L.fp,.int .i64 L.fq,.int .i64 L.fs,.int .i64 L.fz,.int .i64 L.b] 73));have I:=hid I;have J:=hid J;have Y:=hid Y;have e0:=G4 (L:=L) (xs:=xs) (k:=k);go_enter Try.func104,Try.ntmps104;go_upto_region 1 with fail;refine wp_region_lit ?_;refine Ag rfl 73 (.tmp 2) rfl w.heap.size rfl L.cs P Try.underlying73 rfl Ap ?_;go_wp;refine V.out.mono ?_;rintro e w1 ⟨rfl,B⟩;have P:=P.step B;replace H:=hid (Aa H.out B);clear B V;dsimp only
 cases hI:decide (HF L.i L.t L.x L.y L.ws L.gs L.fp L.fq L.fs L.fz L.b xs=-1)
 . have E:=hid (show L.score xs k=-1 by rw[Lv.score,e0,hI]; rfl);clear hI e0;go_wp2;go_ret;exact⟨by rw[E.out]; rfl,H.out⟩
 . have hok:Fi L xs k (k:Int)=true:=e0.trans hI;obtain⟨_,hlv,hlg⟩:=Cs.1 hok;have er:=(Iu hl hok).1;obtain⟨⟨hb,hx⟩,hy⟩:=J6 hlv;have E:=hid (show L.score xs k=if (toS L.ws L.gs L.fp L.fq L.fs L.fz ⟨0,L.x,L.y,0,0,0,0,false,false⟩ (xs.take k)).d then (toS L.ws L.gs L.fp L.fq L.fs L.fz ⟨0,L.x,L.y,0,0,0,0,false,false⟩ (xs.take k)).k else -1 by
    have f1:L.fin xs k k=toS L.ws L.gs L.fp L.fq L.fs L.fz ⟨0,L.x,L.y,0,0,0,0,false,false⟩ (xs.take k):=by unfold Lv.fin; rw[if_pos hok]; exact er
    rw[Lv.score,hok,f1];simp[Lp])
   have vx:VIn xs:=(FT L.t L.b xs 0 0 0 (by omega) hlg).1;have T:=hid (Jf L.i L.t L.x L.y L.A L.n L.c L.G L.m L.kk L.fp L.fq L.fs L.fz L.b L.ws L.gs D k cc xs k w1 (I.out.step H.out) (J.out.step H.out) (Y.out.step H.out) hb hn hm hk (Nat.le_refl _) vx hx hy);clear hI hok er vx hlg hlv I J Y e0;generalize toS L.ws L.gs L.fp L.fq L.fs L.fz ⟨0,L.x,L.y,0,0,0,0,false,false⟩ (xs.take k)=s at *;go_upto_region 3 with fail;refine wp_region_lit ?_;refine Ag rfl 73 (.tmp 2) rfl w.heap.size rfl L.cs P Try.underlying73 rfl Ap ?_;go_wp;refine T.out.mono ?_;rintro e w2 ⟨rfl,B⟩;replace H:=hid (Aa H.out B);clear B T P;dsimp only
   iterate 4 go_step
   have hz:=H.out.size;refine Ai rfl 115 (.tmp 5) (.tmp 14) rfl w2.heap.size rfl (svs s) rfl _ (CellsAt.new w2 _ [_,_,_,_,_,_,_,_,_] 115 rfl) (Nat.le_refl _) Ad rfl ?_;intro w3 K S;have H:=hid (Am (Ab H.out (.cells #[.int .i64 0,.int .i64 0,.int .i64 0,.int .i64 0,.int .i64 0,.int .i64 0,.int .i64 0,.bool false,.bool false] 115)) K hz);have s0:=S.cell 0 _ rfl;have s7:=S.cell 7 _ rfl;have sl:=S.lt;clear K;cases hd:s.d
   . rw[hd] at s7 E;clear hd;go_wp2;go_ret;exact⟨by rw[E.out]; rfl,H.out⟩
   . rw[hd] at s7 E;clear hd;go_wp2;go_ret;exact⟨by rw[E.out]; rfl,H.out⟩
end Go.Proofs.Ytflmmdljkhdjlaa
