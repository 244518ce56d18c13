import Derived.Test.YtaemcekcancpdabGreatDoorZRunA
import Derived.Test.YtaemcekcancpdabGreatDoorZTo
set_option linter.all false
set_option maxRecDepth 100000
set_option maxHeartbeats 8000000
open Go.Lib
namespace Go.Proofs.YtaemcekcancpdabGreatDoor
open Go.RowKit
open M
open Ren
theorem LF(t b:Int):∀(xs:List In) (i ps s0:Int),0<=i->JP t b xs i ps s0=-1->(∀ q∈xs,DU q.s q.p q.z=true)/\∀ j:Nat,j<xs.length->i+j<t
 | [],i,ps,s0,_,_=>⟨fun q hq=>(by cases hq),fun j hj=>(by simp at hj)⟩
 | q::xs,i,ps,s0,hi,h=>by
  cases g:El t b i ps s0 q
  . rw[FE g] at h;obtain⟨h1,h2⟩:=LF t b xs _ _ _ (by omega) h;obtain⟨g1,_,g3⟩:=PH g;refine⟨fun z hz=>?_,fun j hj=>?_⟩
    . rcases List.mem_cons.1 hz with rfl | hz
      . exact Ge g3
      . exact h1 z hz
    . rcases j with _ | j
      . simpa using g1
      . have:=h2 j (by simpa using hj);omega
  . rw[BX g] at h;omega
def Lv.ev(L:Lv)(s:St):Bool:=evB L.i L.t L.x L.y L.ws L.gs L.fp L.fq L.fs L.fz L.b s.k s.ax s.ay s.fx s.fy s.u s.g s.d s.o
abbrev Lv.sS(L:Lv):St->In->St:=stS L.ws L.gs L.fp L.fq L.fs L.fz
theorem Lv.goes(L:Lv):∀(xs:List In) (i:Nat) (s:St),L.ev s=true->(s.k=i\/(s.k<i/\(s.d||s.o)=true))->(∀ q∈xs,DU q.s q.p q.z=true)->(∀ j:Nat,j<xs.length->(i:Int)+j<L.t) ->
 xs.foldl L.nx s=xs.foldl L.sS s/\L.ev (xs.foldl L.nx s)=true/\((xs.foldl L.nx s).k=(i+xs.length:Nat)\/((xs.foldl L.nx s).k<(i+xs.length:Nat)/\((xs.foldl L.nx s).d||(xs.foldl L.nx s).o)=true))
 | [],i,s,he,hk,_,_=>⟨rfl,he,hk⟩
 | q::xs,i,s,he,hk,hv,ht=>by
  have h0:=ht 0 (by simp);have eo:eoB L.i L.t L.x L.y L.ws L.gs L.fp L.fq L.fs L.fz L.b s.k s.ax s.ay s.fx s.fy s.u s.g s.d s.o q.s q.p q.z=true:=(JL ..).2 ⟨he,hv q (List.mem_cons_self ..),hk.elim (fun h=>.inl (by omega)) fun h=>.inr h.2⟩;have e1:L.nx s q=L.sS s q:=Py eo;have e2:L.ev (L.nx s q)=true:=NS eo (K:=(L.nx s q).k) (X:=(L.nx s q).ax) (Y:=(L.nx s q).ay) (P:=(L.nx s q).fx) (Q:=(L.nx s q).fy) (U:=(L.nx s q).u) (V:=(L.nx s q).g) (D:=(L.nx s q).d) (O:=(L.nx s q).o) rfl
  have T:=JM eo (K:=(L.nx s q).k) (X:=(L.nx s q).ax) (Y:=(L.nx s q).ay) (P:=(L.nx s q).fx) (Q:=(L.nx s q).fy) (U:=(L.nx s q).u) (V:=(L.nx s q).g) (D:=(L.nx s q).d) (O:=(L.nx s q).o) rfl;have e3:(L.nx s q).k=(i+1:Nat)\/((L.nx s q).k<(i+1:Nat)/\((L.nx s q).d||(L.nx s q).o)=true):=by
   cases c:(s.d||s.o)
   . have:=T.tick c;rcases hk with h | ⟨_,h⟩
     . left; omega
     . rw[c] at h; cases h
   . obtain⟨h1,_,_,_,_,_,_,h8,h9⟩:=T.stop c;right;rw[h8,h9,c];refine⟨?_,rfl⟩;rcases hk with h | ⟨h,_⟩<;>omega
  have:=L.goes xs (i+1) (L.nx s q) e2 e3 (fun z hz=>hv z (List.mem_cons_of_mem _ hz)) (fun j hj=>by have:=ht (j+1) (by simpa using hj); omega);rw[show i+1+xs.length=i+(q::xs).length from by simp; omega] at this;simp only[List.foldl_cons];rw[<- e1];exact this
theorem Lv.start_ok{L:Lv}(h:L.ok=true):L.s0=⟨0,L.x,L.y,0,0,0,0,false,false⟩/\L.ev L.s0=true:=by
 have e:L.s0=⟨0,L.x,L.y,0,0,0,0,false,false⟩:=by unfold Lv.s0; rw[h]; rfl
 exact⟨e,by rw[e]; exact Pz h⟩
theorem CB{L:Lv}{xs:List In}{n:Nat}{k0:Int}:CW L xs n k0=true↔(0<=k0/\k0<=n)/\L.ok=true/\IZ L.t L.b xs=-1:=by
 simp only[CW,Bool.and_eq_true,decide_eq_true_eq];constructor
 . rintro⟨h1,h2,h3⟩;cases h:L.ok
   . have h:Cn L.i L.t L.x L.y L.ws L.gs L.fp L.fq L.fs L.fz L.b=false:=h;simp[DC,h] at h3
   . have h':Cn L.i L.t L.x L.y L.ws L.gs L.fp L.fq L.fs L.fz L.b=true:=h;simp only[DC,h',if_true] at h3;exact⟨⟨h1,h2⟩,rfl,h3⟩
 . rintro⟨⟨h1,h2⟩,h,h3⟩;have h':Cn L.i L.t L.x L.y L.ws L.gs L.fp L.fq L.fs L.fz L.b=true:=h;exact⟨h1,h2,by simp only[DC,h',if_true]; exact h3⟩
theorem IM{L:Lv}{xs:List In}{n:Nat}{k0:Int}(hl:xs.length=n)(h:CW L xs n k0=true) :
 L.run (xs.take k0.toNat)=toS L.ws L.gs L.fp L.fq L.fs L.fz ⟨0,L.x,L.y,0,0,0,0,false,false⟩ (xs.take k0.toNat)/\L.ev (L.run (xs.take k0.toNat))=true /\
  ((L.run (xs.take k0.toNat)).k=k0\/((L.run (xs.take k0.toNat)).k<k0/\((L.run (xs.take k0.toNat)).d||(L.run (xs.take k0.toNat)).o)=true)):=by
 obtain⟨⟨h1,h2⟩,hok,hlg⟩:=CB.1 h;obtain⟨e0,ev0⟩:=Lv.start_ok hok;obtain⟨hin,hlt⟩:=LF L.t L.b (xs.take k0.toNat) 0 0 0 (by omega) (JR L.t L.b xs k0.toNat 0 0 0 (by omega) hlg);have:=L.goes (xs.take k0.toNat) 0 L.s0 ev0 (.inl (by rw[e0]; rfl)) hin (fun j hj=>by have:=hlt j hj; omega);have el:((0+(xs.take k0.toNat).length:Nat):Int)=k0:=by
  rw[List.length_take];omega
 rw[el] at this;refine⟨?_,this.2.1,this.2.2⟩
 show(xs.take k0.toNat).foldl L.nx L.s0=_
 rw[this.1,e0];rfl
theorem LG(L:Lv)(D:Option Addr)(k cc:Nat)(xs:List In)(w:World)(I:Boxes w L.A L.n L.ws)(J:Boxes w L.G L.m L.gs)(hn:L.n<=281474976710656)(hm:L.m<=281474976710656)(Y:Inputs w D k xs)(hk:k<=281474976710656) :
 Calls Tryz.prog 30 #[L.val,.slice D k cc] w fun e w'=>e=.returned (.bool (decide (DC L.i L.t L.x L.y L.ws L.gs L.fp L.fq L.fs L.fz L.b xs=-1)))/\Below w.heap.size w w':=by
 have V:=fun(W:World) (Z:Boxes W L.A L.n L.ws) (X:Boxes W L.G L.m L.gs)=>GR L.i L.t L.x L.y L.A L.n L.c L.G L.m L.kk L.fp L.fq L.fs L.fz L.b L.ws L.gs W Z X hn hm;have P:CellsAt (w.alloc (.cells #[.int .i64 L.i,.int .i64 L.t,.int .i64 L.x,.int .i64 L.y,.slice L.A L.n L.c,.slice L.G L.m L.kk,.int .i64 L.fp,.int .i64 L.fq,.int .i64 L.fs,.int .i64 L.fz,.int .i64 L.b] 29)) w.heap.size L.cs:=CellsAt.new w _ _ _ rfl;have I:=hid (I.alloc (.cells #[.int .i64 L.i,.int .i64 L.t,.int .i64 L.x,.int .i64 L.y,.slice L.A L.n L.c,.slice L.G L.m L.kk,.int .i64 L.fp,.int .i64 L.fq,.int .i64 L.fs,.int .i64 L.fz,.int .i64 L.b] 29))
 have J:=hid (J.alloc (.cells #[.int .i64 L.i,.int .i64 L.t,.int .i64 L.x,.int .i64 L.y,.slice L.A L.n L.c,.slice L.G L.m L.kk,.int .i64 L.fp,.int .i64 L.fq,.int .i64 L.fs,.int .i64 L.fz,.int .i64 L.b] 29));have Y:=hid Y;have H:=hid (Aa (Ac w) (.cells #[.int .i64 L.i,.int .i64 L.t,.int .i64 L.x,.int .i64 L.y,.slice L.A L.n L.c,.slice L.G L.m L.kk,.int .i64 L.fp,.int .i64 L.fq,.int .i64 L.fs,.int .i64 L.fz,.int .i64 L.b] 29));cases h:Cn L.i L.t L.x L.y L.ws L.gs L.fp L.fq L.fs L.fz L.b
 . rw[h] at V;have E:=hid (show decide (DC L.i L.t L.x L.y L.ws L.gs L.fp L.fq L.fs L.fz L.b xs=-1)=false by simp[DC,h]);have V:=hid V;clear h;go_enter Tryz.func30,Tryz.ntmps30;go_upto_region 1 with fail;refine wp_region_lit ?_;refine Af rfl 29 (.tmp 2) rfl w.heap.size rfl L.cs P Tryz.underlying29 rfl Ag ?_;go_wp;refine(V.out _ I.out J.out).mono ?_;rintro e w1 ⟨rfl,B⟩;have H:=hid (Ab H.out B);clear B;go_wp2;go_ret;exact⟨by rw[E.out]; rfl,H.out⟩
 . obtain⟨b0,b3⟩:=JV h;have hb:=Jh L.t L.b xs 0 0 0;have E:=hid (show decide (DC L.i L.t L.x L.y L.ws L.gs L.fp L.fq L.fs L.fz L.b xs=-1)=decide (IZ L.t L.b xs<0) by
    simp only[DC,h,if_true];have hb:IZ L.t L.b xs=-1\/_:=hb;apply Bool.eq_iff_iff.2;simp only[decide_eq_true_eq];have:JP L.t L.b xs 0 0 0=IZ L.t L.b xs:=rfl;omega)
   rw[h] at V;have V:=hid V;have C:=hid (fun(W:World) (Z:Inputs W D k xs)=>DX L.i L.t L.x L.y L.A L.n L.c L.G L.m L.kk L.fp L.fq L.fs L.fz L.b D k cc xs W Z hk b0 b3);clear h hb;go_enter Tryz.func30,Tryz.ntmps30;go_upto_region 1 with fail;refine wp_region_lit ?_;refine Af rfl 29 (.tmp 2) rfl w.heap.size rfl L.cs P Tryz.underlying29 rfl Ag ?_;go_wp;refine(V.out _ I.out J.out).mono ?_;rintro e w1 ⟨rfl,B⟩;have P1:=P.step B;have H:=hid (Ab H.out B);clear B;dsimp only
   iterate 4 go_step
   refine Cz (by simp[Region.wanted,yielded]) 29 (.tmp 2) rfl w.heap.size rfl L.cs P1 Tryz.underlying29 rfl Ag ?_;go_wp;rename_i K hK;refine(C.out _ (Y.out.step H.out)).mono ?_;rintro e w2 ⟨rfl,B⟩;have H:=hid (Ab H.out B);clear B P1;dsimp only;apply hK;go_wp2;go_ret;exact⟨by rw[E.out]; rfl,H.out⟩
theorem S5{L:Lv}(h:L.ok=true):(Dr L.ws=true/\(-1000000<=L.x/\L.x<=1000000))/\(-1000000<=L.y/\L.y<=1000000):=by
 have h':Cn L.i L.t L.x L.y L.ws L.gs L.fp L.fq L.fs L.fz L.b=true:=h;obtain⟨_,_,h3,_,h5,_⟩:=(D7 ..).1 h';simp only[Av,okB,Be,Bool.and_eq_true,decide_eq_true_eq] at h3;exact⟨⟨h5,by omega⟩,by omega⟩
end Go.Proofs.YtaemcekcancpdabGreatDoor
