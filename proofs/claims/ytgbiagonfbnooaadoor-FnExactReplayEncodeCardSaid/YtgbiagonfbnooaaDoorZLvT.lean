import Derived.Test.YtgbiagonfbnooaaDoorZEngLaws
import Derived.Test.YtgbiagonfbnooaaDoorZTo
set_option linter.all false
set_option maxRecDepth 100000
set_option maxHeartbeats 8000000
open Go.Lib
namespace Go.Proofs.YtgbiagonfbnooaaDoor
open Go.RowKit
open M
theorem CB{P:Program}{ops:Array Oper}{rest:List Oper}{o:Oper}{a:Act}{w:World}{Q:Exit->Act->World->Prop}(hw:Region.wanted o (yielded ops a.tmps)=true)(ty:TypeId)(x:Operand)(ho:o.op=.load ty x)
 (b:Nat) (hx:a.eval x=.pointer (some ⟨b,0,none⟩)) (vs:List Value) (L:CellsAt w b vs) {d:TypeDesc} (hu:P.underlying ty=some d) (hd:d.isRow=true) (hi:(P.info? ty).map (·.size)=some vs.length)
 (h:wpList P ops Q rest (a.put o.dst (.agg vs.toArray)) w):wpList P ops Q (o::rest) a w:=by
 simp only[wpList,hw,if_true];exact .inl (wp_load_mid ty x ho b 0 hx vs d L.range hu hd hi h)
structure Lv where
 i:Int
 t:Int
 x:Int
 y:Int
 A:Option Addr
 n:Nat
 c:Nat
 G:Option Addr
 m:Nat
 kk:Nat
 fp:Int
 fq:Int
 fs:Int
 fz:Int
 b:Int
 ws:List Bx
 gs:List Bx
abbrev Lv.cs(L:Lv):List Value:=AR L.i L.t L.x L.y L.A L.n L.c L.G L.m L.kk L.fp L.fq L.fs L.fz L.b
abbrev Lv.val(L:Lv):Value:=Eu L.i L.t L.x L.y L.A L.n L.c L.G L.m L.kk L.fp L.fq L.fs L.fz L.b
def Lv.ok(L:Lv):Bool:=BD L.i L.t L.x L.y L.ws L.gs L.fp L.fq L.fs L.fz L.b
abbrev M.svs(s:St):List Value:=AC s.k s.ax s.ay s.fx s.fy s.u s.g s.d s.o
abbrev M.sva(s:St):Value:=CO s.k s.ax s.ay s.fx s.fy s.u s.g s.d s.o
abbrev M.z0:St:=⟨0,0,0,0,0,0,0,false,false⟩
def Lv.s0(L:Lv):St:=if L.ok then ⟨0,L.x,L.y,0,0,0,0,false,false⟩ else z0
def Lv.nx(L:Lv)(s:St)(q:In):St:=esS L.i L.t L.x L.y L.ws L.gs L.fp L.fq L.fs L.fz L.b s.k s.ax s.ay s.fx s.fy s.u s.g s.d s.o q.s q.p q.z
def Lv.run(L:Lv)(xs:List In):St:=xs.foldl L.nx L.s0
def Lv.tail(L:Lv)(s:St):List In->List Value
 | []=>[]
 | q::xs=>sva (L.nx s q)::L.tail (L.nx s q) xs
def EY(L:Lv)(xs:List In)(n:Nat)(k0:Int):Bool:=decide (0<=k0)&&(decide (k0<=n)&&decide (HE L.i L.t L.x L.y L.ws L.gs L.fp L.fq L.fs L.fz L.b xs=-1))
def Lv.fin(L:Lv)(xs:List In)(n:Nat)(k0:Int):St:=if EY L xs n k0 then L.run (xs.take k0.toNat) else z0
def L4(s:St)(ok:Bool):Int:=if ok&&s.d then s.k else -1
def Lv.score(L:Lv)(xs:List In)(n:Nat):Int:=L4 (L.fin xs n n) (EY L xs n n)
abbrev LX(l:List Int):List Value:=l.map (Value.int .i64)
open Go.RowKit
open M
theorem Fw(t b:Int):∀(xs:List In) (i ps s0:Int),0<=i->Fb t b xs i ps s0=-1->(∀ q∈xs,A5 q.s q.p q.z=true)/\∀ j:Nat,j<xs.length->i+j<t
 | [],i,ps,s0,_,_=>⟨fun q hq=>(by cases hq),fun j hj=>(by simp at hj)⟩
 | q::xs,i,ps,s0,hi,h=>by
  cases g:BL t b i ps s0 q
  . rw[Du g] at h;obtain⟨h1,h2⟩:=Fw t b xs _ _ _ (by omega) h;obtain⟨g1,_,g3⟩:=HT g;refine⟨fun z hz=>?_,fun j hj=>?_⟩
    . rcases List.mem_cons.1 hz with rfl | hz
      . exact EK g3
      . exact h1 z hz
    . rcases j with _ | j
      . simpa using g1
      . have:=h2 j (by simpa using hj);omega
  . rw[Be g] at h;omega
def Lv.ev(L:Lv)(s:St):Bool:=evB L.i L.t L.x L.y L.ws L.gs L.fp L.fq L.fs L.fz L.b s.k s.ax s.ay s.fx s.fy s.u s.g s.d s.o
abbrev Lv.sS(L:Lv):St->In->St:=C7 L.ws L.gs L.fp L.fq L.fs L.fz
theorem Lv.goes(L:Lv):∀(xs:List In) (i:Nat) (s:St),L.ev s=true->(s.k=i\/(s.k<i/\(s.d||s.o)=true))->(∀ q∈xs,A5 q.s q.p q.z=true)->(∀ j:Nat,j<xs.length->(i:Int)+j<L.t) ->
 xs.foldl L.nx s=xs.foldl L.sS s/\L.ev (xs.foldl L.nx s)=true/\((xs.foldl L.nx s).k=(i+xs.length:Nat)\/((xs.foldl L.nx s).k<(i+xs.length:Nat)/\((xs.foldl L.nx s).d||(xs.foldl L.nx s).o)=true))
 | [],i,s,he,hk,_,_=>⟨rfl,he,hk⟩
 | q::xs,i,s,he,hk,hv,ht=>by
  have h0:=ht 0 (by simp);have eo:eoB L.i L.t L.x L.y L.ws L.gs L.fp L.fq L.fs L.fz L.b s.k s.ax s.ay s.fx s.fy s.u s.g s.d s.o q.s q.p q.z=true:=(Ga ..).2 ⟨he,hv q (List.mem_cons_self ..),hk.elim (fun h=>.inl (by omega)) fun h=>.inr h.2⟩;have e1:L.nx s q=L.sS s q:=Il eo;have e2:L.ev (L.nx s q)=true:=Hd eo (K:=(L.nx s q).k) (X:=(L.nx s q).ax) (Y:=(L.nx s q).ay) (P:=(L.nx s q).fx) (Q:=(L.nx s q).fy) (U:=(L.nx s q).u) (V:=(L.nx s q).g) (D:=(L.nx s q).d) (O:=(L.nx s q).o) rfl
  have T:=Gy eo (K:=(L.nx s q).k) (X:=(L.nx s q).ax) (Y:=(L.nx s q).ay) (P:=(L.nx s q).fx) (Q:=(L.nx s q).fy) (U:=(L.nx s q).u) (V:=(L.nx s q).g) (D:=(L.nx s q).d) (O:=(L.nx s q).o) rfl;have e3:(L.nx s q).k=(i+1:Nat)\/((L.nx s q).k<(i+1:Nat)/\((L.nx s q).d||(L.nx s q).o)=true):=by
   cases c:(s.d||s.o)
   . have:=T.tick c;rcases hk with h | ⟨_,h⟩
     . left; omega
     . rw[c] at h; cases h
   . obtain⟨h1,_,_,_,_,_,_,h8,h9⟩:=T.stop c;right;rw[h8,h9,c];refine⟨?_,rfl⟩;rcases hk with h | ⟨h,_⟩<;>omega
  have:=L.goes xs (i+1) (L.nx s q) e2 e3 (fun z hz=>hv z (List.mem_cons_of_mem _ hz)) (fun j hj=>by have:=ht (j+1) (by simpa using hj); omega);rw[show i+1+xs.length=i+(q::xs).length from by simp; omega] at this;simp only[List.foldl_cons];rw[<- e1];exact this
theorem Lv.start_ok{L:Lv}(h:L.ok=true):L.s0=⟨0,L.x,L.y,0,0,0,0,false,false⟩/\L.ev L.s0=true:=by
 have e:L.s0=⟨0,L.x,L.y,0,0,0,0,false,false⟩:=by unfold Lv.s0; rw[h]; rfl
 exact⟨e,by rw[e]; exact Im h⟩
theorem B6{L:Lv}{xs:List In}{n:Nat}{k0:Int}:EY L xs n k0=true↔(0<=k0/\k0<=n)/\L.ok=true/\FZ L.t L.b xs=-1:=by
 simp only[EY,Bool.and_eq_true,decide_eq_true_eq];constructor
 . rintro⟨h1,h2,h3⟩;cases h:L.ok
   . have h:BD L.i L.t L.x L.y L.ws L.gs L.fp L.fq L.fs L.fz L.b=false:=h;simp[HE,h] at h3
   . have h':BD L.i L.t L.x L.y L.ws L.gs L.fp L.fq L.fs L.fz L.b=true:=h;simp only[HE,h',if_true] at h3;exact⟨⟨h1,h2⟩,rfl,h3⟩
 . rintro⟨⟨h1,h2⟩,h,h3⟩;have h':BD L.i L.t L.x L.y L.ws L.gs L.fp L.fq L.fs L.fz L.b=true:=h;exact⟨h1,h2,by simp only[HE,h',if_true]; exact h3⟩
theorem Iw{L:Lv}{xs:List In}{n:Nat}{k0:Int}(hl:xs.length=n)(h:EY L xs n k0=true) :
 L.run (xs.take k0.toNat)=toS L.ws L.gs L.fp L.fq L.fs L.fz ⟨0,L.x,L.y,0,0,0,0,false,false⟩ (xs.take k0.toNat)/\L.ev (L.run (xs.take k0.toNat))=true /\
  ((L.run (xs.take k0.toNat)).k=k0\/((L.run (xs.take k0.toNat)).k<k0/\((L.run (xs.take k0.toNat)).d||(L.run (xs.take k0.toNat)).o)=true)):=by
 obtain⟨⟨h1,h2⟩,hok,hlg⟩:=B6.1 h;obtain⟨e0,ev0⟩:=Lv.start_ok hok;obtain⟨hin,hlt⟩:=Fw L.t L.b (xs.take k0.toNat) 0 0 0 (by omega) (Gq L.t L.b xs k0.toNat 0 0 0 (by omega) hlg);have:=L.goes (xs.take k0.toNat) 0 L.s0 ev0 (.inl (by rw[e0]; rfl)) hin (fun j hj=>by have:=hlt j hj; omega);have el:((0+(xs.take k0.toNat).length:Nat):Int)=k0:=by
  rw[List.length_take];omega
 rw[el] at this;refine⟨?_,this.2.1,this.2.2⟩
 show(xs.take k0.toNat).foldl L.nx L.s0=_
 rw[this.1,e0];rfl
theorem DI(L:Lv)(D:Option Addr)(k cc:Nat)(xs:List In)(w:World)(I:Boxes w L.A L.n L.ws)(J:Boxes w L.G L.m L.gs)(hn:L.n<=281474976710656)(hm:L.m<=281474976710656)(Y:Inputs w D k xs)(hk:k<=281474976710656) :
 Calls Tryd.prog 93 #[L.val,.slice D k cc] w fun e w'=>e=.returned (.bool (decide (HE L.i L.t L.x L.y L.ws L.gs L.fp L.fq L.fs L.fz L.b xs=-1)))/\Below w.heap.size w w':=by
 have V:=fun(W:World) (Z:Boxes W L.A L.n L.ws) (X:Boxes W L.G L.m L.gs)=>C9 L.i L.t L.x L.y L.A L.n L.c L.G L.m L.kk L.fp L.fq L.fs L.fz L.b L.ws L.gs W Z X hn hm;have P:CellsAt (w.alloc (.cells #[.int .i64 L.i,.int .i64 L.t,.int .i64 L.x,.int .i64 L.y,.slice L.A L.n L.c,.slice L.G L.m L.kk,.int .i64 L.fp,.int .i64 L.fq,.int .i64 L.fs,.int .i64 L.fz,.int .i64 L.b] 72)) w.heap.size L.cs:=CellsAt.new w _ _ _ rfl;have I:=hid (I.alloc (.cells #[.int .i64 L.i,.int .i64 L.t,.int .i64 L.x,.int .i64 L.y,.slice L.A L.n L.c,.slice L.G L.m L.kk,.int .i64 L.fp,.int .i64 L.fq,.int .i64 L.fs,.int .i64 L.fz,.int .i64 L.b] 72))
 have J:=hid (J.alloc (.cells #[.int .i64 L.i,.int .i64 L.t,.int .i64 L.x,.int .i64 L.y,.slice L.A L.n L.c,.slice L.G L.m L.kk,.int .i64 L.fp,.int .i64 L.fq,.int .i64 L.fs,.int .i64 L.fz,.int .i64 L.b] 72));have Y:=hid Y;have H:=hid (Ab (Ac w) (.cells #[.int .i64 L.i,.int .i64 L.t,.int .i64 L.x,.int .i64 L.y,.slice L.A L.n L.c,.slice L.G L.m L.kk,.int .i64 L.fp,.int .i64 L.fq,.int .i64 L.fs,.int .i64 L.fz,.int .i64 L.b] 72));cases h:BD L.i L.t L.x L.y L.ws L.gs L.fp L.fq L.fs L.fz L.b
 . rw[h] at V;have E:=hid (show decide (HE L.i L.t L.x L.y L.ws L.gs L.fp L.fq L.fs L.fz L.b xs=-1)=false by simp[HE,h]);have V:=hid V;clear h;go_enter Tryd.func93,Tryd.ntmps93;go_upto_region 1 with fail;refine wp_region_lit ?_;refine Af rfl 72 (.tmp 2) rfl w.heap.size rfl L.cs P Tryd.underlying72 rfl Al ?_;go_wp;refine(V.out _ I.out J.out).mono ?_;rintro e w1 ⟨rfl,B⟩;have H:=hid (Aa H.out B);clear B;go_wp2;go_ret;exact⟨by rw[E.out]; rfl,H.out⟩
 . obtain⟨b0,b3⟩:=J5 h;have hb:=HV L.t L.b xs 0 0 0;have E:=hid (show decide (HE L.i L.t L.x L.y L.ws L.gs L.fp L.fq L.fs L.fz L.b xs=-1)=decide (FZ L.t L.b xs<0) by
    simp only[HE,h,if_true];have hb:FZ L.t L.b xs=-1\/_:=hb;apply Bool.eq_iff_iff.2;simp only[decide_eq_true_eq];have:Fb L.t L.b xs 0 0 0=FZ L.t L.b xs:=rfl;omega)
   rw[h] at V;have V:=hid V;have C:=hid (fun(W:World) (Z:Inputs W D k xs)=>Cq L.i L.t L.x L.y L.A L.n L.c L.G L.m L.kk L.fp L.fq L.fs L.fz L.b D k cc xs W Z hk b0 b3);clear h hb;go_enter Tryd.func93,Tryd.ntmps93;go_upto_region 1 with fail;refine wp_region_lit ?_;refine Af rfl 72 (.tmp 2) rfl w.heap.size rfl L.cs P Tryd.underlying72 rfl Al ?_;go_wp;refine(V.out _ I.out J.out).mono ?_;rintro e w1 ⟨rfl,B⟩;have P1:=P.step B;have H:=hid (Aa H.out B);clear B;dsimp only
   iterate 4 go_step
   refine CB (by simp[Region.wanted,yielded]) 72 (.tmp 2) rfl w.heap.size rfl L.cs P1 Tryd.underlying72 rfl Al ?_;go_wp;rename_i K hK;refine(C.out _ (Y.out.step H.out)).mono ?_;rintro e w2 ⟨rfl,B⟩;have H:=hid (Aa H.out B);clear B P1;dsimp only;apply hK;go_wp2;go_ret;exact⟨by rw[E.out]; rfl,H.out⟩
theorem KH{L:Lv}(h:L.ok=true):(Cs L.ws=true/\(-1000000<=L.x/\L.x<=1000000))/\(-1000000<=L.y/\L.y<=1000000):=by
 have h':BD L.i L.t L.x L.y L.ws L.gs L.fp L.fq L.fs L.fz L.b=true:=h;obtain⟨_,_,h3,_,h5,_⟩:=(CS ..).1 h';simp only[AB,okB,Ax,Bool.and_eq_true,decide_eq_true_eq] at h3;exact⟨⟨h5,by omega⟩,by omega⟩
end Go.Proofs.YtgbiagonfbnooaaDoor
