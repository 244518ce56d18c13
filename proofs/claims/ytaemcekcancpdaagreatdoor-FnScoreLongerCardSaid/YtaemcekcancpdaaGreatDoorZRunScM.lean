import Derived.Test.YtaemcekcancpdaaGreatDoorZRunPath
set_option linter.all false
set_option maxRecDepth 100000
set_option maxHeartbeats 8000000
open Go.Lib
namespace Go.Proofs.YtaemcekcancpdaaGreatDoor
open Go.RowKit
open M
open Ren
open Go.Conc
theorem Vo.put{h0:Array Obj}{sz z:Nat}{L:Lv}{D:Option Addr}{N cc:Nat}{xs:List In}{k0:Int}{b c d:Nat}{s:St}{ok:Bool}{T:Array Value}{u:World}(x:Vo h0 sz z L D N cc xs k0 b c s ok T u)(hd:7+z<d)(v:Value):Vo h0 sz z L D N cc xs k0 b c s ok (Bh T (some d) v) u :=
 ⟨⟨size_put.trans x.size,(Aj (by omega)).trans x.t3,(Aj (by omega)).trans x.t4,(Aj (by omega)).trans x.t5,x.P,x.rd,x.lo,x.hp,x.lb,x.bp,x.bd,x.sm⟩,(Aj (by omega)).trans x.t6,(Aj (by omega)).trans x.t7,x.S,x.lc⟩
structure Vp(h0:Array Obj)(sz z:Nat)(L:Lv)(D:Option Addr)(N cc:Nat)(xs:List In)(k0:Int)(b c c2:Nat)(s:St)(ok:Bool)(T:Array Value)(u:World):Prop extends Vo h0 sz z L D N cc xs k0 b c s ok T u where
 t8:T.getD (8+z) undef=AA c2
 t9:T.getD (9+z) undef=.bool ok
 S2:CellsAt u c2 (svs s)
theorem Vp.hpo{h0:Array Obj}{sz z:Nat}{L:Lv}{D:Option Addr}{N cc:Nat}{xs:List In}{k0:Int}{b c c2:Nat}{s:St}{ok:Bool}:Hpo (Vp h0 sz z L D N cc xs k0 b c c2 s ok):=fun _ _ _ h e=>{ h with P:=h.P.same e,rd:=h.rd.same e,hp:=h.hp.same e,S:=h.S.same e,S2:=h.S2.same e }
end Go.Proofs.YtaemcekcancpdaaGreatDoor
namespace Go.Proofs.YtaemcekcancpdaaGreatDoor
open Go.RowKit
open M
abbrev Lv.at(L:Lv)(xs:List In)(j:Nat):St:=L.run (xs.take j)
theorem Lv.at_zero{L:Lv}{xs:List In}:L.at xs 0=L.s0:=rfl
theorem F6{L:Lv}{xs:List In}{n j:Nat}(h:B8 L xs n (n:Int)=true)(hj:j<=n):B8 L xs n (j:Int)=true:=by
 obtain⟨_,hok,hlg⟩:=BZ.1 h;exact BZ.2 ⟨⟨by omega,by omega⟩,hok,hlg⟩
theorem fin_at{L:Lv}{xs:List In}{n j:Nat}(h:B8 L xs n (j:Int)=true):L.fin xs n (j:Int)=L.at xs j:=by unfold Lv.fin; rw[if_pos h]; rfl
theorem Sn{L:Lv}{xs:List In}{j:Nat}(hj:j<xs.length):L.at xs (j+1)=L.nx (L.at xs j) (xs.getD j iz):=by
 have e0:xs.getD j iz=xs[j]:=by simp[List.getD,hj]
 rw[e0]
 show(xs.take (j+1)).foldl L.nx L.s0=L.nx ((xs.take j).foldl L.nx L.s0) xs[j]
 have e:xs.take (j+1)=xs.take j++[xs[j]]:=by rw[List.take_add_one,List.getElem?_eq_getElem hj]; rfl
 rw[e,List.foldl_append];rfl
theorem UJ{L:Lv}{xs:List In}{n j:Nat}(hl:xs.length=n)(h:B8 L xs n (n:Int)=true)(hj:j<n):eoB L.i L.t L.x L.y L.ws L.gs L.fp L.fq L.fs L.fz L.b (L.at xs j).k (L.at xs j).ax (L.at xs j).ay (L.at xs j).fx (L.at xs j).fy (L.at xs j).u (L.at xs j).g (L.at xs j).d (L.at xs j).o (xs.getD j iz).s (xs.getD j iz).p (xs.getD j iz).z=true:=by
 have hk:=F6 h (Nat.le_of_lt hj);obtain⟨_,hok,hlg⟩:=BZ.1 h;obtain⟨_,hev,hkk⟩:=Ko hl hk;simp only[Int.toNat_natCast] at hev hkk;obtain⟨hin,hlt⟩:=LA L.t L.b xs 0 0 0 (by omega) hlg;have hjl:j<xs.length:=by omega
 have e0:xs.getD j iz=xs[j]:=by simp[List.getD,hjl]
 have hv:=hin _ (List.getElem_mem hjl);have ht:=hlt j hjl;rw[e0];exact(JK ..).2 ⟨hev,hv,hkk.elim (fun h=>.inl (by unfold Lv.at; omega)) fun h=>.inr h.2⟩
theorem Ny{L:Lv}{xs:List In}{n j:Nat}(hl:xs.length=n)(h:B8 L xs n (n:Int)=true)(hj:j<n) :
 Tick L.t L.ws L.gs L.fp L.fq L.fs L.fz (L.at xs j).k (L.at xs j).ax (L.at xs j).ay (L.at xs j).fx (L.at xs j).fy (L.at xs j).u (L.at xs j).g (L.at xs j).d (L.at xs j).o (xs.getD j iz).s (xs.getD j iz).p (xs.getD j iz).z (L.at xs (j+1)).k (L.at xs (j+1)).ax (L.at xs (j+1)).ay (L.at xs (j+1)).fx (L.at xs (j+1)).fy (L.at xs (j+1)).u (L.at xs (j+1)).g (L.at xs (j+1)).d (L.at xs (j+1)).o :=
 JL (UJ hl h hj) (by rw[Sn (by omega)]; rfl)
theorem SD{L:Lv}{xs:List In}{n:Nat}(h:B8 L xs n (n:Int)=true):L.s0=⟨0,L.x,L.y,0,0,0,0,false,false⟩ :=
 (Lv.start_ok (BZ.1 h).2.1).1
def Over(L:Lv)(xs:List In)(j:Nat):Prop :=
 (((L.at xs j).d||(L.at xs j).o)=false/\(L.at xs j).k=j) \/
 ∃ i:Nat,1<=i/\i<=j/\L.at xs j=L.at xs i/\(L.at xs i).k=i/\(L.at xs (i-1)).d=false/\((L.at xs i).d=true->(L.at xs i).g=L.gs.length/\Du L.fp L.fq L.fs L.fz (L.at xs i).ax (L.at xs i).ay=true/\Aw (L.at xs i).ax (L.at xs i).ay=true)/\((L.at xs i).d||(L.at xs i).o)=true
theorem Nz{L:Lv}{xs:List In}{n:Nat}(hl:xs.length=n)(h:B8 L xs n (n:Int)=true):∀ j,j<=n->Over L xs j
 | 0,_=>by
  rw[Over,Lv.at_zero,SD h];exact .inl ⟨rfl,rfl⟩
 | j+1,hj=>by
  have T:=Ny hl h (show j<n by omega);rcases Nz hl h j (by omega) with⟨h1,h2⟩ | ⟨i,i1,i2,i3,i4,i5,i6,i7⟩
  . have hk:=T.tick h1;cases hd:(L.at xs (j+1)).d||(L.at xs (j+1)).o
    . exact .inl ⟨hd,by rw[hk,h2]; simp⟩
    . have hd0:(L.at xs j).d=false:=by
       cases hx:(L.at xs j).d
       . rfl
       . rw[hx] at h1; cases h1
      exact .inr ⟨j+1,by omega,Nat.le_refl _,rfl,by rw[hk,h2]; simp,hd0,fun hD=>⟨(T.fin hd0 hD).1,(T.fin hd0 hD).2,T.vok⟩,hd⟩
  . have hs:((L.at xs j).d||(L.at xs j).o)=true:=by rw[i3]; exact i7
    obtain⟨a1,a2,a3,a4,a5,a6,a7,a8,a9⟩:=T.stop hs;have e:L.at xs (j+1)=L.at xs j:=by
     rw[show L.at xs (j+1)=⟨(L.at xs (j+1)).k,(L.at xs (j+1)).ax,(L.at xs (j+1)).ay,(L.at xs (j+1)).fx,(L.at xs (j+1)).fy,(L.at xs (j+1)).u,(L.at xs (j+1)).g,(L.at xs (j+1)).d,(L.at xs (j+1)).o⟩ from rfl,a1,a2,a3,a4,a5,a6,a7,a8,a9]
    exact .inr ⟨i,i1,by omega,e.trans i3,i4,i5,i6,i7⟩
theorem IL{L:Lv}{xs:List In}{n:Nat}(hl:xs.length=n)(h:0<=L.score xs n):B8 L xs n (n:Int)=true /\
 ∃ i:Nat,1<=i/\i<=n/\L.score xs n=i/\L.fin xs n (n:Int)=L.at xs i/\(L.at xs i).k=i/\(L.at xs i).d=true/\(L.at xs (i-1)).d=false/\(L.at xs i).g=L.gs.length/\LN L.fp L.fq L.fs L.fz (L.at xs i).ax (L.at xs i).ay=true:=by
 cases hok:B8 L xs n (n:Int)
 . rw[Lv.score,hok] at h;simp[Nx] at h
 have e:=fin_at hok;have es:L.score xs n=if (L.at xs n).d then (L.at xs n).k else -1:=by
  rw[Lv.score,hok,e];simp[Nx]
 cases hd:(L.at xs n).d
 . rw[es,hd] at h;simp at h
 rcases Nz hl hok n (Nat.le_refl _) with⟨h1,_⟩ | ⟨i,i1,i2,i3,i4,i5,i6,i7⟩
 . rw[hd] at h1; cases h1
 rw[i3] at hd;obtain⟨h6,h7,h8⟩:=i6 hd;have hbv:Dd L.fp L.fq L.fs L.fz=true:=((Di ..).1 (BZ.1 hok).2.1).2.2.2.2.2.2.2.1;refine⟨rfl,i,i1,i2,?_,e.trans i3,i4,hd,i5,h6,by rw[LN,hbv,h8,h7]; rfl⟩;rw[es,i3,hd,if_pos rfl,i4]
open Go.RowKit
open M
open Ren
theorem Points.same{u u':World}{A:Option Addr}{n:Nat}{xs:List Pt}(h:Points u A n xs)(e:u'.heap=u.heap):Points u' A n xs :=
 ⟨h.1,fun hn=>by
  obtain⟨b,off,e1,hb,hc⟩:=h.2 hn;exact⟨b,off,e1,by rw[e]; exact hb,fun k hk=>(hc k hk).of (by rw[e])⟩⟩
theorem Points.lit(u:World)(ps:List Pt)(t:TypeId):Points (u.alloc (.cells (Dv ps).toArray t)) (some ⟨u.heap.size,0,none⟩) ps.length ps :=
 ⟨rfl,fun hn=>⟨u.heap.size,0,rfl,by simp,fun k hk=>by
  have hc:∀ r,r<2->(u.alloc (.cells (Dv ps).toArray t)).cell? ⟨u.heap.size,0+k*2+r,none⟩=some (MF (ps.getD k pz) r):=fun r hr=>by
   rw[Nat.zero_add];have:=JH ps k r hk hr;unfold World.cell?;rw[heap_alloc_new u (.cells (Dv ps).toArray t)];simpa using this
  exact⟨hc 0 (by omega),hc 1 (by omega)⟩⟩⟩
theorem Points.at{w:World}{g m j:Nat}{ps:List Pt}(h:Points w (some ⟨g,0,none⟩) m ps)(hj:j<m):g<w.heap.size/\PtAt w g (j*2) (ps.getD j pz):=by
 obtain⟨b',off,e,hb,hc⟩:=h.2 (by omega);cases e
 have:=hc j hj;rw[Nat.zero_add] at this;exact⟨hb,this⟩
theorem path.sts_len{L:Lv}{xs:List In}{n:Nat}(hl:xs.length=n)(h:B8 L xs n (n:Int)=true):(path.sts L xs n).length=n+1:=by
 unfold path.sts;rw[if_pos h,List.length_cons,Kn,hl]
theorem LC{L:Lv}{xs:List In}{n:Nat}{k0:Int}(h:B8 L xs n k0=true):B8 L xs n (n:Int)=true:=by
 obtain⟨h1,h2,h3⟩:=BZ.1 h;exact BZ.2 ⟨⟨by omega,by omega⟩,h2,h3⟩
theorem path.sts_at{L:Lv}{xs:List In}{n k:Nat}(hl:xs.length=n)(h:B8 L xs n (n:Int)=true)(hk:k<=n):((path.sts L xs n).map DI).getD k pz=DI (L.at xs k):=by
 unfold path.sts;rw[if_pos h,List.getD_eq_getElem?_getD,List.getElem?_map,Qq L xs L.s0 k (by omega)];rfl
theorem Vo.at{h0:Array Obj}{sz z:Nat}{L:Lv}{D:Option Addr}{N cc:Nat}{xs:List In}{k0:Int}{b c:Nat}{s:St}{ok:Bool}{T:Array Value}{u u':World}(x:Vo h0 sz z L D N cc xs k0 b c s ok T u)(B:Below u.heap.size u u'):Vo h0 sz z L D N cc xs k0 b c s ok T u' :=
 { x with P:=x.P.step B,rd:=x.rd.step B,hp:=x.hp.step B,S:=x.S.step B }
theorem Vo.path{h0:Array Obj}{sz z:Nat}{L:Lv}{D:Option Addr}{N cc:Nat}{xs:List In}{k0:Int}{b c d:Nat}{s:St}{ok:Bool}{T:Array Value}{u:World}(x:Vo h0 sz z L D N cc xs k0 b c s ok T u)(hd:7+z<d)(hsz:d<sz)(ss:List St)(cap:Nat)(t:TypeId) :
 ∃ g,Vo h0 sz z L D N cc xs k0 b c s ok (Bh T (some d) (.slice (some ⟨u.heap.size,0,none⟩) ss.length cap)) (u.alloc (.cells (Dv (ss.map DI)).toArray t))/\(Bh T (some d) (.slice (some ⟨u.heap.size,0,none⟩) ss.length cap)).getD d undef=.slice (some ⟨g,0,none⟩) ss.length cap/\Points (u.alloc (.cells (Dv (ss.map DI)).toArray t)) (some ⟨g,0,none⟩) ss.length (ss.map DI) :=
 ⟨u.heap.size,(x.put hd _).at (Aa (Ac u) _),A8 (by rw[x.size]; exact hsz),by
  have:=Points.lit u (ss.map DI) t
  rwa [List.length_map] at this⟩
end Go.Proofs.YtaemcekcancpdaaGreatDoor
namespace Go.Proofs.YtaemcekcancpdaaGreatDoor
open Go.RowKit
open M
theorem So{L:Lv}{xs:List In}{k:Nat}:B8 L xs k (k:Int)=decide (JO L.i L.t L.x L.y L.ws L.gs L.fp L.fq L.fs L.fz L.b xs=-1):=by
 simp[B8]
theorem EX(L:Lv)(D:Option Addr)(k cc:Nat)(xs:List In)(w:World)(I:Boxes w L.A L.n L.ws)(J:Boxes w L.G L.m L.gs)(hn:L.n<=281474976710656)(hm:L.m<=281474976710656)(Y:Inputs w D k xs)(hk:k<=1000) :
 Calls Tryz.prog 16 #[L.val,.slice D k cc] w fun e w'=>e=.returned (.int .i64 (L.score xs k))/\Below w.heap.size w w':=by
 have hl:=Y.1;have P:CellsAt (w.alloc (.cells #[.int .i64 L.i,.int .i64 L.t,.int .i64 L.x,.int .i64 L.y,.slice L.A L.n L.c,.slice L.G L.m L.kk,.int .i64 L.fp,.int .i64 L.fq,.int .i64 L.fs,.int .i64 L.fz,.int .i64 L.b] 29)) w.heap.size L.cs:=CellsAt.new w _ _ _ rfl;have V:=hid (LB L D k cc xs (w.alloc (.cells #[.int .i64 L.i,.int .i64 L.t,.int .i64 L.x,.int .i64 L.y,.slice L.A L.n L.c,.slice L.G L.m L.kk,.int .i64 L.fp,.int .i64 L.fq,.int .i64 L.fs,.int .i64 L.fz,.int .i64 L.b] 29)) (I.alloc _) (J.alloc _) hn hm (Y.alloc _) (by omega))
 have H:=hid (Aa (Ac w) (.cells #[.int .i64 L.i,.int .i64 L.t,.int .i64 L.x,.int .i64 L.y,.slice L.A L.n L.c,.slice L.G L.m L.kk,.int .i64 L.fp,.int .i64 L.fq,.int .i64 L.fs,.int .i64 L.fz,.int .i64 L.b] 29));have I:=hid I;have J:=hid J;have Y:=hid Y;have e0:=So (L:=L) (xs:=xs) (k:=k);go_enter Tryz.func16,Tryz.ntmps16;go_upto_region 1 with fail;refine wp_region_lit ?_;refine Af rfl 29 (.tmp 2) rfl w.heap.size rfl L.cs P Tryz.underlying29 rfl Ad ?_;go_wp;refine V.out.mono ?_;rintro e w1 ⟨rfl,B⟩;have P:=P.step B;replace H:=hid (Ab H.out B);clear B V;dsimp only
 cases hI:decide (JO L.i L.t L.x L.y L.ws L.gs L.fp L.fq L.fs L.fz L.b xs=-1)
 . have E:=hid (show L.score xs k=-1 by rw[Lv.score,e0,hI]; rfl);clear hI e0;go_wp2;go_ret;exact⟨by rw[E.out]; rfl,H.out⟩
 . have hok:B8 L xs k (k:Int)=true:=e0.trans hI;obtain⟨_,hlv,hlg⟩:=BZ.1 hok;have er:=(Ko hl hok).1;obtain⟨⟨hb,hx⟩,hy⟩:=SB hlv;have E:=hid (show L.score xs k=if (toS L.ws L.gs L.fp L.fq L.fs L.fz ⟨0,L.x,L.y,0,0,0,0,false,false⟩ (xs.take k)).d then (toS L.ws L.gs L.fp L.fq L.fs L.fz ⟨0,L.x,L.y,0,0,0,0,false,false⟩ (xs.take k)).k else -1 by
    have f1:L.fin xs k k=toS L.ws L.gs L.fp L.fq L.fs L.fz ⟨0,L.x,L.y,0,0,0,0,false,false⟩ (xs.take k):=by unfold Lv.fin; rw[if_pos hok]; exact er
    rw[Lv.score,hok,f1];simp[Nx])
   have vx:VIn xs:=(LA L.t L.b xs 0 0 0 (by omega) hlg).1;have T:=hid (Qw L.i L.t L.x L.y L.A L.n L.c L.G L.m L.kk L.fp L.fq L.fs L.fz L.b L.ws L.gs D k cc xs k w1 (I.out.step H.out) (J.out.step H.out) (Y.out.step H.out) hb hn hm hk (Nat.le_refl _) vx hx hy);clear hI hok er vx hlg hlv I J Y e0;generalize toS L.ws L.gs L.fp L.fq L.fs L.fz ⟨0,L.x,L.y,0,0,0,0,false,false⟩ (xs.take k)=s at *;go_upto_region 3 with fail;refine wp_region_lit ?_;refine Af rfl 29 (.tmp 2) rfl w.heap.size rfl L.cs P Tryz.underlying29 rfl Ad ?_;go_wp;refine T.out.mono ?_;rintro e w2 ⟨rfl,B⟩;replace H:=hid (Ab H.out B);clear B T P;dsimp only
   iterate 4 go_step
   have hz:=H.out.size;refine Ai rfl 34 (.tmp 5) (.tmp 14) rfl w2.heap.size rfl (svs s) rfl _ (CellsAt.new w2 _ [_,_,_,_,_,_,_,_,_] 34 rfl) (Nat.le_refl _) Ae rfl ?_;intro w3 K S;have H:=hid (Ao (Aa H.out (.cells #[.int .i64 0,.int .i64 0,.int .i64 0,.int .i64 0,.int .i64 0,.int .i64 0,.int .i64 0,.bool false,.bool false] 34)) K hz);have s0:=S.cell 0 _ rfl;have s7:=S.cell 7 _ rfl;have sl:=S.lt;clear K;cases hd:s.d
   . rw[hd] at s7 E;clear hd;go_wp2;go_ret;exact⟨by rw[E.out]; rfl,H.out⟩
   . rw[hd] at s7 E;clear hd;go_wp2;go_ret;exact⟨by rw[E.out]; rfl,H.out⟩
open Go.RowKit
open M
open Ren
open Go.Conc
theorem OQ{ops:Array Oper}{T:Array Value}{o oj:Oper}{j d:Nat}{b:Bool}(hg:o.guard=some (j,b))(hj:ops[j]?=some oj)(hd:oj.dst=some d)(hv:T.getD d undef=.bool b):Region.wanted o (yielded ops T)=true:=by
 have h:T[d]?=some (.bool b):=by
  rw[Array.getD_eq_getD_getElem?] at hv;cases h:T[d]? with
  | none=>rw[h] at hv; cases hv
  | some x=>rw[h] at hv; exact congrArg some hv
 unfold Region.wanted;rw[hg];have:yielded ops T j=some b:=by
  unfold yielded;rw[hj];simp[hd,h]
 simp[this]
structure Uh(h0:Array Obj)(sz:Nat)(L:Lv)(D:Option Addr)(N cc:Nat)(xs:List In)(b:Nat)(T:Array Value)(u:World):Prop where
 size:T.size=sz
 t3:T.getD 3 undef=AA b
 t4:T.getD 4 undef=.slice D N cc
 P:CellsAt u b L.cs
 rd:Ready L D N cc xs u
 lo:Low L D b
 hp:Hp h0 u
 lb:h0.size<=b
 bp:0<b
 sm:N<=63
theorem Uh.hpo{h0:Array Obj}{sz:Nat}{L:Lv}{D:Option Addr}{N cc:Nat}{xs:List In}{b:Nat}:Hpo (Uh h0 sz L D N cc xs b):=fun _ _ _ h e=>{ h with P:=h.P.same e,rd:=h.rd.same e,hp:=h.hp.same e }
structure Uo(h0:Array Obj)(sz:Nat)(L:Lv)(D:Option Addr)(N cc:Nat)(xs:List In)(b:Nat)(v:Int)(T:Array Value)(u:World):Prop extends Uh h0 sz L D N cc xs b T u where
 t5:T.getD 5 undef=.int .i64 v
theorem Uo.hpo{h0:Array Obj}{sz:Nat}{L:Lv}{D:Option Addr}{N cc:Nat}{xs:List In}{b:Nat}{v:Int}:Hpo (Uo h0 sz L D N cc xs b v):=fun _ _ _ h e=>{ h with P:=h.P.same e,rd:=h.rd.same e,hp:=h.hp.same e }
theorem Uo.put{h0:Array Obj}{sz:Nat}{L:Lv}{D:Option Addr}{N cc:Nat}{xs:List In}{b d:Nat}{v:Int}{T:Array Value}{u:World}(x:Uo h0 sz L D N cc xs b v T u)(hd:5<d)(z:Value):Uo h0 sz L D N cc xs b v (Bh T (some d) z) u :=
 ⟨⟨size_put.trans x.size,(Aj (by omega)).trans x.t3,(Aj (by omega)).trans x.t4,x.P,x.rd,x.lo,x.hp,x.lb,x.bp,x.sm⟩,(Aj (by omega)).trans x.t5⟩
theorem Uo.at{h0:Array Obj}{sz:Nat}{L:Lv}{D:Option Addr}{N cc:Nat}{xs:List In}{b:Nat}{v:Int}{T:Array Value}{u u':World}(x:Uo h0 sz L D N cc xs b v T u)(B:Below u.heap.size u u'):Uo h0 sz L D N cc xs b v T u':={ x with P:=x.P.step B,rd:=x.rd.step B,hp:=x.hp.step B }
theorem Uh.put{h0:Array Obj}{sz:Nat}{L:Lv}{D:Option Addr}{N cc:Nat}{xs:List In}{b d:Nat}{T:Array Value}{u:World}(x:Uh h0 sz L D N cc xs b T u)(hd:4<d)(z:Value):Uh h0 sz L D N cc xs b (Bh T (some d) z) u :=
 ⟨size_put.trans x.size,(Aj (by omega)).trans x.t3,(Aj (by omega)).trans x.t4,x.P,x.rd,x.lo,x.hp,x.lb,x.bp,x.sm⟩
end Go.Proofs.YtaemcekcancpdaaGreatDoor
