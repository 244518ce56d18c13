import Derived.Test.YtaemcekcancpdabGreatDoorZRunStep
set_option linter.all false
set_option maxRecDepth 100000
set_option maxHeartbeats 8000000
open Go.Lib
namespace Go.Proofs.YtaemcekcancpdabGreatDoor
open Go.RowKit
open M
theorem SJ{L:Lv}{xs:List In}{k:Nat}:CW L xs k (k:Int)=decide (DC L.i L.t L.x L.y L.ws L.gs L.fp L.fq L.fs L.fz L.b xs=-1):=by
 simp[CW]
theorem OT(L:Lv)(D:Option Addr)(k cc:Nat)(xs:List In)(w:World)(I:Boxes w L.A L.n L.ws)(J:Boxes w L.G L.m L.gs)(hn:L.n<=281474976710656)(hm:L.m<=281474976710656)(Y:Inputs w D k xs)(hk:k<=1000) :
 Calls Tryz.prog 11 #[L.val,.slice D k cc] w fun e w'=>e=.returned (.int .i64 (L.score xs k))/\Below w.heap.size w w':=by
 have hl:=Y.1;have P:CellsAt (w.alloc (.cells #[.int .i64 L.i,.int .i64 L.t,.int .i64 L.x,.int .i64 L.y,.slice L.A L.n L.c,.slice L.G L.m L.kk,.int .i64 L.fp,.int .i64 L.fq,.int .i64 L.fs,.int .i64 L.fz,.int .i64 L.b] 29)) w.heap.size L.cs:=CellsAt.new w _ _ _ rfl;have V:=hid (LG L D k cc xs (w.alloc (.cells #[.int .i64 L.i,.int .i64 L.t,.int .i64 L.x,.int .i64 L.y,.slice L.A L.n L.c,.slice L.G L.m L.kk,.int .i64 L.fp,.int .i64 L.fq,.int .i64 L.fs,.int .i64 L.fz,.int .i64 L.b] 29)) (I.alloc _) (J.alloc _) hn hm (Y.alloc _) (by omega))
 have H:=hid (Aa (Ac w) (.cells #[.int .i64 L.i,.int .i64 L.t,.int .i64 L.x,.int .i64 L.y,.slice L.A L.n L.c,.slice L.G L.m L.kk,.int .i64 L.fp,.int .i64 L.fq,.int .i64 L.fs,.int .i64 L.fz,.int .i64 L.b] 29));have I:=hid I;have J:=hid J;have Y:=hid Y;have e0:=SJ (L:=L) (xs:=xs) (k:=k);go_enter Tryz.func11,Tryz.ntmps11;go_upto_region 1 with fail;refine wp_region_lit ?_;refine Af rfl 29 (.tmp 2) rfl w.heap.size rfl L.cs P Tryz.underlying29 rfl Ag ?_;go_wp;refine V.out.mono ?_;rintro e w1 ⟨rfl,B⟩;have P:=P.step B;replace H:=hid (Ab H.out B);clear B V;dsimp only
 cases hI:decide (DC L.i L.t L.x L.y L.ws L.gs L.fp L.fq L.fs L.fz L.b xs=-1)
 . have E:=hid (show L.score xs k=-1 by rw[Lv.score,e0,hI]; rfl);clear hI e0;go_wp2;go_ret;exact⟨by rw[E.out]; rfl,H.out⟩
 . have hok:CW L xs k (k:Int)=true:=e0.trans hI;obtain⟨_,hlv,hlg⟩:=CB.1 hok;have er:=(IM hl hok).1;obtain⟨⟨hb,hx⟩,hy⟩:=S5 hlv;have E:=hid (show L.score xs k=if (toS L.ws L.gs L.fp L.fq L.fs L.fz ⟨0,L.x,L.y,0,0,0,0,false,false⟩ (xs.take k)).d then (toS L.ws L.gs L.fp L.fq L.fs L.fz ⟨0,L.x,L.y,0,0,0,0,false,false⟩ (xs.take k)).k else -1 by
    have f1:L.fin xs k k=toS L.ws L.gs L.fp L.fq L.fs L.fz ⟨0,L.x,L.y,0,0,0,0,false,false⟩ (xs.take k):=by unfold Lv.fin; rw[if_pos hok]; exact er
    rw[Lv.score,hok,f1];simp[OQ])
   have vx:VIn xs:=(LF L.t L.b xs 0 0 0 (by omega) hlg).1;have T:=hid (QP L.i L.t L.x L.y L.A L.n L.c L.G L.m L.kk L.fp L.fq L.fs L.fz L.b L.ws L.gs D k cc xs k w1 (I.out.step H.out) (J.out.step H.out) (Y.out.step H.out) hb hn hm hk (Nat.le_refl _) vx hx hy);clear hI hok er vx hlg hlv I J Y e0;generalize toS L.ws L.gs L.fp L.fq L.fs L.fz ⟨0,L.x,L.y,0,0,0,0,false,false⟩ (xs.take k)=s at *;go_upto_region 3 with fail;refine wp_region_lit ?_;refine Af rfl 29 (.tmp 2) rfl w.heap.size rfl L.cs P Tryz.underlying29 rfl Ag ?_;go_wp;refine T.out.mono ?_;rintro e w2 ⟨rfl,B⟩;replace H:=hid (Ab H.out B);clear B T P;dsimp only
   iterate 4 go_step
   have hz:=H.out.size;refine Ah rfl 35 (.tmp 5) (.tmp 14) rfl w2.heap.size rfl (svs s) rfl _ (CellsAt.new w2 _ [_,_,_,_,_,_,_,_,_] 35 rfl) (Nat.le_refl _) Ad rfl ?_;intro w3 K S;have H:=hid (Am (Aa H.out (.cells #[.int .i64 0,.int .i64 0,.int .i64 0,.int .i64 0,.int .i64 0,.int .i64 0,.int .i64 0,.bool false,.bool false] 35)) K hz);have s0:=S.cell 0 _ rfl;have s7:=S.cell 7 _ rfl;have sl:=S.lt;clear K;cases hd:s.d
   . rw[hd] at s7 E;clear hd;go_wp2;go_ret;exact⟨by rw[E.out]; rfl,H.out⟩
   . rw[hd] at s7 E;clear hd;go_wp2;go_ret;exact⟨by rw[E.out]; rfl,H.out⟩
open Go.RowKit
open M
open Ren
open Go.Conc
open Go.RowKit
open M
open Ren
open Go.Conc
structure Uh(h0:Array Obj)(sz:Nat)(L:Lv)(D:Option Addr)(N cc:Nat)(xs:List In)(b:Nat)(T:Array Value)(u:World):Prop where
 size:T.size=sz
 t3:T.getD 3 undef=AJ b
 t4:T.getD 4 undef=.slice D N cc
 P:CellsAt u b L.cs
 rd:Ready L D N cc xs u
 lo:Low L D b
 hp:Hp h0 u
 lb:h0.size<=b
 bp:0<b
 sm:N<=63
theorem Uh.hpo{h0:Array Obj}{sz:Nat}{L:Lv}{D:Option Addr}{N cc:Nat}{xs:List In}{b:Nat}:Hpo (Uh h0 sz L D N cc xs b):=fun _ _ _ h e=>{ h with P:=h.P.same e,rd:=h.rd.same e,hp:=h.hp.same e }
structure Uo(h0:Array Obj)(sz:Nat)(L:Lv)(D:Option Addr)(N cc:Nat)(xs:List In)(b:Nat)(v:Int)(T:Array Value)(u:World):Prop extends Uh h0 sz L D N cc xs b T u where
 t5:T.getD 5 undef=.int .i64 v
theorem Uo.hpo{h0:Array Obj}{sz:Nat}{L:Lv}{D:Option Addr}{N cc:Nat}{xs:List In}{b:Nat}{v:Int}:Hpo (Uo h0 sz L D N cc xs b v):=fun _ _ _ h e=>{ h with P:=h.P.same e,rd:=h.rd.same e,hp:=h.hp.same e }
theorem Uo.put{h0:Array Obj}{sz:Nat}{L:Lv}{D:Option Addr}{N cc:Nat}{xs:List In}{b d:Nat}{v:Int}{T:Array Value}{u:World}(x:Uo h0 sz L D N cc xs b v T u)(hd:5<d)(z:Value):Uo h0 sz L D N cc xs b v (Bo T (some d) z) u :=
 ⟨⟨size_put.trans x.size,(Ay (by omega)).trans x.t3,(Ay (by omega)).trans x.t4,x.P,x.rd,x.lo,x.hp,x.lb,x.bp,x.sm⟩,(Ay (by omega)).trans x.t5⟩
theorem Uo.at{h0:Array Obj}{sz:Nat}{L:Lv}{D:Option Addr}{N cc:Nat}{xs:List In}{b:Nat}{v:Int}{T:Array Value}{u u':World}(x:Uo h0 sz L D N cc xs b v T u)(B:Below u.heap.size u u'):Uo h0 sz L D N cc xs b v T u':={ x with P:=x.P.step B,rd:=x.rd.step B,hp:=x.hp.step B }
theorem Uh.put{h0:Array Obj}{sz:Nat}{L:Lv}{D:Option Addr}{N cc:Nat}{xs:List In}{b d:Nat}{T:Array Value}{u:World}(x:Uh h0 sz L D N cc xs b T u)(hd:4<d)(z:Value):Uh h0 sz L D N cc xs b (Bo T (some d) z) u :=
 ⟨size_put.trans x.size,(Ay (by omega)).trans x.t3,(Ay (by omega)).trans x.t4,x.P,x.rd,x.lo,x.hp,x.lb,x.bp,x.sm⟩
end Go.Proofs.YtaemcekcancpdabGreatDoor
namespace Go.Proofs.YtaemcekcancpdabGreatDoor
open Go.RowKit
open M
open Ren
structure Hz(h0:Array Obj)(sz:Nat)(X:Value)(a:Option Addr)(len cap:Nat)(zs:List Int)(T:Array Value)(u:World):Prop where
 size:T.size=sz
 t0:T.getD 0 undef=.slice a len cap
 x1:T.getD 1 undef=X
 row:IsRow .u8 u a len cap zs
 q:Quarter u
 hp:Hp h0 u
theorem Hz.hpo{h0:Array Obj}{sz:Nat}{X:Value}{a:Option Addr}{len cap:Nat}{zs:List Int}:Hpo (Hz h0 sz X a len cap zs):=fun _ _ _ h e=>⟨h.size,h.t0,h.x1,h.row.same e,h.q.same e,h.hp.same e⟩
structure Hh(h0:Array Obj)(sz z:Nat)(X:Value)(L:Lv)(D:Option Addr)(N cc:Nat)(xs:List In)(b:Nat)(T:Array Value)(u:World):Prop where
 size:T.size=sz
 x1:T.getD 1 undef=X
 t3:T.getD (3+z) undef=AJ b
 t4:T.getD (4+z) undef=.slice D N cc
 P:CellsAt u b L.cs
 rd:Ready L D N cc xs u
 lo:Low L D b
 hp:Hp h0 u
 lb:h0.size<=b
 bp:0<b
 sm:N<=63
theorem Hh.hpo{h0:Array Obj}{sz z:Nat}{X:Value}{L:Lv}{D:Option Addr}{N cc:Nat}{xs:List In}{b:Nat}:Hpo (Hh h0 sz z X L D N cc xs b):=fun _ _ _ h e=>{ h with P:=h.P.same e,rd:=h.rd.same e,hp:=h.hp.same e }
theorem Hh.put{h0:Array Obj}{sz z:Nat}{X:Value}{L:Lv}{D:Option Addr}{N cc:Nat}{xs:List In}{b d:Nat}{T:Array Value}{u:World}(x:Hh h0 sz z X L D N cc xs b T u)(hd:4+z<d)(v:Value):Hh h0 sz z X L D N cc xs b (Bo T (some d) v) u :=
 ⟨size_put.trans x.size,(Ay (by omega)).trans x.x1,(Ay (by omega)).trans x.t3,(Ay (by omega)).trans x.t4,x.P,x.rd,x.lo,x.hp,x.lb,x.bp,x.sm⟩
theorem Hh.at{h0:Array Obj}{sz z:Nat}{X:Value}{L:Lv}{D:Option Addr}{N cc:Nat}{xs:List In}{b:Nat}{T:Array Value}{u u':World}(x:Hh h0 sz z X L D N cc xs b T u)(B:Below u.heap.size u u'):Hh h0 sz z X L D N cc xs b T u':={ x with P:=x.P.step B,rd:=x.rd.step B,hp:=x.hp.step B }
theorem Ints.same{u u':World}{A:Option Addr}{n:Nat}{xs:List Int}(h:Ints u A n xs)(e:u'.heap=u.heap):Ints u' A n xs :=
 ⟨h.1,fun hn=>by
  obtain⟨b,off,e1,hb,hc⟩:=h.2 hn;exact⟨b,off,e1,by rw[e]; exact hb,fun k hk=>(Ca e _).trans (hc k hk)⟩⟩
theorem Ints.part{w:World}{A:Option Addr}{n:Nat}{xs:List Int}(h:Ints w A n xs){j:Nat}(hj:j<=n):Ints w A j (xs.take j) :=
 ⟨by rw[List.length_take,h.1]; omega,fun h0=>by
  obtain⟨b,off,e,hb,hc⟩:=h.2 (by omega);refine⟨b,off,e,hb,fun k hk=>?_⟩;have t:=hc k (by omega);have e2:(xs.take j).getD k 0=xs.getD k 0:=by simp[List.getD_eq_getElem?_getD,List.getElem?_take,hk]
  rw[e2];exact t⟩
theorem Ints.lt{w:World}{A:Option Addr}{n:Nat}{xs:List Int}(h:Ints w A n xs)(hn:0<n):∀ k off,A=some ⟨k,off,none⟩->k<w.heap.size:=fun k off e=>by
 obtain⟨b,off',e',hb,_⟩:=h.2 hn;rw[e'] at e;cases e
 exact hb
theorem Ints.lit(u:World)(l:List Int)(t:TypeId):Ints (u.alloc (.cells (Ja l).toArray t)) (some ⟨u.heap.size,0,none⟩) l.length l :=
 ⟨rfl,fun hn=>⟨u.heap.size,0,rfl,by simp,fun k hk=>by
  unfold World.cell?;rw[heap_alloc_new u (.cells (Ja l).toArray t)];simp[Ja,List.getD,hk]⟩⟩
structure Ho(h0:Array Obj)(sz z:Nat)(X:Value)(L:Lv)(D:Option Addr)(N cc:Nat)(xs:List In)(b:Nat)(g m c:Nat)(hs:List Int)(T:Array Value)(u:World):Prop extends Hh h0 sz z X L D N cc xs b T u where
 t5:T.getD (5+z) undef=.slice (some ⟨g,0,none⟩) m c
 Y:Ints u (some ⟨g,0,none⟩) m hs
 room:m<=c
theorem Ho.hpo{h0:Array Obj}{sz z:Nat}{X:Value}{L:Lv}{D:Option Addr}{N cc:Nat}{xs:List In}{b:Nat}{g m c:Nat}{hs:List Int}:Hpo (Ho h0 sz z X L D N cc xs b g m c hs):=fun _ _ _ h e=>{ h with P:=h.P.same e,rd:=h.rd.same e,hp:=h.hp.same e,Y:=h.Y.same e }
theorem Ho.put{h0:Array Obj}{sz z:Nat}{X:Value}{L:Lv}{D:Option Addr}{N cc:Nat}{xs:List In}{b d:Nat}{g m c:Nat}{hs:List Int}{T:Array Value}{u:World}(x:Ho h0 sz z X L D N cc xs b g m c hs T u)(hd:5+z<d)(v:Value):Ho h0 sz z X L D N cc xs b g m c hs (Bo T (some d) v) u :=
 ⟨x.toHh.put (by omega) v,(Ay (by omega)).trans x.t5,x.Y,x.room⟩
theorem Ho.at{h0:Array Obj}{sz z:Nat}{X:Value}{L:Lv}{D:Option Addr}{N cc:Nat}{xs:List In}{b:Nat}{g m c:Nat}{hs:List Int}{T:Array Value}{u u':World}(x:Ho h0 sz z X L D N cc xs b g m c hs T u)(B:Below u.heap.size u u'):Ho h0 sz z X L D N cc xs b g m c hs T u':=⟨x.toHh.at B,x.t5,x.Y.step B,x.room⟩
structure Hp2(h0:Array Obj)(sz z:Nat)(X:Value)(L:Lv)(D:Option Addr)(N cc:Nat)(xs:List In)(b:Nat)(g m c:Nat)(hs:List Int)(E:Option Addr)(c2:Nat)(T:Array Value)(u:World):Prop extends Ho h0 sz z X L D N cc xs b g m c hs T u where
 t6:T.getD (6+z) undef=.slice E m c2
 Z:Ints u E m hs
theorem Hp2.hpo{h0:Array Obj}{sz z:Nat}{X:Value}{L:Lv}{D:Option Addr}{N cc:Nat}{xs:List In}{b:Nat}{g m c:Nat}{hs:List Int}{E:Option Addr}{c2:Nat}:Hpo (Hp2 h0 sz z X L D N cc xs b g m c hs E c2):=fun _ _ _ h e=>{ h with P:=h.P.same e,rd:=h.rd.same e,hp:=h.hp.same e,Y:=h.Y.same e,Z:=h.Z.same e }
end Go.Proofs.YtaemcekcancpdabGreatDoor
