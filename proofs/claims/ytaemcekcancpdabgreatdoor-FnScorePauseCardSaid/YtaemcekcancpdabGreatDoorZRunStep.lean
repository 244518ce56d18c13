import Derived.Test.YtaemcekcancpdabGreatDoorZRunHs
set_option linter.all false
set_option maxRecDepth 100000
set_option maxHeartbeats 8000000
open Go.Lib
namespace Go.Proofs.YtaemcekcancpdabGreatDoor
open Go.RowKit
open M
abbrev Lv.at(L:Lv)(xs:List In)(j:Nat):St:=L.run (xs.take j)
theorem Lv.at_zero{L:Lv}{xs:List In}:L.at xs 0=L.s0:=rfl
theorem Kt{L:Lv}{xs:List In}{n j:Nat}(h:CW L xs n (n:Int)=true)(hj:j<=n):CW L xs n (j:Int)=true:=by
 obtain⟨_,hok,hlg⟩:=CB.1 h;exact CB.2 ⟨⟨by omega,by omega⟩,hok,hlg⟩
theorem fin_at{L:Lv}{xs:List In}{n j:Nat}(h:CW L xs n (j:Int)=true):L.fin xs n (j:Int)=L.at xs j:=by unfold Lv.fin; rw[if_pos h]; rfl
theorem SK{L:Lv}{xs:List In}{j:Nat}(hj:j<xs.length):L.at xs (j+1)=L.nx (L.at xs j) (xs.getD j iz):=by
 have e0:xs.getD j iz=xs[j]:=by simp[List.getD,hj]
 rw[e0]
 show(xs.take (j+1)).foldl L.nx L.s0=L.nx ((xs.take j).foldl L.nx L.s0) xs[j]
 have e:xs.take (j+1)=xs.take j++[xs[j]]:=by rw[List.take_add_one,List.getElem?_eq_getElem hj]; rfl
 rw[e,List.foldl_append];rfl
theorem U7{L:Lv}{xs:List In}{n j:Nat}(hl:xs.length=n)(h:CW L xs n (n:Int)=true)(hj:j<n):eoB L.i L.t L.x L.y L.ws L.gs L.fp L.fq L.fs L.fz L.b (L.at xs j).k (L.at xs j).ax (L.at xs j).ay (L.at xs j).fx (L.at xs j).fy (L.at xs j).u (L.at xs j).g (L.at xs j).d (L.at xs j).o (xs.getD j iz).s (xs.getD j iz).p (xs.getD j iz).z=true:=by
 have hk:=Kt h (Nat.le_of_lt hj);obtain⟨_,hok,hlg⟩:=CB.1 h;obtain⟨_,hev,hkk⟩:=IM hl hk;simp only[Int.toNat_natCast] at hev hkk;obtain⟨hin,hlt⟩:=LF L.t L.b xs 0 0 0 (by omega) hlg;have hjl:j<xs.length:=by omega
 have e0:xs.getD j iz=xs[j]:=by simp[List.getD,hjl]
 have hv:=hin _ (List.getElem_mem hjl);have ht:=hlt j hjl;rw[e0];exact(JL ..).2 ⟨hev,hv,hkk.elim (fun h=>.inl (by unfold Lv.at; omega)) fun h=>.inr h.2⟩
theorem SL{L:Lv}{xs:List In}{n j:Nat}(hl:xs.length=n)(h:CW L xs n (n:Int)=true)(hj:j<n) :
 Tick L.t L.ws L.gs L.fp L.fq L.fs L.fz (L.at xs j).k (L.at xs j).ax (L.at xs j).ay (L.at xs j).fx (L.at xs j).fy (L.at xs j).u (L.at xs j).g (L.at xs j).d (L.at xs j).o (xs.getD j iz).s (xs.getD j iz).p (xs.getD j iz).z (L.at xs (j+1)).k (L.at xs (j+1)).ax (L.at xs (j+1)).ay (L.at xs (j+1)).fx (L.at xs (j+1)).fy (L.at xs (j+1)).u (L.at xs (j+1)).g (L.at xs (j+1)).d (L.at xs (j+1)).o :=
 JM (U7 hl h hj) (by rw[SK (by omega)]; rfl)
theorem U8{L:Lv}{xs:List In}{n:Nat}(h:CW L xs n (n:Int)=true):L.s0=⟨0,L.x,L.y,0,0,0,0,false,false⟩ :=
 (Lv.start_ok (CB.1 h).2.1).1
def Over(L:Lv)(xs:List In)(j:Nat):Prop :=
 (((L.at xs j).d||(L.at xs j).o)=false/\(L.at xs j).k=j) \/
 ∃ i:Nat,1<=i/\i<=j/\L.at xs j=L.at xs i/\(L.at xs i).k=i/\(L.at xs (i-1)).d=false/\((L.at xs i).d=true->(L.at xs i).g=L.gs.length/\Dd L.fp L.fq L.fs L.fz (L.at xs i).ax (L.at xs i).ay=true/\Av (L.at xs i).ax (L.at xs i).ay=true)/\((L.at xs i).d||(L.at xs i).o)=true
theorem NF{L:Lv}{xs:List In}{n:Nat}(hl:xs.length=n)(h:CW L xs n (n:Int)=true):∀ j,j<=n->Over L xs j
 | 0,_=>by
  rw[Over,Lv.at_zero,U8 h];exact .inl ⟨rfl,rfl⟩
 | j+1,hj=>by
  have T:=SL hl h (show j<n by omega);rcases NF hl h j (by omega) with⟨h1,h2⟩ | ⟨i,i1,i2,i3,i4,i5,i6,i7⟩
  . have hk:=T.tick h1;cases hd:(L.at xs (j+1)).d||(L.at xs (j+1)).o
    . exact .inl ⟨hd,by rw[hk,h2]; simp⟩
    . have hd0:(L.at xs j).d=false:=by
       cases hx:(L.at xs j).d
       . rfl
       . rw[hx] at h1; cases h1
      exact .inr ⟨j+1,by omega,Nat.le_refl _,rfl,by rw[hk,h2]; simp,hd0,fun hD=>⟨(T.fin hd0 hD).1,(T.fin hd0 hD).2,T.vok⟩,hd⟩
  . have hs:((L.at xs j).d||(L.at xs j).o)=true:=by rw[i3]; exact i7
    obtain⟨a1,a2,a3,a4,a5,a6,a7,a8,a9⟩:=T.stop hs;have e:L.at xs (j+1)=L.at xs j:=by
     rw[show L.at xs (j+1)=⟨(L.at xs (j+1)).k,(L.at xs (j+1)).ax,(L.at xs (j+1)).ay,(L.at xs (j+1)).fx,(L.at xs (j+1)).fy,(L.at xs (j+1)).u,(L.at xs (j+1)).g,(L.at xs (j+1)).d,(L.at xs (j+1)).o⟩ from rfl,a1,a2,a3,a4,a5,a6,a7,a8,a9]
    exact .inr ⟨i,i1,by omega,e.trans i3,i4,i5,i6,i7⟩
theorem LH{L:Lv}{xs:List In}{n:Nat}(hl:xs.length=n)(h:0<=L.score xs n):CW L xs n (n:Int)=true /\
 ∃ i:Nat,1<=i/\i<=n/\L.score xs n=i/\L.fin xs n (n:Int)=L.at xs i/\(L.at xs i).k=i/\(L.at xs i).d=true/\(L.at xs (i-1)).d=false/\(L.at xs i).g=L.gs.length/\NM L.fp L.fq L.fs L.fz (L.at xs i).ax (L.at xs i).ay=true:=by
 cases hok:CW L xs n (n:Int)
 . rw[Lv.score,hok] at h;simp[OQ] at h
 have e:=fin_at hok;have es:L.score xs n=if (L.at xs n).d then (L.at xs n).k else -1:=by
  rw[Lv.score,hok,e];simp[OQ]
 cases hd:(L.at xs n).d
 . rw[es,hd] at h;simp at h
 rcases NF hl hok n (Nat.le_refl _) with⟨h1,_⟩ | ⟨i,i1,i2,i3,i4,i5,i6,i7⟩
 . rw[hd] at h1; cases h1
 rw[i3] at hd;obtain⟨h6,h7,h8⟩:=i6 hd;have hbv:Dc L.fp L.fq L.fs L.fz=true:=((D7 ..).1 (CB.1 hok).2.1).2.2.2.2.2.2.2.1;refine⟨rfl,i,i1,i2,?_,e.trans i3,i4,hd,i5,h6,by rw[NM,hbv,h8,h7]; rfl⟩;rw[es,i3,hd,if_pos rfl,i4]
open Go.RowKit
open M
theorem LI(w:World)(m k:Nat):(w.drewN m).drewN k=w.drewN (m+k):=by simp[World.drewN,Nat.add_assoc]
theorem Cl(A D:Option Addr)(n c d:Nat)(xs:List Int)(w:World)(I:Ints w A n xs)(J:Ints w D n xs)(hn:n<=1048576) :
 Calls Tryz.prog 18 #[.slice A n c,.slice D n d] w fun e w'=>e=.returned (.bool true)/\Below w.heap.size w w':=by
 have I:=hid I;have J:=hid J;go_enter Tryz.func18,Tryz.ntmps18;go_wp2
 go_loopw [5] (fun i W=>∃ k m:Nat,k<=n/\i=.int .i64 k/\w.drewN m=W) (fun i _=>n-(intOf i).toNat)
 case atStart=>exact⟨0,0,Nat.zero_le _,rfl,rfl⟩
 case round =>
  obtain⟨k,m,hk,rfl,rfl⟩:=hrel;by_cases hlt:k<n
  . obtain⟨b,off,hA,_,hc⟩:=I.out.2 (by omega);obtain⟨b2,off2,hD,_,hc2⟩:=J.out.2 (by omega);have ck:(w.drewN m).cell? ⟨b,off+k,none⟩=some (.int .i64 (xs.getD k 0)):=hc k hlt;have ck2:(w.drewN m).cell? ⟨b2,off2+k,none⟩=some (.int .i64 (xs.getD k 0)):=hc2 k hlt;clear hc hc2;subst hA hD;generalize xs.getD k 0=z at *;obtain⟨W,hW⟩:∃ W,w.drewN m=W:=⟨_,rfl⟩;rw[hW] at ck ck2 ⊢;have hW:=hid hW;go_wp2_with fail
    go_quiet (fail)
    go_wp2
    go_roundw
    case rel=>exact⟨k+1,m+_,by omega,by go_num,by rw[<- hW.out]; exact(LI w m _).symm⟩
    case measure=>simp[intOf]; omega
  . go_wp2;go_ret;exact⟨rfl,Bv (Ac w) m⟩
abbrev Ta(s:St):Int:=ehI s.k s.ax s.ay s.fx s.fy s.u s.g s.d s.o
theorem OU{L:Lv}{xs:List In}{n:Nat}(hl:xs.length=n):L.s0::L.stl L.s0 xs=(List.range (n+1)).map (L.at xs):=by
 apply List.ext_getElem?;intro i;by_cases hi:i<=n
 . rw[QF L xs L.s0 i (by omega),List.getElem?_map,List.getElem?_range (by omega)];rfl
 . rw[List.getElem?_eq_none (by rw[List.length_cons,FZ]; omega),List.getElem?_eq_none (by simp; omega)]
theorem LJ(st:Nat->St):∀ n,Bm 0 ((List.range (n+1)).map st)=(List.range (n / 5)).map fun t=>Ta (st (5*(t+1)))
 | 0=>by simp[Bm]
 | n+1=>by
  rw[List.range_succ,List.map_append,Ks,LJ st n];simp only[List.map_cons,List.map_nil,List.length_map,List.length_range,Bm,List.append_nil,Nat.zero_add];by_cases h:(n+1) % 5=0
  . rw[if_pos ⟨by omega,h⟩,show(n+1) / 5=n / 5+1 by omega,List.range_succ,List.map_append];simp only[List.map_cons,List.map_nil,show 5*(n / 5+1)=n+1 by omega]
  . rw[if_neg (fun x=>h x.2),show(n+1) / 5=n / 5 by omega,List.append_nil]
theorem LK{L:Lv}{xs:List In}{n:Nat}(hl:xs.length=n)(h:CW L xs n (n:Int)=true):Bm 0 (hashes.sts L xs n)=(List.range (n / 5)).map fun t=>Ta (L.at xs (5*(t+1))):=by
 unfold hashes.sts;rw[if_pos h,OU hl,LJ]
theorem U9{L:Lv}{xs:List In}{n:Nat}(h:CW L xs n (n:Int)=false):Bm 0 (hashes.sts L xs n)=[]:=by
 unfold hashes.sts;rw[h];rfl
theorem QJ{w:World}{base:Nat}{v:Value}{n:Nat}{xs:List Int}(h:w.ownsRow base 3 1 v n (Ja xs)):∃ A cap,v=.slice A n cap/\Ints w A n xs:=Ints.of_own h
def Uf(w:World)(L:Lv)(N:Nat)(F:Nat->Int)(ok:Bool)(ov nv:Value)(W:World):Prop :=
 ∃ i:Nat,i*5<=N/\(ok=false->i=0)/\nv=.int .i64 (5*(i+1):Nat)/\W.ownsRow (w.heap.size+1) 3 1 ov i (Ja ((List.range i).map F))/\CellsAt W w.heap.size L.cs/\Below w.heap.size w W
def SN(w:World)(N:Nat)(F:Nat->Int)(ok:Bool)(e:Ending)(w':World):Prop:=∃ E m c,e=.returned (.slice E m c)/\((if ok then m=N / 5 else m=0)/\Ints w' E m ((List.range m).map F))/\Below w.heap.size w w'
theorem SO(L:Lv)(D:Option Addr)(N cc:Nat)(xs:List In)(w:World)(F:Nat->Int)(ok:Bool)(hN:N<=1000)(I:Boxes w L.A L.n L.ws)(J:Boxes w L.G L.m L.gs)(Y:Inputs w D N xs)
 (hO:∀ W,Boxes W L.A L.n L.ws->Boxes W L.G L.m L.gs->Inputs W D N xs->Calls Tryz.prog 30 #[L.val,.slice D N cc] W fun e w'=>e=.returned (.bool ok)/\Below W.heap.size W w')
 (hT:ok=true->∀ W (j:Nat),j<=N->Boxes W L.A L.n L.ws->Boxes W L.G L.m L.gs->Inputs W D N xs->∃ s:St,Calls Tryz.prog 31 #[L.val,.slice D N cc,.int .i64 j] W (fun e w'=>e=.returned (sva s)/\Below W.heap.size W w')/\∀ t,j=5*(t+1)->∀ W,Calls Tryz.prog 36 #[sva s] W fun e w'=>e=.returned (.int .i64 (F t))/\Below W.heap.size W w') :
 Calls Tryz.prog 17 #[L.val,.slice D N cc] w (SN w N F ok):=by
 have P0:CellsAt (w.alloc (.cells #[.int .i64 L.i,.int .i64 L.t,.int .i64 L.x,.int .i64 L.y,.slice L.A L.n L.c,.slice L.G L.m L.kk,.int .i64 L.fp,.int .i64 L.fq,.int .i64 L.fs,.int .i64 L.fz,.int .i64 L.b] 29)) w.heap.size L.cs:=CellsAt.new w _ _ _ rfl;have P:=P0.alloc (.cells #[] 3);have H:=Aa (Aa (Ac w) (.cells #[.int .i64 L.i,.int .i64 L.t,.int .i64 L.x,.int .i64 L.y,.slice L.A L.n L.c,.slice L.G L.m L.kk,.int .i64 L.fp,.int .i64 L.fq,.int .i64 L.fs,.int .i64 L.fz,.int .i64 L.b] 29)) (.cells #[] 3)
 have O:((w.alloc (.cells #[.int .i64 L.i,.int .i64 L.t,.int .i64 L.x,.int .i64 L.y,.slice L.A L.n L.c,.slice L.G L.m L.kk,.int .i64 L.fp,.int .i64 L.fq,.int .i64 L.fs,.int .i64 L.fz,.int .i64 L.b] 29)).alloc (.cells #[] 3)).ownsRow (w.heap.size+1) 3 1 (.slice (some ⟨w.heap.size+1,0,none⟩) 0 0) 0 (Ja ((List.range 0).map F)):=by
  have:=World.ownsRow_lit (base:=w.heap.size+1) (size:=1) (e:=3) (w.alloc (.cells #[.int .i64 L.i,.int .i64 L.t,.int .i64 L.x,.int .i64 L.y,.slice L.A L.n L.c,.slice L.G L.m L.kk,.int .i64 L.fp,.int .i64 L.fq,.int .i64 L.fs,.int .i64 L.fz,.int .i64 L.b] 29)) #[] 0 (by simp) (Nat.zero_le _) rfl;simpa using this
 have I:=hid I;have J:=hid J;have Y:=hid Y;have hO:=hid hO;have hT:=hid hT;go_enter Tryz.func17,Tryz.ntmps17;go_wp2
 go_loopw [5,6] (Uf w L N F ok) (fun _ i _=>N+5-(intOf i).toNat)
 case atStart=>exact⟨0,by omega,fun _=>rfl,rfl,O,P,H⟩
 case round =>
  clear P0 P H O;obtain⟨i,hi,h0,rfl,O,P,H⟩:=hrel;obtain⟨E,c,rfl,IE⟩:=QJ O;have O:=hid O;have H:=hid H;have e5:((5*(i+1):Nat):Int)=5*((i:Int)+1):=by omega
  by_cases hlt:5*(i+1)<=N
  rotate_left
  . have hd:decide (5*(i+1)<=N)=false:=decide_eq_false hlt;have hd2:decide (((5*(i+1):Nat):Int)<=(N:Int))=false:=decide_eq_false (by omega);go_wp2;go_ret;refine⟨E,i,c,rfl,⟨?_,IE⟩,H.out⟩;cases ok
    . exact h0 rfl
    . show i=N / 5
      omega
  have hd:decide (5*(i+1)<=N)=true:=decide_eq_true hlt;have hd2:decide (((5*(i+1):Nat):Int)<=(N:Int))=true:=decide_eq_true (by omega);have hd3:decide (5*((i:Int)+1)<=(N:Int))=true:=decide_eq_true (by omega);go_upto_region 3 with fail;refine wp_region_lit ?_
  iterate 15 go_step
  refine Cz (by simp[Region.wanted,yielded,Act.put]) 29 (.tmp 2) rfl w.heap.size rfl L.cs P Tryz.underlying29 rfl Ag ?_;go_wp;refine(hO.out _ (I.out.step H.out) (J.out.step H.out) (Y.out.step H.out)).mono ?_;rintro e w1 ⟨rfl,B⟩;replace IE:=IE.step B;replace O:=hid (BB O.out B);replace P:=P.step B;replace H:=hid (Ab H.out B);clear B;dsimp only;cases ok
  . obtain rfl:=h0 rfl;go_wp2;go_ret;exact⟨E,0,c,rfl,⟨rfl,IE⟩,H.out⟩
  . obtain⟨s,C1,C2⟩:=hT.out rfl w1 (5*(i+1)) hlt (I.out.step H.out) (J.out.step H.out) (Y.out.step H.out);have C2:=C2 i rfl;have C1:=hid C1;have C2:=hid C2;clear IE;go_upto_region 5 with fail;refine wp_region_lit ?_
    iterate 3 go_step
    refine Af rfl 29 (.tmp 2) rfl w.heap.size rfl L.cs P Tryz.underlying29 rfl Ag ?_;go_wp;refine C1.out.mono ?_;rintro e w2 ⟨rfl,B⟩;replace O:=hid (BB O.out B);replace P:=P.step B;replace H:=hid (Ab H.out B);clear B C1;dsimp only;go_wp;refine(C2.out _).mono ?_;rintro e w3 ⟨rfl,B⟩;replace O:=hid (BB O.out B);replace P:=P.step B;replace H:=hid (Ab H.out B);clear B C2;dsimp only
    iterate 4 go_step
    have B2:=Aa (Ac w3) (.cells #[.int .i64 (F i)] 3);have pl:=P.lt;refine G6 _ rfl _ _ rfl (w.heap.size+1) (.slice E i c) i ((List.range i).map F) rfl (BB O.out B2) (some ⟨w3.heap.size,0,none⟩) 1 1 [F i] rfl (Ints.one w3 _ _) (by omega) (by have:=B2.size; omega) ?_;intro v' w' O2 G hB;have P2:=(P.step B2).grown G (fun e=>by have:=((BB O.out B2).lt _ e).1; omega);have H2:=(Ab H.out B2).grown G (Ab H.out B2).size (fun k e=>by have:=((BB O.out B2).lt _ e).1; omega);rw[show(List.range i).map F++[F i]=(List.range (i+1)).map F by rw[List.range_succ,List.map_append]; rfl] at O2;clear O P H G hB B2
    have hw1:IntKind.i64.wrap (((5*(i+1):Nat):Int)+5)=((5*(i+1+1):Nat):Int):=by rw[IntWalk.i64_in _ (by omega)]; omega
    go_wp2
    go_roundw
    case rel=>exact⟨i+1,by omega,fun h=>(by cases h),by first | rfl | go_num,O2,P2,H2⟩
    case measure=>simp[intOf]; omega
theorem QK(L:Lv)(D:Option Addr)(N cc:Nat)(xs:List In)(w:World)(I:Boxes w L.A L.n L.ws)(J:Boxes w L.G L.m L.gs)(hn:L.n<=281474976710656)(hm:L.m<=281474976710656)(Y:Inputs w D N xs)(hN:N<=1000) :
 Calls Tryz.prog 17 #[L.val,.slice D N cc] w fun e w'=>(∃ E c,e=.returned (.slice E (Bm 0 (hashes.sts L xs N)).length c)/\Ints w' E (Bm 0 (hashes.sts L xs N)).length (Bm 0 (hashes.sts L xs N)))/\Below w.heap.size w w':=by
 have hl:=Y.1;have ho:CW L xs N (N:Int)=decide (DC L.i L.t L.x L.y L.ws L.gs L.fp L.fq L.fs L.fz L.b xs=-1):=by simp[CW]
 refine(SO L D N cc xs w (fun t=>Ta (L.at xs (5*(t+1)))) (CW L xs N (N:Int)) hN I J Y (fun W a b c=>by rw[ho]; exact LG L D N cc xs W a b hn hm c (by omega)) (fun hok W j hj a b c=>?_)).mono ?_
 . have hk:=Kt hok hj;have er:=IM hl hk;simp only[Int.toNat_natCast] at er;obtain⟨_,hlv,hlg⟩:=CB.1 hok;obtain⟨⟨hb,hx⟩,hy⟩:=S5 hlv;refine⟨L.at xs j,?_,fun t ht W=>?_⟩
   . have:=QP L.i L.t L.x L.y L.A L.n L.c L.G L.m L.kk L.fp L.fq L.fs L.fz L.b L.ws L.gs D N cc xs j W a b c hb hn hm hN hj (LF L.t L.b xs 0 0 0 (by omega) hlg).1 hx hy;rw[<- er.1] at this;exact this
   . subst ht;have ho:=(LZ er.2.1).2.1;have:=NR (L.at xs (5*(t+1))).k (L.at xs (5*(t+1))).ax (L.at xs (5*(t+1))).ay (L.at xs (5*(t+1))).fx (L.at xs (5*(t+1))).fy (L.at xs (5*(t+1))).u (L.at xs (5*(t+1))).g (L.at xs (5*(t+1))).d (L.at xs (5*(t+1))).o W;unfold Ta;rw[ehI,if_pos ho];exact this
 . rintro e w' ⟨E,m,c,rfl,⟨h2,h3⟩,B⟩;refine⟨⟨E,c,?_⟩,B⟩;cases hok:CW L xs N (N:Int)
   . rw[hok] at h2;obtain rfl:m=0:=h2;rw[U9 hok];exact⟨rfl,h3⟩
   . rw[hok] at h2;obtain rfl:m=N / 5:=h2;rw[LK hl hok];simp only[List.length_map,List.length_range];exact⟨trivial,h3⟩
open Go.RowKit
open M
abbrev zP:In:=⟨0,0,true⟩
def QL(s:St):St:=⟨s.k+1,s.ax,s.ay,s.fx,s.fy,s.u,s.g,s.d,s.o⟩
theorem Mz(c:Bool){A B A' B':St}(h:A=QL A')(k:B=QL B'):(if c then A else B)=QL (if c then A' else B'):=by cases c<;>simp[h,k]
theorem Va(ws gs:List Bx)(p q r z:Int)(s:St)(x:In):stS ws gs p q r z (QL s) x=QL (stS ws gs p q r z s x):=by
 unfold stS
 show(if s.d||s.o then QL s else if x.z then ⟨s.k+1+1,s.ax,s.ay,s.fx,s.fy,s.u,s.g,s.d,s.o⟩ else Gi ws gs p q r z ⟨s.k+1+1,s.ax,s.ay,s.fx,s.fy,s.u,s.g,s.d,s.o⟩ x.s x.p)=_
 refine Mz _ rfl (Mz _ rfl ?_);unfold Gi;exact Mz _ rfl rfl
theorem Tb(ws gs:List Bx)(p q r z:Int):∀(xs:List In) (s:St),toS ws gs p q r z (QL s) xs=QL (toS ws gs p q r z s xs)
 | [],s=>rfl
 | x::xs,s=>by
  show toS ws gs p q r z (stS ws gs p q r z (QL s) x) xs=_
  rw[Va,Tb ws gs p q r z xs];rfl
theorem LL{L:Lv}{xs:List In}{n:Nat}(hl:xs.length=n)(h0:0<=L.score xs n)(h:DC L.i L.t L.x L.y L.ws L.gs L.fp L.fq L.fs L.fz L.b (zP::xs)<0):L.score (zP::xs) (n+1)=L.score xs n+1:=by
 obtain⟨hok,_⟩:=LH hl h0;have hlv:=(CB.1 hok).2.1;have hil:DC L.i L.t L.x L.y L.ws L.gs L.fp L.fq L.fs L.fz L.b (zP::xs)=-1:=by
  unfold DC at h ⊢;split
  . rename_i hv;rw[if_pos hv] at h;rcases Jh L.t L.b (zP::xs) 0 0 0 with e | ⟨e,_⟩
    . exact e
    . have:0<=IZ L.t L.b (zP::xs):=e;omega
  . rename_i hv;rw[if_neg hv] at h;omega
 have hok2:CW L (zP::xs) (n+1) ((n+1:Nat):Int)=true:=by simp[CW,hil]; omega
 have e1:=(IM hl hok).1;have e2:=(IM (xs:=zP::xs) (n:=n+1) (by simp[hl]) hok2).1;simp only[Int.toNat_natCast] at e1 e2;have f1:L.fin xs n (n:Int)=toS L.ws L.gs L.fp L.fq L.fs L.fz ⟨0,L.x,L.y,0,0,0,0,false,false⟩ xs:=by
  rw[fin_at hok]; unfold Lv.at; rw[e1,List.take_of_length_le (by omega)]
 have f2:L.fin (zP::xs) (n+1) ((n+1:Nat):Int)=QL (toS L.ws L.gs L.fp L.fq L.fs L.fz ⟨0,L.x,L.y,0,0,0,0,false,false⟩ xs):=by
  rw[fin_at hok2]; unfold Lv.at; rw[e2,List.take_of_length_le (by simp; omega),<- Tb];rfl
 rw[Lv.score,hok,f1] at h0;rw[Lv.score,Lv.score,hok,hok2,f1,f2];cases hd:(toS L.ws L.gs L.fp L.fq L.fs L.fz ⟨0,L.x,L.y,0,0,0,0,false,false⟩ xs).d
 . rw[OQ,hd] at h0; simp at h0
 . simp[OQ,QL,hd]
theorem QM{L:Lv}{xs:List In}{n:Nat}(h:0<=DC L.i L.t L.x L.y L.ws L.gs L.fp L.fq L.fs L.fz L.b xs):L.score xs n=-1:=by
 have hok:CW L xs n n=false:=by
  simp only[CW];rw[show decide (DC L.i L.t L.x L.y L.ws L.gs L.fp L.fq L.fs L.fz L.b xs=-1)=false from decide_eq_false (by omega)];simp
 rw[Lv.score,hok];simp[OQ]
end Go.Proofs.YtaemcekcancpdabGreatDoor
