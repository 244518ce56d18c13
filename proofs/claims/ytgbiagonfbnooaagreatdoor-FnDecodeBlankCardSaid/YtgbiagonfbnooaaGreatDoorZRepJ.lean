import Derived.Test.YtgbiagonfbnooaaGreatDoorZRepI
import Derived.Test.YtgbiagonfbnooaaGreatDoorZTo
set_option linter.all false
set_option maxRecDepth 100000
set_option maxHeartbeats 8000000
open Go.Lib
namespace Go.Proofs.YtgbiagonfbnooaaGreatDoor
open Go.RowKit
open M
def FP(w:World)(o:Option Rep)(e:Ending)(w':World):Prop :=
 ∃(A:Option Addr) (n c:Nat) (H:Option Addr) (m d:Nat),e=.returned (.tuple #[CH (o.getD rz).l (o.getD rz).p (o.getD rz).s A n c H m d (o.getD rz).t,.bool o.isSome])/\(AK w.heap.size A/\AK w.heap.size H)/\Inputs w' A n (o.getD rz).xs/\Ints w' H m (o.getD rz).hs/\Below w.heap.size w w'
theorem BG{w W:World}{o:Option Rep}(h:o=none)(B:Below w.heap.size w W):FP w o (.returned (.tuple #[CH 0 0 0 none 0 0 none 0 0 0,.bool false])) W:=by
 subst h;exact⟨none,0,0,none,0,0,rfl,⟨(fun k off e=>by cases e),(fun k off e=>by cases e)⟩,Inputs.nil _ _,Ints.nil _ _,B⟩
theorem OH(s:ByteArray)(w:World)(hs:s.size<=2097152) :
 Calls Tryz.prog 14 #[.string s] w (FP w (Nh (tx s))):=by
 have D:CellsAt (w.alloc (.cells #[.int .i64 0,.int .i64 0,.int .i64 0,.slice none 0 0,.slice none 0 0,.int .i64 0] 26)) w.heap.size Bp:=CellsAt.new w _ _ _ rfl;have B:=Ab (Ac w) (.cells #[.int .i64 0,.int .i64 0,.int .i64 0,.slice none 0 0,.slice none 0 0,.int .i64 0] 26);replace D:=hid D;replace B:=hid B;go_enter Tryz.func14,Tryz.ntmps14;go_wp2_with fail;refine(OK s 10 10 rfl _ hs).mono ?_;rintro e w1 ⟨v,rfl,O,BB⟩;obtain⟨A,ca,rfl,S⟩:=Strs.of_own O;replace D:=hid (D.out.step BB);replace B:=hid (Aa B.out BB);obtain⟨ws,hws⟩:∃ ws,cut 10 (tx s)=ws:=⟨_,rfl⟩;have hcl:=cut_le 10 (tx s)
 have E:Nh (tx s)=ND ws:=by rw[Nh,hws]
 rw[hws] at S hcl;rw[BV] at hcl;rw[hws];have hwl:(ws.map str).length=ws.length:=List.length_map ..;rw[hwl] at S ⊢;clear BB O hwl hws;replace E:=hid E;by_cases p:ws.length=5
 rotate_left
 . have e1:ND ws=none:=by
    match ws,p with
    | [],_=>rfl
    | [_],_=>rfl
    | [_,_],_=>rfl
    | [_,_,_],_=>rfl
    | [_,_,_,_],_=>rfl
    | [_,_,_,_,_],p=>exact absurd rfl p
    | _::_::_::_::_::_::_,_=>rfl
   have u1:((ws.length:Int)==5)=false:=by simp only[beq_eq_false_iff_ne,ne_eq]; omega
   have u2:((ws.length:Int) != 5)=true:=by rw[bne,u1]; rfl
   replace E:=hid (E.out.trans e1);clear S e1 hcl p;go_upto_region 3 with fail;refine wp_region_lit ?_
   iterate 3 go_step
   refine Av rfl 26 (.tmp 2) (.tmp 18) rfl w.heap.size rfl Bp rfl Bp D.out (by simp) Ae rfl ?_;go_wp2;exact bodyPost_ret (v:=.tuple #[CH 0 0 0 none 0 0 none 0 0 0,.bool false]) (Ay rfl w.heap.size rfl Bp (D.out.all Bp (by simp)) (.bool false) rfl Tryz.underlying26 rfl Ae) rfl (BG E.out (Bj B.out (Nat.le_refl _) _ _))
 obtain⟨a,b,c,d,e,rfl⟩:∃ a b c d e,ws=[a,b,c,d,e]:=by
  match ws,p with
  | [a,b,c,d,e],_=>exact⟨a,b,c,d,e,rfl⟩
 have ha:=hcl a (by simp);have hb:=hcl b (by simp);have hc:=hcl c (by simp);have hd:=hcl d (by simp);have S5:Strs w1 A 5 [str a,str b,str c,str d,str e]:=S;clear p hcl S;obtain⟨sb,so,rfl,hsb,hcell⟩:=S5.2 (by omega);have s4:w1.cell? ⟨sb,so+4,none⟩=some (.string (str e)):=hcell 4 (by omega);replace S5:=hid S5;clear hcell;have el:(str e).toList=e:=by rw[ByteArray.toList_eq]
 by_cases q:e=[]
 rotate_left
 . have e1:ND [a,b,c,d,e]=none:=by rw[ND,if_neg q]
   have u1:¬ (str e).toList=[]:=by rw[el]; exact q
   have u2:(str e).toList.isEmpty=false:=by rw[el]; cases e<;>simp at q ⊢
   have u3:((str e).toList==[])=false:=by rw[el]; cases e<;>simp at q ⊢
   replace E:=hid (E.out.trans e1);clear S5 e1 q el;generalize str e=eb at *;go_upto_region 3 with fail;refine wp_region_lit ?_
   iterate 3 go_step
   refine Av rfl 26 (.tmp 2) (.tmp 18) rfl w.heap.size rfl Bp rfl Bp D.out (by simp) Ae rfl ?_;go_wp2;exact bodyPost_ret (v:=.tuple #[CH 0 0 0 none 0 0 none 0 0 0,.bool false]) (Ay rfl w.heap.size rfl Bp (D.out.all Bp (by simp)) (.bool false) rfl Tryz.underlying26 rfl Ae) rfl (BG E.out (Bj B.out (Nat.le_refl _) _ _))
 have u1:(str e).toList=[]:=by rw[el]; exact q
 have u2:(str e).toList.isEmpty=true:=by rw[u1]; rfl
 have C:∀ W,Strs W (some ⟨sb,so,none⟩) 5 [str a,str b,str c,str d,str e]->Calls Tryz.prog 36 #[.slice (some ⟨sb,so,none⟩) 5 ca] W (Ot W (Mt a b c d)):=fun W SS=>OT (some ⟨sb,so,none⟩) ca (str a) (str b) (str c) (str d) (str e) W SS (by rw[<- BV,Cz]; omega) (by rw[<- BV,Cz]; omega) (by rw[<- BV,Cz]; omega) (by rw[<- BV,Cz]; omega);have e1:ND [a,b,c,d,e]=Mt a b c d:=by rw[ND,if_pos q]
 replace E:=hid (E.out.trans e1);replace C:=hid C;clear e1 q el ha hb hc hd;generalize Mt a b c d=R at *;generalize heb:str e=eb at *;replace heb:=hid heb;go_wp2_with fail;refine(C.out _ S5.out).mono ?_;rintro e w2 ⟨l,p,s2,A2,n,c2,H,m,d2,t,xs,hs2,rfl,hR,⟨MA,MH⟩,I,J,BB⟩;have hw1:=D.out.lt;replace D:=hid (D.out.step BB);replace B:=hid (Aa B.out BB);clear BB s4 C S5 u1 u2;replace I:=hid I;replace J:=hid J;go_upto_region 5 with fail
 refine Aw (fun W'=>CellsAt W' w.heap.size Bp/\CellsAt W' w2.heap.size (AR l p s2 A2 n c2 H m d2 t)/\Inputs W' A2 n xs/\Ints W' H m hs2/\Below w.heap.size w W') ⟨D.out.alloc _,CellsAt.new _ _ _ _ rfl,I.out.alloc _,J.out.alloc _,Ab B.out _⟩ ?_;clear D B;generalize w2.heap.size=g at *;rintro w3 ⟨D,X,I3,J3,B⟩;replace D:=hid D;replace X:=hid X;replace B:=hid B;cases R with
 | none =>
  clear I I3 J J3;go_upto_region 6 with fail;refine wp_region_lit ?_
  iterate 3 go_step
  refine Av rfl 26 (.tmp 2) (.tmp 26) rfl w.heap.size rfl Bp rfl Bp D.out (by simp) Ae rfl ?_;go_wp2;exact bodyPost_ret (v:=.tuple #[CH 0 0 0 none 0 0 none 0 0 0,.bool false]) (Ay rfl w.heap.size rfl Bp (D.out.all Bp (by simp)) (.bool false) rfl Tryz.underlying26 rfl Ae) rfl (BG E.out (Bj B.out (Nat.le_refl _) _ _))
 | some r =>
  obtain rfl:=hR r rfl;have hA:0<n->∀ k off,A2=some ⟨k,off,none⟩->k≠w.heap.size:=fun hn k off e=>by have:=MA k off e; omega
  go_upto_region 7 with fail;refine wp_region_lit ?_;refine Ag rfl 26 (.tmp 5) rfl g rfl (AR l p s2 A2 n c2 H m d2 t) X.out Tryz.underlying26 rfl Ae ?_;refine Ah rfl 26 (.tmp 2) (.tmp 27) rfl w.heap.size rfl (AR l p s2 A2 n c2 H m d2 t) rfl Bp D.out (by simp) Ae rfl ?_;intro w4 K4 D4;have hB:=K4.below B.out.size (Nat.le_refl _);have I4:=I3.kept K4 hA;have J4:=Ints.keptX J3 K4 (fun hn k off e=>by have:=MH k off e; omega);go_wp2
  exact bodyPost_ret (v:=.tuple #[CH l p s2 A2 n c2 H m d2 t,.bool true]) (Ay rfl w.heap.size rfl (AR l p s2 A2 n c2 H m d2 t) D4 (.bool true) rfl Tryz.underlying26 rfl Ae) rfl ⟨A2,n,c2,H,m,d2,by rw[E.out]; rfl,⟨(fun k off e=>by have:=MA k off e; omega),(fun k off e=>by have:=MH k off e; omega)⟩,by rw[E.out]; exact I4,by rw[E.out]; exact J4,B.out.trans hB⟩
open Go.RowKit
open M
theorem DT(w:World)(m k:Nat):(w.drewN m).drewN k=w.drewN (m+k):=by simp[World.drewN,Nat.add_assoc]
theorem Fc(A D:Option Addr)(n c d:Nat)(xs:List Int)(w:World)(I:Ints w A n xs)(J:Ints w D n xs)(hn:n<=1048576) :
 Calls Tryz.prog 25 #[.slice A n c,.slice D n d] w fun e w'=>e=.returned (.bool true)/\Below w.heap.size w w':=by
 have I:=hid I;have J:=hid J;go_enter Tryz.func25,Tryz.ntmps25;go_wp2
 go_loopw [5] (fun i W=>∃ k m:Nat,k<=n/\i=.int .i64 k/\w.drewN m=W) (fun i _=>n-(RowKit.intOf i).toNat)
 case atStart=>exact⟨0,0,Nat.zero_le _,rfl,rfl⟩
 case round =>
  obtain⟨k,m,hk,rfl,rfl⟩:=hrel;by_cases hlt:k<n
  . obtain⟨b,off,hA,_,hc⟩:=I.out.2 (by omega);obtain⟨b2,off2,hD,_,hc2⟩:=J.out.2 (by omega);have ck:(w.drewN m).cell? ⟨b,off+k,none⟩=some (.int .i64 (xs.getD k 0)):=hc k hlt;have ck2:(w.drewN m).cell? ⟨b2,off2+k,none⟩=some (.int .i64 (xs.getD k 0)):=hc2 k hlt;clear hc hc2;subst hA hD;generalize xs.getD k 0=z at *;obtain⟨W,hW⟩:∃ W,w.drewN m=W:=⟨_,rfl⟩;rw[hW] at ck ck2 ⊢;have hW:=hid hW;go_wp2_with fail
    go_quiet (fail)
    go_wp2
    go_roundw
    case rel=>exact⟨k+1,m+_,by omega,by go_num,by rw[<- hW.out]; exact(DT w m _).symm⟩
    case measure=>simp[RowKit.intOf]; omega
  . go_wp2;go_ret;exact⟨rfl,AY (Ac w) m⟩
abbrev NU(s:St):Int:=ehI s.k s.ax s.ay s.fx s.fy s.u s.g s.d s.o
theorem Kn{w:World}{base:Nat}{v:Value}{n:Nat}{xs:List Int}(h:w.ownsRow base 3 1 v n (NX xs)):∃ A cap,v=.slice A n cap/\Ints w A n xs:=Ints.of_own h
def Lies(lo hi:Nat)(A:Option Addr):Prop:=∀ k off,A=some ⟨k,off,none⟩->lo<=k/\k<hi
theorem Lies.up{lo hi hi':Nat}{A:Option Addr}(h:Lies lo hi A)(k:hi<=hi'):Lies lo hi' A:=fun g off e=>⟨(h g off e).1,Nat.lt_of_lt_of_le (h g off e).2 k⟩
def M7(w:World)(L:Lv)(N:Nat)(F:Nat->Int)(ok:Bool)(ov nv:Value)(W:World):Prop :=
 ∃ i:Nat,i*5<=N/\(ok=false->i=0)/\nv=.int .i64 (5*(i+1):Nat)/\W.ownsRow (w.heap.size+1) 3 1 ov i (NX ((List.range i).map F))/\CellsAt W w.heap.size L.cs/\Below w.heap.size w W
def LP(w:World)(N:Nat)(F:Nat->Int)(ok:Bool)(e:Ending)(w':World):Prop:=∃ E m c,e=.returned (.slice E m c)/\((if ok then m=N / 5 else m=0)/\Ints w' E m ((List.range m).map F)/\Lies w.heap.size w'.heap.size E)/\Below w.heap.size w w'
theorem LQ(L:Lv)(D:Option Addr)(N cc:Nat)(xs:List In)(w:World)(F:Nat->Int)(ok:Bool)(hN:N<=1000)(I:Boxes w L.A L.n L.ws)(J:Boxes w L.G L.m L.gs)(Y:Inputs w D N xs)
 (hO:∀ W,Boxes W L.A L.n L.ws->Boxes W L.G L.m L.gs->Inputs W D N xs->Calls Tryz.prog 81 #[L.val,.slice D N cc] W fun e w'=>e=.returned (.bool ok)/\Below W.heap.size W w')
 (hT:ok=true->∀ W (j:Nat),j<=N->Boxes W L.A L.n L.ws->Boxes W L.G L.m L.gs->Inputs W D N xs->∃ s:St,Calls Tryz.prog 104 #[L.val,.slice D N cc,.int .i64 j] W (fun e w'=>e=.returned (sva s)/\Below W.heap.size W w')/\∀ t,j=5*(t+1)->∀ W,Calls Tryz.prog 105 #[sva s] W fun e w'=>e=.returned (.int .i64 (F t))/\Below W.heap.size W w') :
 Calls Tryz.prog 83 #[L.val,.slice D N cc] w (LP w N F ok):=by
 have P0:CellsAt (w.alloc (.cells #[.int .i64 L.i,.int .i64 L.t,.int .i64 L.x,.int .i64 L.y,.slice L.A L.n L.c,.slice L.G L.m L.kk,.int .i64 L.fp,.int .i64 L.fq,.int .i64 L.fs,.int .i64 L.fz,.int .i64 L.b] 62)) w.heap.size L.cs:=CellsAt.new w _ _ _ rfl;have P:=P0.alloc (.cells #[] 3);have H:=Ab (Ab (Ac w) (.cells #[.int .i64 L.i,.int .i64 L.t,.int .i64 L.x,.int .i64 L.y,.slice L.A L.n L.c,.slice L.G L.m L.kk,.int .i64 L.fp,.int .i64 L.fq,.int .i64 L.fs,.int .i64 L.fz,.int .i64 L.b] 62)) (.cells #[] 3)
 have O:((w.alloc (.cells #[.int .i64 L.i,.int .i64 L.t,.int .i64 L.x,.int .i64 L.y,.slice L.A L.n L.c,.slice L.G L.m L.kk,.int .i64 L.fp,.int .i64 L.fq,.int .i64 L.fs,.int .i64 L.fz,.int .i64 L.b] 62)).alloc (.cells #[] 3)).ownsRow (w.heap.size+1) 3 1 (.slice (some ⟨w.heap.size+1,0,none⟩) 0 0) 0 (NX ((List.range 0).map F)):=by
  have:=World.ownsRow_lit (base:=w.heap.size+1) (size:=1) (e:=3) (w.alloc (.cells #[.int .i64 L.i,.int .i64 L.t,.int .i64 L.x,.int .i64 L.y,.slice L.A L.n L.c,.slice L.G L.m L.kk,.int .i64 L.fp,.int .i64 L.fq,.int .i64 L.fs,.int .i64 L.fz,.int .i64 L.b] 62)) #[] 0 (by simp) (Nat.zero_le _) rfl;simpa using this
 have I:=hid I;have J:=hid J;have Y:=hid Y;have hO:=hid hO;have hT:=hid hT;go_enter Tryz.func83,Tryz.ntmps83;go_wp2
 go_loopw [5,6] (M7 w L N F ok) (fun _ i _=>N+5-(RowKit.intOf i).toNat)
 case atStart=>exact⟨0,by omega,fun _=>rfl,rfl,O,P,H⟩
 case round =>
  clear P0 P H O;obtain⟨i,hi,h0,rfl,O,P,H⟩:=hrel;obtain⟨E,c,rfl,IE⟩:=Kn O;have ME:Lies w.heap.size wr.heap.size E:=fun k off e=>by
   subst e;have:=O.lt k rfl;exact⟨by omega,this.2⟩
  have O:=hid O;have H:=hid H;have e5:((5*(i+1):Nat):Int)=5*((i:Int)+1):=by omega
  by_cases hlt:5*(i+1)<=N
  rotate_left
  . have hd:decide (5*(i+1)<=N)=false:=decide_eq_false hlt;have hd2:decide (((5*(i+1):Nat):Int)<=(N:Int))=false:=decide_eq_false (by omega);go_wp2;go_ret;refine⟨E,i,c,rfl,⟨?_,IE,ME⟩,H.out⟩;cases ok
    . exact h0 rfl
    . show i=N / 5
      omega
  have hd:decide (5*(i+1)<=N)=true:=decide_eq_true hlt;have hd2:decide (((5*(i+1):Nat):Int)<=(N:Int))=true:=decide_eq_true (by omega);have hd3:decide (5*((i:Int)+1)<=(N:Int))=true:=decide_eq_true (by omega);go_upto_region 3 with fail;refine wp_region_lit ?_
  iterate 15 go_step
  refine Dr (by simp[Region.wanted,yielded,Act.put]) 62 (.tmp 2) rfl w.heap.size rfl L.cs P Tryz.underlying62 rfl Am ?_;go_wp;refine(hO.out _ (I.out.step H.out) (J.out.step H.out) (Y.out.step H.out)).mono ?_;rintro e w1 ⟨rfl,B⟩;have hsz1:=B.size;replace IE:=IE.step B;replace O:=hid (As O.out B);replace P:=P.step B;replace H:=hid (Aa H.out B);clear B;dsimp only;cases ok
  . obtain rfl:=h0 rfl;have ME:=ME.up hsz1;go_wp2;go_ret;exact⟨E,0,c,rfl,⟨rfl,IE,ME⟩,H.out⟩
  . obtain⟨s,C1,C2⟩:=hT.out rfl w1 (5*(i+1)) hlt (I.out.step H.out) (J.out.step H.out) (Y.out.step H.out);have C2:=C2 i rfl;have C1:=hid C1;have C2:=hid C2;clear IE;go_upto_region 5 with fail;refine wp_region_lit ?_
    iterate 3 go_step
    refine Ag rfl 62 (.tmp 2) rfl w.heap.size rfl L.cs P Tryz.underlying62 rfl Am ?_;go_wp;refine C1.out.mono ?_;rintro e w2 ⟨rfl,B⟩;replace O:=hid (As O.out B);replace P:=P.step B;replace H:=hid (Aa H.out B);clear B C1;dsimp only;go_wp;refine(C2.out _).mono ?_;rintro e w3 ⟨rfl,B⟩;replace O:=hid (As O.out B);replace P:=P.step B;replace H:=hid (Aa H.out B);clear B C2;dsimp only
    iterate 4 go_step
    have B2:=Ab (Ac w3) (.cells #[.int .i64 (F i)] 3);have pl:=P.lt;refine AP _ rfl _ _ rfl (w.heap.size+1) (.slice E i c) i ((List.range i).map F) rfl (As O.out B2) (some ⟨w3.heap.size,0,none⟩) 1 1 [F i] rfl (Ints.one w3 _ _) (by omega) (by have:=B2.size; omega) ?_;intro v' w' O2 G hB;have P2:=(P.step B2).grown G (fun e=>by have:=((As O.out B2).lt _ e).1; omega);have H2:=(Aa H.out B2).grown G (Aa H.out B2).size (fun k e=>by have:=((As O.out B2).lt _ e).1; omega);rw[show(List.range i).map F++[F i]=(List.range (i+1)).map F by rw[List.range_succ,List.map_append]; rfl] at O2;clear O P H G hB B2
    have hw1:IntKind.i64.wrap (((5*(i+1):Nat):Int)+5)=((5*(i+1+1):Nat):Int):=by rw[IntWalk.i64_in _ (by omega)]; omega
    go_wp2
    go_roundw
    case rel=>exact⟨i+1,by omega,fun h=>(by cases h),by first | rfl | go_num,O2,P2,H2⟩
    case measure=>simp[RowKit.intOf]; omega
def rhs(L:Lv)(xs:List In)(N:Nat):List Int:=if FW L xs N (N:Int) then (List.range (N / 5)).map fun t=>NU (L.at xs (5*(t+1))) else []
theorem LR(L:Lv)(D:Option Addr)(N cc:Nat)(xs:List In)(w:World)(I:Boxes w L.A L.n L.ws)(J:Boxes w L.G L.m L.gs)(hn:L.n<=281474976710656)(hm:L.m<=281474976710656)(Y:Inputs w D N xs)(hN:N<=1000) :
 Calls Tryz.prog 83 #[L.val,.slice D N cc] w fun e w'=>(∃ E c,e=.returned (.slice E (rhs L xs N).length c)/\Ints w' E (rhs L xs N).length (rhs L xs N)/\Lies w.heap.size w'.heap.size E)/\Below w.heap.size w w':=by
 have hl:=Y.1;have ho:FW L xs N (N:Int)=decide (Jm L.i L.t L.x L.y L.ws L.gs L.fp L.fq L.fs L.fz L.b xs=-1):=by simp[FW]
 refine(LQ L D N cc xs w (fun t=>NU (L.at xs (5*(t+1)))) (FW L xs N (N:Int)) hN I J Y (fun W a b c=>by rw[ho]; exact E0 L D N cc xs W a b hn hm c (by omega)) (fun hok W j hj a b c=>?_)).mono ?_
 . have hk:=LO hok hj;have er:=KS hl hk;simp only[Int.toNat_natCast] at er;obtain⟨_,hlv,hlg⟩:=CP.1 hok;obtain⟨⟨hb,hx⟩,hy⟩:=Mv hlv;refine⟨L.at xs j,?_,fun t ht W=>?_⟩
   . have:=KR L.i L.t L.x L.y L.A L.n L.c L.G L.m L.kk L.fp L.fq L.fs L.fz L.b L.ws L.gs D N cc xs j W a b c hb hn hm hN hj (GF L.t L.b xs 0 0 0 (by omega) hlg).1 hx hy;rw[<- er.1] at this;exact this
   . subst ht;have ho:=(JE er.2.1).2.1;have:=IH (L.at xs (5*(t+1))).k (L.at xs (5*(t+1))).ax (L.at xs (5*(t+1))).ay (L.at xs (5*(t+1))).fx (L.at xs (5*(t+1))).fy (L.at xs (5*(t+1))).u (L.at xs (5*(t+1))).g (L.at xs (5*(t+1))).d (L.at xs (5*(t+1))).o W;unfold NU;rw[ehI,if_pos ho];exact this
 . rintro e w' ⟨E,m,c,rfl,⟨h2,h3,h4⟩,B⟩;refine⟨⟨E,c,?_⟩,B⟩;cases hok:FW L xs N (N:Int)
   . rw[hok] at h2;obtain rfl:m=0:=h2;have e:rhs L xs N=[]:=by rw[rhs,hok]; rfl
     rw[e];exact⟨rfl,h3,h4⟩
   . rw[hok] at h2;obtain rfl:m=N / 5:=h2;have e:rhs L xs N=(List.range (N / 5)).map fun t=>NU (L.at xs (5*(t+1))):=by rw[rhs,hok]; rfl
     rw[e];simp only[List.length_map,List.length_range];exact⟨trivial,h3,h4⟩
theorem M9{L:Lv}{xs:List In}{N:Nat}(hl:xs.length=N)(h:FW L xs N (N:Int)=true):(xs.all fun q=>Bm q.s q.p q.z)=true/\N<=60/\(0<=L.i/\L.i<=99):=by
 obtain⟨_,hlv,hlg⟩:=CP.1 h;obtain⟨h1,h2⟩:=GF L.t L.b xs 0 0 0 (by omega) hlg;have h':Cd L.i L.t L.x L.y L.ws L.gs L.fp L.fq L.fs L.fz L.b=true:=hlv;have ht:=Ev h';have hi:=((Dy ..).1 h').1;simp only[Ax,decide_eq_true_eq] at hi;refine⟨List.all_eq_true.2 h1,?_,hi⟩;rcases Nat.eq_zero_or_pos N with h0 | h0
 . omega
 . have:=h2 (N-1) (by omega);omega
end Go.Proofs.YtgbiagonfbnooaaGreatDoor
