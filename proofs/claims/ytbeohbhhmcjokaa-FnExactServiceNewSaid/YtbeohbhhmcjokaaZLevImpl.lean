import Derived.Test.YtbeohbhhmcjokaaZLevLink
import Derived.Deep.LoopGhost
set_option linter.all false
set_option maxRecDepth 100000
set_option maxHeartbeats 8000000
open Go.Lib
namespace Go.Proofs.Ytbeohbhhmcjokaa
open Go.RowKit
open M
def BV(i t b:Int):Bool:=Al i 0 99&&Al t 1 60&&Al b 0 3
def CH(bs:List Bx)(k:Nat):Bool:=decide (bs.length<=k)&&Br bs
theorem Bj(i t x y:Int)(ws gs:List Bx)(p q r s b:Int):AW i t x y ws gs p q r s b=(BV i t b&&Am x y&&CH ws 4&&CH gs 3&&Bh p q r s&&Ca ws x y):=by
 simp only[AW,BV,CH]
 ac_rfl
theorem DU{n lo hi:Int}(h:n<lo):Al n lo hi=false:=AZ (by omega)
theorem C0{n lo hi:Int}(h:hi<n):Al n lo hi=false:=AZ (by omega)
theorem AQ(i t x y:Int)(A:Option Addr)(n c:Nat)(G:Option Addr)(m k:Nat)(p q r s b:Int)(w:World):Calls Try.prog 92 #[E2 i t x y A n c G m k p q r s b] w fun e w'=>e=.returned (.bool (BV i t b))/\Below w.heap.size w w':=by
 by_cases i0:i<0
 . have di:decide ((0:Int)<=i)=false:=decide_eq_false (by omega);have E:=hid (show BV i t b=false by simp[BV,DU i0]);go_enter Try.func92,Try.ntmps92;go_wp2;go_ret;exact⟨Ad (by rw[E.out]),Ab (Ac w) _⟩
 have i0:0<=i:=by omega
 by_cases i1:99<i
 . have di:decide (i<=(99:Int))=false:=decide_eq_false (by omega);have E:=hid (show BV i t b=false by simp[BV,C0 i1]);go_enter Try.func92,Try.ntmps92;go_wp2;go_ret;exact⟨Ad (by rw[E.out]),Ab (Ac w) _⟩
 have i1:i<=99:=by omega
 by_cases t0:t<1
 . have dt:decide ((1:Int)<=t)=false:=decide_eq_false (by omega);have E:=hid (show BV i t b=false by simp[BV,DU t0]);go_enter Try.func92,Try.ntmps92;go_wp2;go_ret;exact⟨Ad (by rw[E.out]),Ab (Ac w) _⟩
 have t0:1<=t:=by omega
 by_cases t1:60<t
 . have dt:decide (t<=(60:Int))=false:=decide_eq_false (by omega);have E:=hid (show BV i t b=false by simp[BV,C0 t1]);go_enter Try.func92,Try.ntmps92;go_wp2;go_ret;exact⟨Ad (by rw[E.out]),Ab (Ac w) _⟩
 have t1:t<=60:=by omega
 by_cases b0:b<0
 . have db:decide ((0:Int)<=b)=false:=decide_eq_false (by omega);have E:=hid (show BV i t b=false by simp[BV,DU b0]);go_enter Try.func92,Try.ntmps92;go_wp2;go_ret;exact⟨Ad (by rw[E.out]),Ab (Ac w) _⟩
 have b0:0<=b:=by omega
 by_cases b1:3<b
 . have db:decide (b<=(3:Int))=false:=decide_eq_false (by omega);have E:=hid (show BV i t b=false by simp[BV,C0 b1]);go_enter Try.func92,Try.ntmps92;go_wp2;go_ret;exact⟨Ad (by rw[E.out]),Ab (Ac w) _⟩
 have b1:b<=3:=by omega
 have E:=hid (show BV i t b=true by simp[BV,Bc (n:=i) (lo:=0) (hi:=99) ⟨i0,i1⟩,Bc (n:=t) (lo:=1) (hi:=60) ⟨t0,t1⟩,Bc (n:=b) (lo:=0) (hi:=3) ⟨b0,b1⟩]);go_enter Try.func92,Try.ntmps92;go_wp2;go_ret;exact⟨Ad (by rw[E.out]),Ab (Ac w) _⟩
theorem Ao(A:Option Addr)(n cap:Nat)(bs:List Bx)(M:Nat)(w:World)(I:Boxes w A n bs)(hn:n<=281474976710656)(hM:M<=1000) :
 Calls Try.prog 94 #[.slice A n cap,.int .i64 (M:Int)] w fun e w'=>e=.returned (.bool (CH bs M))/\Below w.heap.size w w':=by
 have hl:=hid I.1;have I:=hid I;by_cases big:M<n
 . have E:=hid (show CH bs M=false by
    have:¬ bs.length<=M:=by have:=hl.out; omega
    simp[CH,this])
   have g1:(M:Int)<(n:Int):=by omega
   go_enter Try.func94,Try.ntmps94;go_wp2;go_ret;exact⟨Ad (by rw[E.out]),Ac w⟩
 have g1:(n:Int)<=(M:Int):=by omega
 have E0:=hid (show CH bs M=Br bs by
  have:bs.length<=M:=by have:=hl.out; omega
  simp[CH,this])
 go_enter Try.func94,Try.ntmps94;go_wp2
 go_loopw [6,13] (fun _ i W=>∃ k:Nat,k<=n/\i=.int .i64 k/\(bs.take k).all Bx.ok=true/\Below w.heap.size w W) (fun _ i _=>n-(RowKit.intOf i).toNat)
 case atStart=>exact⟨0,Nat.zero_le _,rfl,rfl,Ac w⟩
 case round =>
  obtain⟨k,hk,rfl,ha,B⟩:=hrel;have ha:=hid ha;by_cases hlt:k<n
  . obtain⟨b,off,rfl,hb,hcell⟩:=(I.out.step B).2 (by omega);obtain⟨c0,c1,c2,c3⟩:=hcell k hlt;have hkl:k<bs.length:=by have:=hl.out; omega
    have HS:=Co (f:=Bx.ok) hkl ha.out;have HN:=DY (f:=Bx.ok) hkl;have B:=hid B;clear hcell hkl;generalize bs.getD k bz=z at *;obtain⟨za,zb,zc,zd⟩:=z;simp only at c0 c1 c2 c3;cases hz:Bh za zb zc zd
    . have E:=hid (HN hz);clear HN HS;have C:=hid (fun W:World=>AE za zb zc zd W);rw[hz] at C;go_wp2_with fail;refine(C.out _).mono ?_;rintro e w' ⟨rfl,B1⟩;have H:=hid (Aa (Ab B.out _) B1);clear B1;go_wp2;go_ret;exact⟨Ad (by rw[E0.out]; unfold Br; rw[E.out]),H.out⟩
    . have E:=hid (HS hz);clear HN HS;have C:=hid (fun W:World=>AE za zb zc zd W);rw[hz] at C;go_wp2_with fail;refine(C.out _).mono ?_;rintro e w' ⟨rfl,B1⟩;have H:=hid (Aa (Ab B.out _) B1);clear B1;go_wp2
      go_roundw
      case rel=>exact⟨k+1,by omega,by go_num,E.out,H.out⟩
      case measure=>simp[RowKit.intOf]; omega
  . have E:=hid (C8 (f:=Bx.ok) (by have:=hl.out; omega) ha.out);have B:=hid B;go_wp2;go_ret;exact⟨Ad (by rw[E0.out]; unfold Br; rw[E.out]),B.out⟩
theorem Er{W:World}{g:Nat}{p q s t:Int}{v:Value}(h:CellsAt W g [.int .i64 p,.int .i64 q,.int .i64 s,.int .i64 t,v]):W.cell? ⟨g,0,none⟩=some (.int .i64 p)/\W.cell? ⟨g,1,none⟩=some (.int .i64 q)/\W.cell? ⟨g,2,none⟩=some (.int .i64 s)/\W.cell? ⟨g,3,none⟩=some (.int .i64 t):=⟨h.cell 0 _ rfl,h.cell 1 _ rfl,h.cell 2 _ rfl,h.cell 3 _ rfl⟩
def Gq(w:World)(lo:Nat)(bs:List Bx)(u v:Int)(k:Nat)(p:Value)(W:World):Prop :=
 ∃ qs:List Bx,qs.length=k/\Chain W lo qs p/\Br qs=true/\Ca bs u v=Ca qs u v/\PCell W w.heap.size u v/\Below w.heap.size w W
theorem C7(bs:List Bx)(p:Option Addr)(lo:Nat)(u v:Int)(w:World)(C:Chain w lo bs (.pointer p))(ok:Br bs=true)(u1:-2000000<=u)(u2:u<=2000000)(v1:-2000000<=v)(v2:v<=2000000) :
 Calls Try.prog 114 #[.pointer p,Ce u v] w fun e w'=>e=.returned (.bool (Ca bs u v))/\Below w.heap.size w w':=by
 have C:=hid C;have ok:=hid ok;go_enter Try.func114,Try.ntmps114;go_wp2
 go_loopg [0] bs.length (Gq w lo bs u v)
 case atStart=>exact⟨bs,rfl,C.out.alloc _,ok.out,rfl,PCell.new _ _ _ _ _ rfl,Ab (Ac w) _⟩
 case round =>
  clear C ok;obtain⟨qs,hq,T,okq,ef,P,B⟩:=hrel;have okq:=hid okq;have ef:=hid ef;have pl:=P.lt;have Hb:=hid B;clear B
  match qs,hq,T,okq,ef with
  | [],hq,T,okq,ef =>
   cases T
   have ef:=hid (ef.out.trans (show Ca [] u v=true from rfl));go_wp2;go_ret;exact⟨Ad (by rw[ef.out]),Hb.out⟩
  | q::qs,hq,T,okq,ef =>
   obtain⟨g,nx,rfl,hlo,N,T⟩:=T;obtain⟨za,zb,zc,zd⟩:=q;have hok:Bh za zb zc zd=true/\Br qs=true:=by
    have t:=okq.out;simp only[Br,List.all_cons,Bool.and_eq_true] at t;exact t
   have ok2:=hid hok.2;have K:=hid (fun W:World=>DO za zb zc zd u v 500 W hok.1 u1 u2 v1 v2 (by omega) (by omega));have T:=hid T;have gl:=N.lt;simp only at N;clear okq hok;cases hz:Gk za zb zc zd u v 500
   . have E:=hid (ef.out.trans (show Ca (⟨za,zb,zc,zd⟩::qs) u v=Ca qs u v by simp[Ca,Bx.hit,hz]));rw[hz] at K;clear ef;go_wp2_with fail
     go_region_held3 (fun w'=>(w'.cell? ⟨g,0,none⟩=some (.int .i64 za)/\w'.cell? ⟨g,1,none⟩=some (.int .i64 zb)/\w'.cell? ⟨g,2,none⟩=some (.int .i64 zc)/\w'.cell? ⟨g,3,none⟩=some (.int .i64 zd))/\(w'.cell? ⟨w.heap.size,0,none⟩=some (.int .i64 u)/\w'.cell? ⟨w.heap.size,1,none⟩=some (.int .i64 v)))
      (exact⟨Er (by repeat (first | with_reducible exact N | with_reducible refine CellsAt.far ?_ (by omega) _ _ | with_reducible refine CellsAt.alloc ?_ _ | with_reducible refine CellsAt.drew ?_)),Bz (by repeat (first | with_reducible exact P | with_reducible refine PCell.far ?_ (by omega) _ _ | with_reducible refine PCell.alloc ?_ _ | with_reducible refine PCell.drew ?_))⟩)
      ((go_at_call 121; (with_reducible refine(K.out _).mono ?_); rintro e wn ⟨rfl,Bn⟩; have N:=CellsAt.step (by first | with_reducible exact N | with_reducible exact N.drew) Bn; have P:=PCell.step (by first | with_reducible exact P | with_reducible exact P.drew) Bn; have T:=hid (Chain.step Bn (by first | with_reducible exact T.out | with_reducible exact T.out.drew)); have Hb:=hid (Aa (by first | with_reducible exact Hb.out | with_reducible exact Af Hb.out) Bn); clear Bn))
     all_goals
      have n4:=N.cell 4 _ rfl;go_wp2
      go_roundg qs.length
      case measure=>simp at hq; omega
      case rel=>exact⟨qs,rfl,T.out,ok2.out,E.out,P,Hb.out⟩
   . have E:=hid (ef.out.trans (show Ca (⟨za,zb,zc,zd⟩::qs) u v=false by simp[Ca,Bx.hit,hz]));rw[hz] at K;clear ef;go_wp2_with fail
     go_region_held3 (fun w'=>(w'.cell? ⟨g,0,none⟩=some (.int .i64 za)/\w'.cell? ⟨g,1,none⟩=some (.int .i64 zb)/\w'.cell? ⟨g,2,none⟩=some (.int .i64 zc)/\w'.cell? ⟨g,3,none⟩=some (.int .i64 zd))/\(w'.cell? ⟨w.heap.size,0,none⟩=some (.int .i64 u)/\w'.cell? ⟨w.heap.size,1,none⟩=some (.int .i64 v)))
      (exact⟨Er (by repeat (first | with_reducible exact N | with_reducible refine CellsAt.far ?_ (by omega) _ _ | with_reducible refine CellsAt.alloc ?_ _ | with_reducible refine CellsAt.drew ?_)),Bz (by repeat (first | with_reducible exact P | with_reducible refine PCell.far ?_ (by omega) _ _ | with_reducible refine PCell.alloc ?_ _ | with_reducible refine PCell.drew ?_))⟩)
      ((go_at_call 121; (with_reducible refine(K.out _).mono ?_); rintro e wn ⟨rfl,Bn⟩; have N:=CellsAt.step (by first | with_reducible exact N | with_reducible exact N.drew) Bn; have P:=PCell.step (by first | with_reducible exact P | with_reducible exact P.drew) Bn; have T:=hid (Chain.step Bn (by first | with_reducible exact T.out | with_reducible exact T.out.drew)); have Hb:=hid (Aa (by first | with_reducible exact Hb.out | with_reducible exact Af Hb.out) Bn); clear Bn))
     all_goals
      go_wp2;go_ret;exact⟨Ad (by rw[E.out]),Hb.out⟩
theorem Dp(i t x y:Int)(A:Option Addr)(n c:Nat)(G:Option Addr)(m k:Nat)(p q r s b:Int)(ws:List Bx)(u v:Int)(w:World)(I:Boxes w A n ws)(ok:Br ws=true)(u1:-2000000<=u)(u2:u<=2000000)(v1:-2000000<=v)(v2:v<=2000000)(hn:n<=281474976710656) :
 Calls Try.prog 96 #[E2 i t x y A n c G m k p q r s b,Ce u v] w fun e w'=>e=.returned (.bool (Ca ws u v))/\Below w.heap.size w w':=by
 have I:=hid I;have ok:=hid ok;have L:CellsAt ((w.alloc (.cells #[.int .i64 i,.int .i64 t,.int .i64 x,.int .i64 y,.slice A n c,.slice G m k,.int .i64 p,.int .i64 q,.int .i64 r,.int .i64 s,.int .i64 b] 58)).alloc (.cells #[.int .i64 u,.int .i64 v] 53)) w.heap.size (AV i t x y A n c G m k p q r s b):=(CellsAt.new w _ _ _ rfl).alloc _;have P:PCell ((w.alloc (.cells #[.int .i64 i,.int .i64 t,.int .i64 x,.int .i64 y,.slice A n c,.slice G m k,.int .i64 p,.int .i64 q,.int .i64 r,.int .i64 s,.int .i64 b] 58)).alloc (.cells #[.int .i64 u,.int .i64 v] 53)) (w.heap.size+1) u v:=PCell.new _ (w.heap.size+1) u v _ (by simp)
 have Hb:=hid (show Below w.heap.size w ((w.alloc (.cells #[.int .i64 i,.int .i64 t,.int .i64 x,.int .i64 y,.slice A n c,.slice G m k,.int .i64 p,.int .i64 q,.int .i64 r,.int .i64 s,.int .i64 b] 58)).alloc (.cells #[.int .i64 u,.int .i64 v] 53)) from Ab (Ab (Ac w) _) _);go_enter Try.func96,Try.ntmps96;go_upto_region 1 with fail
 go_region_held3 (fun w'=>(w'.cell? ⟨w.heap.size,4,none⟩=some (.slice A n c))/\(w'.cell? ⟨w.heap.size+1,0,none⟩=some (.int .i64 u)/\w'.cell? ⟨w.heap.size+1,1,none⟩=some (.int .i64 v)))
  (exact⟨Cp (by repeat (first | with_reducible exact L | with_reducible refine CellsAt.far ?_ (by omega) _ _ | with_reducible refine CellsAt.alloc ?_ _ | with_reducible refine CellsAt.drew ?_)),Bz (by repeat (first | with_reducible exact P | with_reducible refine PCell.far ?_ (by omega) _ _ | with_reducible refine PCell.alloc ?_ _ | with_reducible refine PCell.drew ?_))⟩)
  (first | (go_at_call 113; (with_reducible refine(Fv A n c ws _ (I.out.step (by first | with_reducible exact Hb.out | with_reducible exact Af Hb.out)) hn).mono ?_); rintro e wn ⟨pp,rfl,T,Bn⟩; have L:=CellsAt.step (by first | with_reducible exact L | with_reducible exact L.drew) Bn; have P:=PCell.step (by first | with_reducible exact P | with_reducible exact P.drew) Bn; have Hb:=hid (Aa (by first | with_reducible exact Hb.out | with_reducible exact Af Hb.out) Bn); clear Bn) | (go_at_call 114; (with_reducible refine(C7 ws pp _ u v _ (by first | with_reducible exact T | with_reducible exact T.drew) ok.out u1 u2 v1 v2).mono ?_); rintro e wn ⟨rfl,Bn⟩; have L:=CellsAt.step (by first | with_reducible exact L | with_reducible exact L.drew) Bn; have P:=PCell.step (by first | with_reducible exact P | with_reducible exact P.drew) Bn; have Hb:=hid (Aa (by first | with_reducible exact Hb.out | with_reducible exact Af Hb.out) Bn); clear Bn))
 all_goals
  go_wp2;go_ret;exact⟨rfl,Hb.out⟩
theorem Ft{bs:List Bx}{k:Nat}(h:CH bs k=true):Br bs=true:=by
 simp only[CH,Bool.and_eq_true] at h;exact h.2
theorem Dq(i t x y:Int)(A:Option Addr)(n c:Nat)(G:Option Addr)(m k:Nat)(p q r s b:Int)(ws gs:List Bx)(w:World)(I:Boxes w A n ws)(J:Boxes w G m gs)(hn:n<=281474976710656)(hm:m<=281474976710656) :
 Calls Try.prog 64 #[E2 i t x y A n c G m k p q r s b] w fun e w'=>e=.returned (.bool (AW i t x y ws gs p q r s b))/\Below w.heap.size w w':=by
 have hl1:=hid I.1;have hl2:=hid J.1;have I:=hid I;have J:=hid J;cases h1:BV i t b
 . have E:=hid (show AW i t x y ws gs p q r s b=false by simp[Bj,show BV i t b=false from h1]);have Kh1:=hid (fun(W:World)=>AQ i t x y A n c G m k p q r s b W);rw[h1] at Kh1;go_enter Try.func64,Try.ntmps64;go_wp2_with fail;refine(Kh1.out _).mono ?_;rintro e w1 ⟨rfl,B1⟩;have C1:=B1;clear B1;obtain⟨hc1,hf1⟩:=Ae C1;have H1:=hid (Aa (Ab (Ac w) _) C1);have l1:w.heap.size<w1.heap.size:=by have:=C1.size; simp at this; omega
   go_wp2;go_ret;exact⟨Ad (by rw[E.out]),H1.out⟩
 cases h2:Am x y
 . have E:=hid (show AW i t x y ws gs p q r s b=false by simp[Bj,show BV i t b=true from h1,show Am x y=false from h2]);have Kh1:=hid (fun(W:World)=>AQ i t x y A n c G m k p q r s b W);rw[h1] at Kh1;have Kh2:=hid (fun(W:World)=>Ap x y W);rw[h2] at Kh2;go_enter Try.func64,Try.ntmps64;go_wp2_with fail;refine(Kh1.out _).mono ?_;rintro e w1 ⟨rfl,B1⟩;have C1:=B1;clear B1;obtain⟨hc1,hf1⟩:=Ae C1;have H1:=hid (Aa (Ab (Ac w) _) C1);have l1:w.heap.size<w1.heap.size:=by have:=C1.size; simp at this; omega
   go_wp2_with fail;refine(Kh2.out _).mono ?_;rintro e w2 ⟨rfl,B2⟩;have C2:=Aa C1 B2;clear hc1 hf1 C1 B2 H1 l1;obtain⟨hc2,hf2⟩:=Ae C2;have H2:=hid (Aa (Ab (Ac w) _) C2);have l2:w.heap.size<w2.heap.size:=by have:=C2.size; simp at this; omega
   go_wp2;go_ret;exact⟨Ad (by rw[E.out]),H2.out⟩
 cases h3:CH ws 4
 . have E:=hid (show AW i t x y ws gs p q r s b=false by simp[Bj,show BV i t b=true from h1,show Am x y=true from h2,show CH ws 4=false from h3]);have Kh1:=hid (fun(W:World)=>AQ i t x y A n c G m k p q r s b W);rw[h1] at Kh1;have Kh2:=hid (fun(W:World)=>Ap x y W);rw[h2] at Kh2;have Kh3:=hid (fun(W:World) (Z:Boxes W A n ws)=>Ao A n c ws 4 W Z hn (by omega));rw[h3] at Kh3;go_enter Try.func64,Try.ntmps64;go_wp2_with fail;refine(Kh1.out _).mono ?_;rintro e w1 ⟨rfl,B1⟩;have C1:=B1;clear B1;obtain⟨hc1,hf1⟩:=Ae C1;have H1:=hid (Aa (Ab (Ac w) _) C1)
   have l1:w.heap.size<w1.heap.size:=by have:=C1.size; simp at this; omega
   go_wp2_with fail;refine(Kh2.out _).mono ?_;rintro e w2 ⟨rfl,B2⟩;have C2:=Aa C1 B2;clear hc1 hf1 C1 B2 H1 l1;obtain⟨hc2,hf2⟩:=Ae C2;have H2:=hid (Aa (Ab (Ac w) _) C2);have l2:w.heap.size<w2.heap.size:=by have:=C2.size; simp at this; omega
   go_wp2_with fail;refine(Kh3.out _ (I.out.step H2.out)).mono ?_;rintro e w3 ⟨rfl,B3⟩;have C3:=Aa C2 B3;clear hc2 hf2 C2 B3 H2 l2;obtain⟨hc3,hf3⟩:=Ae C3;have H3:=hid (Aa (Ab (Ac w) _) C3);have l3:w.heap.size<w3.heap.size:=by have:=C3.size; simp at this; omega
   go_wp2;go_ret;exact⟨Ad (by rw[E.out]),H3.out⟩
 cases h4:CH gs 3
 . have E:=hid (show AW i t x y ws gs p q r s b=false by simp[Bj,show BV i t b=true from h1,show Am x y=true from h2,show CH ws 4=true from h3,show CH gs 3=false from h4]);have Kh1:=hid (fun(W:World)=>AQ i t x y A n c G m k p q r s b W);rw[h1] at Kh1;have Kh2:=hid (fun(W:World)=>Ap x y W);rw[h2] at Kh2;have Kh3:=hid (fun(W:World) (Z:Boxes W A n ws)=>Ao A n c ws 4 W Z hn (by omega));rw[h3] at Kh3;have Kh4:=hid (fun(W:World) (Z:Boxes W G m gs)=>Ao G m k gs 3 W Z hm (by omega));rw[h4] at Kh4;go_enter Try.func64,Try.ntmps64;go_wp2_with fail;refine(Kh1.out _).mono ?_;rintro e w1 ⟨rfl,B1⟩;have C1:=B1
   clear B1;obtain⟨hc1,hf1⟩:=Ae C1;have H1:=hid (Aa (Ab (Ac w) _) C1);have l1:w.heap.size<w1.heap.size:=by have:=C1.size; simp at this; omega
   go_wp2_with fail;refine(Kh2.out _).mono ?_;rintro e w2 ⟨rfl,B2⟩;have C2:=Aa C1 B2;clear hc1 hf1 C1 B2 H1 l1;obtain⟨hc2,hf2⟩:=Ae C2;have H2:=hid (Aa (Ab (Ac w) _) C2);have l2:w.heap.size<w2.heap.size:=by have:=C2.size; simp at this; omega
   go_wp2_with fail;refine(Kh3.out _ (I.out.step H2.out)).mono ?_;rintro e w3 ⟨rfl,B3⟩;have C3:=Aa C2 B3;clear hc2 hf2 C2 B3 H2 l2;obtain⟨hc3,hf3⟩:=Ae C3;have H3:=hid (Aa (Ab (Ac w) _) C3);have l3:w.heap.size<w3.heap.size:=by have:=C3.size; simp at this; omega
   go_wp2_with fail;refine(Kh4.out _ (J.out.step H3.out)).mono ?_;rintro e w4 ⟨rfl,B4⟩;have C4:=Aa C3 B4;clear hc3 hf3 C3 B4 H3 l3;obtain⟨hc4,hf4⟩:=Ae C4;have H4:=hid (Aa (Ab (Ac w) _) C4);have l4:w.heap.size<w4.heap.size:=by have:=C4.size; simp at this; omega
   go_wp2;go_ret;exact⟨Ad (by rw[E.out]),H4.out⟩
 cases h5:Bh p q r s
 . have E:=hid (show AW i t x y ws gs p q r s b=false by simp[Bj,show BV i t b=true from h1,show Am x y=true from h2,show CH ws 4=true from h3,show CH gs 3=true from h4,show Bh p q r s=false from h5]);have Kh1:=hid (fun(W:World)=>AQ i t x y A n c G m k p q r s b W);rw[h1] at Kh1;have Kh2:=hid (fun(W:World)=>Ap x y W);rw[h2] at Kh2;have Kh3:=hid (fun(W:World) (Z:Boxes W A n ws)=>Ao A n c ws 4 W Z hn (by omega));rw[h3] at Kh3;have Kh4:=hid (fun(W:World) (Z:Boxes W G m gs)=>Ao G m k gs 3 W Z hm (by omega));rw[h4] at Kh4;have Kh5:=hid (fun(W:World)=>AE p q r s W);rw[h5] at Kh5
   go_enter Try.func64,Try.ntmps64;go_wp2_with fail;refine(Kh1.out _).mono ?_;rintro e w1 ⟨rfl,B1⟩;have C1:=B1;clear B1;obtain⟨hc1,hf1⟩:=Ae C1;have H1:=hid (Aa (Ab (Ac w) _) C1);have l1:w.heap.size<w1.heap.size:=by have:=C1.size; simp at this; omega
   go_wp2_with fail;refine(Kh2.out _).mono ?_;rintro e w2 ⟨rfl,B2⟩;have C2:=Aa C1 B2;clear hc1 hf1 C1 B2 H1 l1;obtain⟨hc2,hf2⟩:=Ae C2;have H2:=hid (Aa (Ab (Ac w) _) C2);have l2:w.heap.size<w2.heap.size:=by have:=C2.size; simp at this; omega
   go_wp2_with fail;refine(Kh3.out _ (I.out.step H2.out)).mono ?_;rintro e w3 ⟨rfl,B3⟩;have C3:=Aa C2 B3;clear hc2 hf2 C2 B3 H2 l2;obtain⟨hc3,hf3⟩:=Ae C3;have H3:=hid (Aa (Ab (Ac w) _) C3);have l3:w.heap.size<w3.heap.size:=by have:=C3.size; simp at this; omega
   go_wp2_with fail;refine(Kh4.out _ (J.out.step H3.out)).mono ?_;rintro e w4 ⟨rfl,B4⟩;have C4:=Aa C3 B4;clear hc3 hf3 C3 B4 H3 l3;obtain⟨hc4,hf4⟩:=Ae C4;have H4:=hid (Aa (Ab (Ac w) _) C4);have l4:w.heap.size<w4.heap.size:=by have:=C4.size; simp at this; omega
   go_wp2_with fail;refine(Kh5.out _).mono ?_;rintro e w5 ⟨rfl,B5⟩;have C5:=Aa C4 B5;clear hc4 hf4 C4 B5 H4 l4;obtain⟨hc5,hf5⟩:=Ae C5;have H5:=hid (Aa (Ab (Ac w) _) C5);have l5:w.heap.size<w5.heap.size:=by have:=C5.size; simp at this; omega
   go_wp2;go_ret;exact⟨Ad (by rw[E.out]),H5.out⟩
 cases h6:Ca ws x y
 . have E:=hid (show AW i t x y ws gs p q r s b=false by simp[Bj,show BV i t b=true from h1,show Am x y=true from h2,show CH ws 4=true from h3,show CH gs 3=true from h4,show Bh p q r s=true from h5,show Ca ws x y=false from h6]);have Kh1:=hid (fun(W:World)=>AQ i t x y A n c G m k p q r s b W);rw[h1] at Kh1;have Kh2:=hid (fun(W:World)=>Ap x y W);rw[h2] at Kh2;have Kh3:=hid (fun(W:World) (Z:Boxes W A n ws)=>Ao A n c ws 4 W Z hn (by omega));rw[h3] at Kh3;have Kh4:=hid (fun(W:World) (Z:Boxes W G m gs)=>Ao G m k gs 3 W Z hm (by omega));rw[h4] at Kh4
   have Kh5:=hid (fun(W:World)=>AE p q r s W);rw[h5] at Kh5;have Kh6:=hid (fun(W:World) (Z:Boxes W A n ws)=>Dp i t x y A n c G m k p q r s b ws x y W Z (Ft h3) (by have:=(AB x y).1 h2; omega) (by have:=(AB x y).1 h2; omega) (by have:=(AB x y).1 h2; omega) (by have:=(AB x y).1 h2; omega) hn);rw[h6] at Kh6;go_enter Try.func64,Try.ntmps64;go_wp2_with fail;refine(Kh1.out _).mono ?_;rintro e w1 ⟨rfl,B1⟩;have C1:=B1;clear B1;obtain⟨hc1,hf1⟩:=Ae C1;have H1:=hid (Aa (Ab (Ac w) _) C1);have l1:w.heap.size<w1.heap.size:=by have:=C1.size; simp at this; omega
   go_wp2_with fail;refine(Kh2.out _).mono ?_;rintro e w2 ⟨rfl,B2⟩;have C2:=Aa C1 B2;clear hc1 hf1 C1 B2 H1 l1;obtain⟨hc2,hf2⟩:=Ae C2;have H2:=hid (Aa (Ab (Ac w) _) C2);have l2:w.heap.size<w2.heap.size:=by have:=C2.size; simp at this; omega
   go_wp2_with fail;refine(Kh3.out _ (I.out.step H2.out)).mono ?_;rintro e w3 ⟨rfl,B3⟩;have C3:=Aa C2 B3;clear hc2 hf2 C2 B3 H2 l2;obtain⟨hc3,hf3⟩:=Ae C3;have H3:=hid (Aa (Ab (Ac w) _) C3);have l3:w.heap.size<w3.heap.size:=by have:=C3.size; simp at this; omega
   go_wp2_with fail;refine(Kh4.out _ (J.out.step H3.out)).mono ?_;rintro e w4 ⟨rfl,B4⟩;have C4:=Aa C3 B4;clear hc3 hf3 C3 B4 H3 l3;obtain⟨hc4,hf4⟩:=Ae C4;have H4:=hid (Aa (Ab (Ac w) _) C4);have l4:w.heap.size<w4.heap.size:=by have:=C4.size; simp at this; omega
   go_wp2_with fail;refine(Kh5.out _).mono ?_;rintro e w5 ⟨rfl,B5⟩;have C5:=Aa C4 B5;clear hc4 hf4 C4 B5 H4 l4;obtain⟨hc5,hf5⟩:=Ae C5;have H5:=hid (Aa (Ab (Ac w) _) C5);have l5:w.heap.size<w5.heap.size:=by have:=C5.size; simp at this; omega
   go_wp2_with fail;refine(Kh6.out _ (I.out.step H5.out)).mono ?_;rintro e w6 ⟨rfl,B6⟩;have C6:=Aa C5 B6;clear hc5 hf5 C5 B6 H5 l5;obtain⟨hc6,hf6⟩:=Ae C6;have H6:=hid (Aa (Ab (Ac w) _) C6);have l6:w.heap.size<w6.heap.size:=by have:=C6.size; simp at this; omega
   go_wp2;go_ret;exact⟨Ad (by rw[E.out]),H6.out⟩
 have E:=hid (show AW i t x y ws gs p q r s b=true by simp[Bj,show BV i t b=true from h1,show Am x y=true from h2,show CH ws 4=true from h3,show CH gs 3=true from h4,show Bh p q r s=true from h5,show Ca ws x y=true from h6]);have Kh1:=hid (fun(W:World)=>AQ i t x y A n c G m k p q r s b W);rw[h1] at Kh1;have Kh2:=hid (fun(W:World)=>Ap x y W);rw[h2] at Kh2;have Kh3:=hid (fun(W:World) (Z:Boxes W A n ws)=>Ao A n c ws 4 W Z hn (by omega));rw[h3] at Kh3;have Kh4:=hid (fun(W:World) (Z:Boxes W G m gs)=>Ao G m k gs 3 W Z hm (by omega));rw[h4] at Kh4
 have Kh5:=hid (fun(W:World)=>AE p q r s W);rw[h5] at Kh5;have Kh6:=hid (fun(W:World) (Z:Boxes W A n ws)=>Dp i t x y A n c G m k p q r s b ws x y W Z (Ft h3) (by have:=(AB x y).1 h2; omega) (by have:=(AB x y).1 h2; omega) (by have:=(AB x y).1 h2; omega) (by have:=(AB x y).1 h2; omega) hn);rw[h6] at Kh6;go_enter Try.func64,Try.ntmps64;go_wp2_with fail;refine(Kh1.out _).mono ?_;rintro e w1 ⟨rfl,B1⟩;have C1:=B1;clear B1;obtain⟨hc1,hf1⟩:=Ae C1;have H1:=hid (Aa (Ab (Ac w) _) C1);have l1:w.heap.size<w1.heap.size:=by have:=C1.size; simp at this; omega
 go_wp2_with fail;refine(Kh2.out _).mono ?_;rintro e w2 ⟨rfl,B2⟩;have C2:=Aa C1 B2;clear hc1 hf1 C1 B2 H1 l1;obtain⟨hc2,hf2⟩:=Ae C2;have H2:=hid (Aa (Ab (Ac w) _) C2);have l2:w.heap.size<w2.heap.size:=by have:=C2.size; simp at this; omega
 go_wp2_with fail;refine(Kh3.out _ (I.out.step H2.out)).mono ?_;rintro e w3 ⟨rfl,B3⟩;have C3:=Aa C2 B3;clear hc2 hf2 C2 B3 H2 l2;obtain⟨hc3,hf3⟩:=Ae C3;have H3:=hid (Aa (Ab (Ac w) _) C3);have l3:w.heap.size<w3.heap.size:=by have:=C3.size; simp at this; omega
 go_wp2_with fail;refine(Kh4.out _ (J.out.step H3.out)).mono ?_;rintro e w4 ⟨rfl,B4⟩;have C4:=Aa C3 B4;clear hc3 hf3 C3 B4 H3 l3;obtain⟨hc4,hf4⟩:=Ae C4;have H4:=hid (Aa (Ab (Ac w) _) C4);have l4:w.heap.size<w4.heap.size:=by have:=C4.size; simp at this; omega
 go_wp2_with fail;refine(Kh5.out _).mono ?_;rintro e w5 ⟨rfl,B5⟩;have C5:=Aa C4 B5;clear hc4 hf4 C4 B5 H4 l4;obtain⟨hc5,hf5⟩:=Ae C5;have H5:=hid (Aa (Ab (Ac w) _) C5);have l5:w.heap.size<w5.heap.size:=by have:=C5.size; simp at this; omega
 go_wp2_with fail;refine(Kh6.out _ (I.out.step H5.out)).mono ?_;rintro e w6 ⟨rfl,B6⟩;have C6:=Aa C5 B6;clear hc5 hf5 C5 B6 H5 l5;obtain⟨hc6,hf6⟩:=Ae C6;have H6:=hid (Aa (Ab (Ac w) _) C6);have l6:w.heap.size<w6.heap.size:=by have:=C6.size; simp at this; omega
 go_wp2;go_ret;exact⟨Ad (by rw[E.out]),H6.out⟩
end Go.Proofs.Ytbeohbhhmcjokaa
