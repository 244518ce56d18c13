import Derived.Test.YtaemcekcancpdaaGreatDoorZLevLink
import Derived.Deep.LoopGhost
set_option linter.all false
set_option maxRecDepth 100000
set_option maxHeartbeats 8000000
open Go.Lib
namespace Go.Proofs.YtaemcekcancpdaaGreatDoor
open Go.RowKit
open M
def Hh(i t b:Int):Bool:=Bc i 0 99&&Bc t 1 60&&Bc b 0 3
def I0(bs:List Bx)(k:Nat):Bool:=decide (bs.length<=k)&&Dh bs
theorem Fo(i t x y:Int)(ws gs:List Bx)(p q r s b:Int):Cr i t x y ws gs p q r s b=(Hh i t b&&Aw x y&&I0 ws 4&&I0 gs 3&&Dd p q r s&&Cw ws x y):=by
 simp only[Cr,Hh,I0]
 ac_rfl
theorem Gs{n lo hi:Int}(h:n<lo):Bc n lo hi=false:=CJ (by omega)
theorem EU{n lo hi:Int}(h:hi<n):Bc n lo hi=false:=CJ (by omega)
theorem Ec(i t x y:Int)(A:Option Addr)(n c:Nat)(G:Option Addr)(m k:Nat)(p q r s b:Int)(w:World):Calls Tryz.prog 44 #[CX i t x y A n c G m k p q r s b] w fun e w'=>e=.returned (.bool (Hh i t b))/\Below w.heap.size w w':=by
 by_cases i0:i<0
 . have di:decide ((0:Int)<=i)=false:=decide_eq_false (by omega);have E:=hid (show Hh i t b=false by simp[Hh,Gs i0]);go_enter Tryz.func44,Tryz.ntmps44;go_wp2;go_ret;exact⟨Aq (by rw[E.out]),Aa (Ac w) _⟩
 have i0:0<=i:=by omega
 by_cases i1:99<i
 . have di:decide (i<=(99:Int))=false:=decide_eq_false (by omega);have E:=hid (show Hh i t b=false by simp[Hh,EU i1]);go_enter Tryz.func44,Tryz.ntmps44;go_wp2;go_ret;exact⟨Aq (by rw[E.out]),Aa (Ac w) _⟩
 have i1:i<=99:=by omega
 by_cases t0:t<1
 . have dt:decide ((1:Int)<=t)=false:=decide_eq_false (by omega);have E:=hid (show Hh i t b=false by simp[Hh,Gs t0]);go_enter Tryz.func44,Tryz.ntmps44;go_wp2;go_ret;exact⟨Aq (by rw[E.out]),Aa (Ac w) _⟩
 have t0:1<=t:=by omega
 by_cases t1:60<t
 . have dt:decide (t<=(60:Int))=false:=decide_eq_false (by omega);have E:=hid (show Hh i t b=false by simp[Hh,EU t1]);go_enter Tryz.func44,Tryz.ntmps44;go_wp2;go_ret;exact⟨Aq (by rw[E.out]),Aa (Ac w) _⟩
 have t1:t<=60:=by omega
 by_cases b0:b<0
 . have db:decide ((0:Int)<=b)=false:=decide_eq_false (by omega);have E:=hid (show Hh i t b=false by simp[Hh,Gs b0]);go_enter Tryz.func44,Tryz.ntmps44;go_wp2;go_ret;exact⟨Aq (by rw[E.out]),Aa (Ac w) _⟩
 have b0:0<=b:=by omega
 by_cases b1:3<b
 . have db:decide (b<=(3:Int))=false:=decide_eq_false (by omega);have E:=hid (show Hh i t b=false by simp[Hh,EU b1]);go_enter Tryz.func44,Tryz.ntmps44;go_wp2;go_ret;exact⟨Aq (by rw[E.out]),Aa (Ac w) _⟩
 have b1:b<=3:=by omega
 have E:=hid (show Hh i t b=true by simp[Hh,BR (n:=i) (lo:=0) (hi:=99) ⟨i0,i1⟩,BR (n:=t) (lo:=1) (hi:=60) ⟨t0,t1⟩,BR (n:=b) (lo:=0) (hi:=3) ⟨b0,b1⟩]);go_enter Tryz.func44,Tryz.ntmps44;go_wp2;go_ret;exact⟨Aq (by rw[E.out]),Aa (Ac w) _⟩
theorem BP(A:Option Addr)(n cap:Nat)(bs:List Bx)(M:Nat)(w:World)(I:Boxes w A n bs)(hn:n<=281474976710656)(hM:M<=1000) :
 Calls Tryz.prog 45 #[.slice A n cap,.int .i64 (M:Int)] w fun e w'=>e=.returned (.bool (I0 bs M))/\Below w.heap.size w w':=by
 have hl:=hid I.1;have I:=hid I;by_cases big:M<n
 . have E:=hid (show I0 bs M=false by
    have:¬ bs.length<=M:=by have:=hl.out; omega
    simp[I0,this])
   have g1:(M:Int)<(n:Int):=by omega
   go_enter Tryz.func45,Tryz.ntmps45;go_wp2;go_ret;exact⟨Aq (by rw[E.out]),Ac w⟩
 have g1:(n:Int)<=(M:Int):=by omega
 have E0:=hid (show I0 bs M=Dh bs by
  have:bs.length<=M:=by have:=hl.out; omega
  simp[I0,this])
 go_enter Tryz.func45,Tryz.ntmps45;go_wp2
 go_loopw [6,13] (fun _ i W=>∃ k:Nat,k<=n/\i=.int .i64 k/\(bs.take k).all Bx.ok=true/\Below w.heap.size w W) (fun _ i _=>n-(intOf i).toNat)
 case atStart=>exact⟨0,Nat.zero_le _,rfl,rfl,Ac w⟩
 case round =>
  obtain⟨k,hk,rfl,ha,B⟩:=hrel;have ha:=hid ha;by_cases hlt:k<n
  . obtain⟨b,off,rfl,hb,hcell⟩:=(I.out.step B).2 (by omega);obtain⟨c0,c1,c2,c3⟩:=hcell k hlt;have hkl:k<bs.length:=by have:=hl.out; omega
    have HS:=FN (f:=Bx.ok) hkl ha.out;have HN:=JR (f:=Bx.ok) hkl;have B:=hid B;clear hcell hkl;generalize bs.getD k bz=z at *;obtain⟨za,zb,zc,zd⟩:=z;simp only at c0 c1 c2 c3;cases hz:Dd za zb zc zd
    . have E:=hid (HN hz);clear HN HS;have C:=hid (fun W:World=>Cg za zb zc zd W);rw[hz] at C;go_wp2_with fail;refine(C.out _).mono ?_;rintro e w' ⟨rfl,B1⟩;have H:=hid (Ab (Aa B.out _) B1);clear B1;go_wp2;go_ret;exact⟨Aq (by rw[E0.out]; unfold Dh; rw[E.out]),H.out⟩
    . have E:=hid (HS hz);clear HN HS;have C:=hid (fun W:World=>Cg za zb zc zd W);rw[hz] at C;go_wp2_with fail;refine(C.out _).mono ?_;rintro e w' ⟨rfl,B1⟩;have H:=hid (Ab (Aa B.out _) B1);clear B1;go_wp2
      go_roundw
      case rel=>exact⟨k+1,by omega,by go_num,E.out,H.out⟩
      case measure=>simp[intOf]; omega
  . have E:=hid (Ho (f:=Bx.ok) (by have:=hl.out; omega) ha.out);have B:=hid B;go_wp2;go_ret;exact⟨Aq (by rw[E0.out]; unfold Dh; rw[E.out]),B.out⟩
theorem M3{W:World}{g:Nat}{p q s t:Int}{v:Value}(h:CellsAt W g [.int .i64 p,.int .i64 q,.int .i64 s,.int .i64 t,v]):W.cell? ⟨g,0,none⟩=some (.int .i64 p)/\W.cell? ⟨g,1,none⟩=some (.int .i64 q)/\W.cell? ⟨g,2,none⟩=some (.int .i64 s)/\W.cell? ⟨g,3,none⟩=some (.int .i64 t):=⟨h.cell 0 _ rfl,h.cell 1 _ rfl,h.cell 2 _ rfl,h.cell 3 _ rfl⟩
def Rt(w:World)(lo:Nat)(bs:List Bx)(u v:Int)(k:Nat)(p:Value)(W:World):Prop :=
 ∃ qs:List Bx,qs.length=k/\Chain W lo qs p/\Dh qs=true/\Cw bs u v=Cw qs u v/\PCell W w.heap.size u v/\Below w.heap.size w W
theorem Ed(bs:List Bx)(p:Option Addr)(lo:Nat)(u v:Int)(w:World)(C:Chain w lo bs (.pointer p))(ok:Dh bs=true)(u1:-2000000<=u)(u2:u<=2000000)(v1:-2000000<=v)(v2:v<=2000000) :
 Calls Tryz.prog 49 #[.pointer p,Bs u v] w fun e w'=>e=.returned (.bool (Cw bs u v))/\Below w.heap.size w w':=by
 have C:=hid C;have ok:=hid ok;go_enter Tryz.func49,Tryz.ntmps49;go_wp2
 go_loopg [0] bs.length (Rt w lo bs u v)
 case atStart=>exact⟨bs,rfl,C.out.alloc _,ok.out,rfl,PCell.new _ _ _ _ _ rfl,Aa (Ac w) _⟩
 case round =>
  clear C ok;obtain⟨qs,hq,T,okq,ef,P,B⟩:=hrel;have okq:=hid okq;have ef:=hid ef;have pl:=P.lt;have Hb:=hid B;clear B
  match qs,hq,T,okq,ef with
  | [],hq,T,okq,ef =>
   cases T
   have ef:=hid (ef.out.trans (show Cw [] u v=true from rfl));go_wp2;go_ret;exact⟨Aq (by rw[ef.out]),Hb.out⟩
  | q::qs,hq,T,okq,ef =>
   obtain⟨g,nx,rfl,hlo,N,T⟩:=T;obtain⟨za,zb,zc,zd⟩:=q;have hok:Dd za zb zc zd=true/\Dh qs=true:=by
    have t:=okq.out;simp only[Dh,List.all_cons,Bool.and_eq_true] at t;exact t
   have ok2:=hid hok.2;have K:=hid (fun W:World=>LR za zb zc zd u v 500 W hok.1 u1 u2 v1 v2 (by omega) (by omega));have T:=hid T;have gl:=N.lt;simp only at N;clear okq hok;cases hz:NL za zb zc zd u v 500
   . have E:=hid (ef.out.trans (show Cw (⟨za,zb,zc,zd⟩::qs) u v=Cw qs u v by simp[Cw,Bx.hit,hz]));rw[hz] at K;clear ef;go_wp2_with fail
     go_region_held3 (fun w'=>(w'.cell? ⟨g,0,none⟩=some (.int .i64 za)/\w'.cell? ⟨g,1,none⟩=some (.int .i64 zb)/\w'.cell? ⟨g,2,none⟩=some (.int .i64 zc)/\w'.cell? ⟨g,3,none⟩=some (.int .i64 zd))/\(w'.cell? ⟨w.heap.size,0,none⟩=some (.int .i64 u)/\w'.cell? ⟨w.heap.size,1,none⟩=some (.int .i64 v)))
      (exact⟨M3 (by repeat (first | with_reducible exact N | with_reducible refine CellsAt.far ?_ (by omega) _ _ | with_reducible refine CellsAt.alloc ?_ _ | with_reducible refine CellsAt.drew ?_)),Ee (by repeat (first | with_reducible exact P | with_reducible refine PCell.far ?_ (by omega) _ _ | with_reducible refine PCell.alloc ?_ _ | with_reducible refine PCell.drew ?_))⟩)
      ((go_at_call 65; (with_reducible refine(K.out _).mono ?_); rintro e wn ⟨rfl,Bn⟩; have N:=CellsAt.step (by first | with_reducible exact N | with_reducible exact N.drew) Bn; have P:=PCell.step (by first | with_reducible exact P | with_reducible exact P.drew) Bn; have T:=hid (Chain.step Bn (by first | with_reducible exact T.out | with_reducible exact T.out.drew)); have Hb:=hid (Ab (by first | with_reducible exact Hb.out | with_reducible exact AE Hb.out) Bn); clear Bn))
     all_goals
      have n4:=N.cell 4 _ rfl;go_wp2
      go_roundg qs.length
      case measure=>simp at hq; omega
      case rel=>exact⟨qs,rfl,T.out,ok2.out,E.out,P,Hb.out⟩
   . have E:=hid (ef.out.trans (show Cw (⟨za,zb,zc,zd⟩::qs) u v=false by simp[Cw,Bx.hit,hz]));rw[hz] at K;clear ef;go_wp2_with fail
     go_region_held3 (fun w'=>(w'.cell? ⟨g,0,none⟩=some (.int .i64 za)/\w'.cell? ⟨g,1,none⟩=some (.int .i64 zb)/\w'.cell? ⟨g,2,none⟩=some (.int .i64 zc)/\w'.cell? ⟨g,3,none⟩=some (.int .i64 zd))/\(w'.cell? ⟨w.heap.size,0,none⟩=some (.int .i64 u)/\w'.cell? ⟨w.heap.size,1,none⟩=some (.int .i64 v)))
      (exact⟨M3 (by repeat (first | with_reducible exact N | with_reducible refine CellsAt.far ?_ (by omega) _ _ | with_reducible refine CellsAt.alloc ?_ _ | with_reducible refine CellsAt.drew ?_)),Ee (by repeat (first | with_reducible exact P | with_reducible refine PCell.far ?_ (by omega) _ _ | with_reducible refine PCell.alloc ?_ _ | with_reducible refine PCell.drew ?_))⟩)
      ((go_at_call 65; (with_reducible refine(K.out _).mono ?_); rintro e wn ⟨rfl,Bn⟩; have N:=CellsAt.step (by first | with_reducible exact N | with_reducible exact N.drew) Bn; have P:=PCell.step (by first | with_reducible exact P | with_reducible exact P.drew) Bn; have T:=hid (Chain.step Bn (by first | with_reducible exact T.out | with_reducible exact T.out.drew)); have Hb:=hid (Ab (by first | with_reducible exact Hb.out | with_reducible exact AE Hb.out) Bn); clear Bn))
     all_goals
      go_wp2;go_ret;exact⟨Aq (by rw[E.out]),Hb.out⟩
theorem FM(i t x y:Int)(A:Option Addr)(n c:Nat)(G:Option Addr)(m k:Nat)(p q r s b:Int)(ws:List Bx)(u v:Int)(w:World)(I:Boxes w A n ws)(ok:Dh ws=true)(u1:-2000000<=u)(u2:u<=2000000)(v1:-2000000<=v)(v2:v<=2000000)(hn:n<=281474976710656) :
 Calls Tryz.prog 32 #[CX i t x y A n c G m k p q r s b,Bs u v] w fun e w'=>e=.returned (.bool (Cw ws u v))/\Below w.heap.size w w':=by
 have I:=hid I;have ok:=hid ok;have L:CellsAt ((w.alloc (.cells #[.int .i64 i,.int .i64 t,.int .i64 x,.int .i64 y,.slice A n c,.slice G m k,.int .i64 p,.int .i64 q,.int .i64 r,.int .i64 s,.int .i64 b] 29)).alloc (.cells #[.int .i64 u,.int .i64 v] 24)) w.heap.size (AX i t x y A n c G m k p q r s b):=(CellsAt.new w _ _ _ rfl).alloc _;have P:PCell ((w.alloc (.cells #[.int .i64 i,.int .i64 t,.int .i64 x,.int .i64 y,.slice A n c,.slice G m k,.int .i64 p,.int .i64 q,.int .i64 r,.int .i64 s,.int .i64 b] 29)).alloc (.cells #[.int .i64 u,.int .i64 v] 24)) (w.heap.size+1) u v:=PCell.new _ (w.heap.size+1) u v _ (by simp)
 have Hb:=hid (show Below w.heap.size w ((w.alloc (.cells #[.int .i64 i,.int .i64 t,.int .i64 x,.int .i64 y,.slice A n c,.slice G m k,.int .i64 p,.int .i64 q,.int .i64 r,.int .i64 s,.int .i64 b] 29)).alloc (.cells #[.int .i64 u,.int .i64 v] 24)) from Aa (Aa (Ac w) _) _);go_enter Tryz.func32,Tryz.ntmps32;go_upto_region 1 with fail
 go_region_held3 (fun w'=>(w'.cell? ⟨w.heap.size,4,none⟩=some (.slice A n c))/\(w'.cell? ⟨w.heap.size+1,0,none⟩=some (.int .i64 u)/\w'.cell? ⟨w.heap.size+1,1,none⟩=some (.int .i64 v)))
  (exact⟨Es (by repeat (first | with_reducible exact L | with_reducible refine CellsAt.far ?_ (by omega) _ _ | with_reducible refine CellsAt.alloc ?_ _ | with_reducible refine CellsAt.drew ?_)),Ee (by repeat (first | with_reducible exact P | with_reducible refine PCell.far ?_ (by omega) _ _ | with_reducible refine PCell.alloc ?_ _ | with_reducible refine PCell.drew ?_))⟩)
  (first | (go_at_call 48; (with_reducible refine(Dg A n c ws _ (I.out.step (by first | with_reducible exact Hb.out | with_reducible exact AE Hb.out)) hn).mono ?_); rintro e wn ⟨pp,rfl,T,Bn⟩; have L:=CellsAt.step (by first | with_reducible exact L | with_reducible exact L.drew) Bn; have P:=PCell.step (by first | with_reducible exact P | with_reducible exact P.drew) Bn; have Hb:=hid (Ab (by first | with_reducible exact Hb.out | with_reducible exact AE Hb.out) Bn); clear Bn) | (go_at_call 49; (with_reducible refine(Ed ws pp _ u v _ (by first | with_reducible exact T | with_reducible exact T.drew) ok.out u1 u2 v1 v2).mono ?_); rintro e wn ⟨rfl,Bn⟩; have L:=CellsAt.step (by first | with_reducible exact L | with_reducible exact L.drew) Bn; have P:=PCell.step (by first | with_reducible exact P | with_reducible exact P.drew) Bn; have Hb:=hid (Ab (by first | with_reducible exact Hb.out | with_reducible exact AE Hb.out) Bn); clear Bn))
 all_goals
  go_wp2;go_ret;exact⟨rfl,Hb.out⟩
theorem Py{bs:List Bx}{k:Nat}(h:I0 bs k=true):Dh bs=true:=by
 simp only[I0,Bool.and_eq_true] at h;exact h.2
theorem Ch(i t x y:Int)(A:Option Addr)(n c:Nat)(G:Option Addr)(m k:Nat)(p q r s b:Int)(ws gs:List Bx)(w:World)(I:Boxes w A n ws)(J:Boxes w G m gs)(hn:n<=281474976710656)(hm:m<=281474976710656) :
 Calls Tryz.prog 29 #[CX i t x y A n c G m k p q r s b] w fun e w'=>e=.returned (.bool (Cr i t x y ws gs p q r s b))/\Below w.heap.size w w':=by
 have hl1:=hid I.1;have hl2:=hid J.1;have I:=hid I;have J:=hid J;cases h1:Hh i t b
 . have E:=hid (show Cr i t x y ws gs p q r s b=false by simp[Fo,show Hh i t b=false from h1]);have Kh1:=hid (fun(W:World)=>Ec i t x y A n c G m k p q r s b W);rw[h1] at Kh1;go_enter Tryz.func29,Tryz.ntmps29;go_wp2_with fail;refine(Kh1.out _).mono ?_;rintro e w1 ⟨rfl,B1⟩;have C1:=B1;clear B1;obtain⟨hc1,hf1⟩:=AC C1;have H1:=hid (Ab (Aa (Ac w) _) C1);have l1:w.heap.size<w1.heap.size:=by have:=C1.size; simp at this; omega
   go_wp2;go_ret;exact⟨Aq (by rw[E.out]),H1.out⟩
 cases h2:Aw x y
 . have E:=hid (show Cr i t x y ws gs p q r s b=false by simp[Fo,show Hh i t b=true from h1,show Aw x y=false from h2]);have Kh1:=hid (fun(W:World)=>Ec i t x y A n c G m k p q r s b W);rw[h1] at Kh1;have Kh2:=hid (fun(W:World)=>A3 x y W);rw[h2] at Kh2;go_enter Tryz.func29,Tryz.ntmps29;go_wp2_with fail;refine(Kh1.out _).mono ?_;rintro e w1 ⟨rfl,B1⟩;have C1:=B1;clear B1;obtain⟨hc1,hf1⟩:=AC C1;have H1:=hid (Ab (Aa (Ac w) _) C1);have l1:w.heap.size<w1.heap.size:=by have:=C1.size; simp at this; omega
   go_wp2_with fail;refine(Kh2.out _).mono ?_;rintro e w2 ⟨rfl,B2⟩;have C2:=Ab C1 B2;clear hc1 hf1 C1 B2 H1 l1;obtain⟨hc2,hf2⟩:=AC C2;have H2:=hid (Ab (Aa (Ac w) _) C2);have l2:w.heap.size<w2.heap.size:=by have:=C2.size; simp at this; omega
   go_wp2;go_ret;exact⟨Aq (by rw[E.out]),H2.out⟩
 cases h3:I0 ws 4
 . have E:=hid (show Cr i t x y ws gs p q r s b=false by simp[Fo,show Hh i t b=true from h1,show Aw x y=true from h2,show I0 ws 4=false from h3]);have Kh1:=hid (fun(W:World)=>Ec i t x y A n c G m k p q r s b W);rw[h1] at Kh1;have Kh2:=hid (fun(W:World)=>A3 x y W);rw[h2] at Kh2;have Kh3:=hid (fun(W:World) (Z:Boxes W A n ws)=>BP A n c ws 4 W Z hn (by omega));rw[h3] at Kh3;go_enter Tryz.func29,Tryz.ntmps29;go_wp2_with fail;refine(Kh1.out _).mono ?_;rintro e w1 ⟨rfl,B1⟩;have C1:=B1;clear B1;obtain⟨hc1,hf1⟩:=AC C1;have H1:=hid (Ab (Aa (Ac w) _) C1)
   have l1:w.heap.size<w1.heap.size:=by have:=C1.size; simp at this; omega
   go_wp2_with fail;refine(Kh2.out _).mono ?_;rintro e w2 ⟨rfl,B2⟩;have C2:=Ab C1 B2;clear hc1 hf1 C1 B2 H1 l1;obtain⟨hc2,hf2⟩:=AC C2;have H2:=hid (Ab (Aa (Ac w) _) C2);have l2:w.heap.size<w2.heap.size:=by have:=C2.size; simp at this; omega
   go_wp2_with fail;refine(Kh3.out _ (I.out.step H2.out)).mono ?_;rintro e w3 ⟨rfl,B3⟩;have C3:=Ab C2 B3;clear hc2 hf2 C2 B3 H2 l2;obtain⟨hc3,hf3⟩:=AC C3;have H3:=hid (Ab (Aa (Ac w) _) C3);have l3:w.heap.size<w3.heap.size:=by have:=C3.size; simp at this; omega
   go_wp2;go_ret;exact⟨Aq (by rw[E.out]),H3.out⟩
 cases h4:I0 gs 3
 . have E:=hid (show Cr i t x y ws gs p q r s b=false by simp[Fo,show Hh i t b=true from h1,show Aw x y=true from h2,show I0 ws 4=true from h3,show I0 gs 3=false from h4]);have Kh1:=hid (fun(W:World)=>Ec i t x y A n c G m k p q r s b W);rw[h1] at Kh1;have Kh2:=hid (fun(W:World)=>A3 x y W);rw[h2] at Kh2;have Kh3:=hid (fun(W:World) (Z:Boxes W A n ws)=>BP A n c ws 4 W Z hn (by omega));rw[h3] at Kh3;have Kh4:=hid (fun(W:World) (Z:Boxes W G m gs)=>BP G m k gs 3 W Z hm (by omega));rw[h4] at Kh4;go_enter Tryz.func29,Tryz.ntmps29;go_wp2_with fail;refine(Kh1.out _).mono ?_;rintro e w1 ⟨rfl,B1⟩
   have C1:=B1;clear B1;obtain⟨hc1,hf1⟩:=AC C1;have H1:=hid (Ab (Aa (Ac w) _) C1);have l1:w.heap.size<w1.heap.size:=by have:=C1.size; simp at this; omega
   go_wp2_with fail;refine(Kh2.out _).mono ?_;rintro e w2 ⟨rfl,B2⟩;have C2:=Ab C1 B2;clear hc1 hf1 C1 B2 H1 l1;obtain⟨hc2,hf2⟩:=AC C2;have H2:=hid (Ab (Aa (Ac w) _) C2);have l2:w.heap.size<w2.heap.size:=by have:=C2.size; simp at this; omega
   go_wp2_with fail;refine(Kh3.out _ (I.out.step H2.out)).mono ?_;rintro e w3 ⟨rfl,B3⟩;have C3:=Ab C2 B3;clear hc2 hf2 C2 B3 H2 l2;obtain⟨hc3,hf3⟩:=AC C3;have H3:=hid (Ab (Aa (Ac w) _) C3);have l3:w.heap.size<w3.heap.size:=by have:=C3.size; simp at this; omega
   go_wp2_with fail;refine(Kh4.out _ (J.out.step H3.out)).mono ?_;rintro e w4 ⟨rfl,B4⟩;have C4:=Ab C3 B4;clear hc3 hf3 C3 B4 H3 l3;obtain⟨hc4,hf4⟩:=AC C4;have H4:=hid (Ab (Aa (Ac w) _) C4);have l4:w.heap.size<w4.heap.size:=by have:=C4.size; simp at this; omega
   go_wp2;go_ret;exact⟨Aq (by rw[E.out]),H4.out⟩
 cases h5:Dd p q r s
 . have E:=hid (show Cr i t x y ws gs p q r s b=false by simp[Fo,show Hh i t b=true from h1,show Aw x y=true from h2,show I0 ws 4=true from h3,show I0 gs 3=true from h4,show Dd p q r s=false from h5]);have Kh1:=hid (fun(W:World)=>Ec i t x y A n c G m k p q r s b W);rw[h1] at Kh1;have Kh2:=hid (fun(W:World)=>A3 x y W);rw[h2] at Kh2;have Kh3:=hid (fun(W:World) (Z:Boxes W A n ws)=>BP A n c ws 4 W Z hn (by omega));rw[h3] at Kh3;have Kh4:=hid (fun(W:World) (Z:Boxes W G m gs)=>BP G m k gs 3 W Z hm (by omega));rw[h4] at Kh4;have Kh5:=hid (fun(W:World)=>Cg p q r s W);rw[h5] at Kh5
   go_enter Tryz.func29,Tryz.ntmps29;go_wp2_with fail;refine(Kh1.out _).mono ?_;rintro e w1 ⟨rfl,B1⟩;have C1:=B1;clear B1;obtain⟨hc1,hf1⟩:=AC C1;have H1:=hid (Ab (Aa (Ac w) _) C1);have l1:w.heap.size<w1.heap.size:=by have:=C1.size; simp at this; omega
   go_wp2_with fail;refine(Kh2.out _).mono ?_;rintro e w2 ⟨rfl,B2⟩;have C2:=Ab C1 B2;clear hc1 hf1 C1 B2 H1 l1;obtain⟨hc2,hf2⟩:=AC C2;have H2:=hid (Ab (Aa (Ac w) _) C2);have l2:w.heap.size<w2.heap.size:=by have:=C2.size; simp at this; omega
   go_wp2_with fail;refine(Kh3.out _ (I.out.step H2.out)).mono ?_;rintro e w3 ⟨rfl,B3⟩;have C3:=Ab C2 B3;clear hc2 hf2 C2 B3 H2 l2;obtain⟨hc3,hf3⟩:=AC C3;have H3:=hid (Ab (Aa (Ac w) _) C3);have l3:w.heap.size<w3.heap.size:=by have:=C3.size; simp at this; omega
   go_wp2_with fail;refine(Kh4.out _ (J.out.step H3.out)).mono ?_;rintro e w4 ⟨rfl,B4⟩;have C4:=Ab C3 B4;clear hc3 hf3 C3 B4 H3 l3;obtain⟨hc4,hf4⟩:=AC C4;have H4:=hid (Ab (Aa (Ac w) _) C4);have l4:w.heap.size<w4.heap.size:=by have:=C4.size; simp at this; omega
   go_wp2_with fail;refine(Kh5.out _).mono ?_;rintro e w5 ⟨rfl,B5⟩;have C5:=Ab C4 B5;clear hc4 hf4 C4 B5 H4 l4;obtain⟨hc5,hf5⟩:=AC C5;have H5:=hid (Ab (Aa (Ac w) _) C5);have l5:w.heap.size<w5.heap.size:=by have:=C5.size; simp at this; omega
   go_wp2;go_ret;exact⟨Aq (by rw[E.out]),H5.out⟩
 cases h6:Cw ws x y
 . have E:=hid (show Cr i t x y ws gs p q r s b=false by simp[Fo,show Hh i t b=true from h1,show Aw x y=true from h2,show I0 ws 4=true from h3,show I0 gs 3=true from h4,show Dd p q r s=true from h5,show Cw ws x y=false from h6]);have Kh1:=hid (fun(W:World)=>Ec i t x y A n c G m k p q r s b W);rw[h1] at Kh1;have Kh2:=hid (fun(W:World)=>A3 x y W);rw[h2] at Kh2;have Kh3:=hid (fun(W:World) (Z:Boxes W A n ws)=>BP A n c ws 4 W Z hn (by omega));rw[h3] at Kh3;have Kh4:=hid (fun(W:World) (Z:Boxes W G m gs)=>BP G m k gs 3 W Z hm (by omega));rw[h4] at Kh4
   have Kh5:=hid (fun(W:World)=>Cg p q r s W);rw[h5] at Kh5;have Kh6:=hid (fun(W:World) (Z:Boxes W A n ws)=>FM i t x y A n c G m k p q r s b ws x y W Z (Py h3) (by have:=(AZ x y).1 h2; omega) (by have:=(AZ x y).1 h2; omega) (by have:=(AZ x y).1 h2; omega) (by have:=(AZ x y).1 h2; omega) hn);rw[h6] at Kh6;go_enter Tryz.func29,Tryz.ntmps29;go_wp2_with fail;refine(Kh1.out _).mono ?_;rintro e w1 ⟨rfl,B1⟩;have C1:=B1;clear B1;obtain⟨hc1,hf1⟩:=AC C1;have H1:=hid (Ab (Aa (Ac w) _) C1);have l1:w.heap.size<w1.heap.size:=by have:=C1.size; simp at this; omega
   go_wp2_with fail;refine(Kh2.out _).mono ?_;rintro e w2 ⟨rfl,B2⟩;have C2:=Ab C1 B2;clear hc1 hf1 C1 B2 H1 l1;obtain⟨hc2,hf2⟩:=AC C2;have H2:=hid (Ab (Aa (Ac w) _) C2);have l2:w.heap.size<w2.heap.size:=by have:=C2.size; simp at this; omega
   go_wp2_with fail;refine(Kh3.out _ (I.out.step H2.out)).mono ?_;rintro e w3 ⟨rfl,B3⟩;have C3:=Ab C2 B3;clear hc2 hf2 C2 B3 H2 l2;obtain⟨hc3,hf3⟩:=AC C3;have H3:=hid (Ab (Aa (Ac w) _) C3);have l3:w.heap.size<w3.heap.size:=by have:=C3.size; simp at this; omega
   go_wp2_with fail;refine(Kh4.out _ (J.out.step H3.out)).mono ?_;rintro e w4 ⟨rfl,B4⟩;have C4:=Ab C3 B4;clear hc3 hf3 C3 B4 H3 l3;obtain⟨hc4,hf4⟩:=AC C4;have H4:=hid (Ab (Aa (Ac w) _) C4);have l4:w.heap.size<w4.heap.size:=by have:=C4.size; simp at this; omega
   go_wp2_with fail;refine(Kh5.out _).mono ?_;rintro e w5 ⟨rfl,B5⟩;have C5:=Ab C4 B5;clear hc4 hf4 C4 B5 H4 l4;obtain⟨hc5,hf5⟩:=AC C5;have H5:=hid (Ab (Aa (Ac w) _) C5);have l5:w.heap.size<w5.heap.size:=by have:=C5.size; simp at this; omega
   go_wp2_with fail;refine(Kh6.out _ (I.out.step H5.out)).mono ?_;rintro e w6 ⟨rfl,B6⟩;have C6:=Ab C5 B6;clear hc5 hf5 C5 B6 H5 l5;obtain⟨hc6,hf6⟩:=AC C6;have H6:=hid (Ab (Aa (Ac w) _) C6);have l6:w.heap.size<w6.heap.size:=by have:=C6.size; simp at this; omega
   go_wp2;go_ret;exact⟨Aq (by rw[E.out]),H6.out⟩
 have E:=hid (show Cr i t x y ws gs p q r s b=true by simp[Fo,show Hh i t b=true from h1,show Aw x y=true from h2,show I0 ws 4=true from h3,show I0 gs 3=true from h4,show Dd p q r s=true from h5,show Cw ws x y=true from h6]);have Kh1:=hid (fun(W:World)=>Ec i t x y A n c G m k p q r s b W);rw[h1] at Kh1;have Kh2:=hid (fun(W:World)=>A3 x y W);rw[h2] at Kh2;have Kh3:=hid (fun(W:World) (Z:Boxes W A n ws)=>BP A n c ws 4 W Z hn (by omega));rw[h3] at Kh3;have Kh4:=hid (fun(W:World) (Z:Boxes W G m gs)=>BP G m k gs 3 W Z hm (by omega));rw[h4] at Kh4
 have Kh5:=hid (fun(W:World)=>Cg p q r s W);rw[h5] at Kh5;have Kh6:=hid (fun(W:World) (Z:Boxes W A n ws)=>FM i t x y A n c G m k p q r s b ws x y W Z (Py h3) (by have:=(AZ x y).1 h2; omega) (by have:=(AZ x y).1 h2; omega) (by have:=(AZ x y).1 h2; omega) (by have:=(AZ x y).1 h2; omega) hn);rw[h6] at Kh6;go_enter Tryz.func29,Tryz.ntmps29;go_wp2_with fail;refine(Kh1.out _).mono ?_;rintro e w1 ⟨rfl,B1⟩;have C1:=B1;clear B1;obtain⟨hc1,hf1⟩:=AC C1;have H1:=hid (Ab (Aa (Ac w) _) C1);have l1:w.heap.size<w1.heap.size:=by have:=C1.size; simp at this; omega
 go_wp2_with fail;refine(Kh2.out _).mono ?_;rintro e w2 ⟨rfl,B2⟩;have C2:=Ab C1 B2;clear hc1 hf1 C1 B2 H1 l1;obtain⟨hc2,hf2⟩:=AC C2;have H2:=hid (Ab (Aa (Ac w) _) C2);have l2:w.heap.size<w2.heap.size:=by have:=C2.size; simp at this; omega
 go_wp2_with fail;refine(Kh3.out _ (I.out.step H2.out)).mono ?_;rintro e w3 ⟨rfl,B3⟩;have C3:=Ab C2 B3;clear hc2 hf2 C2 B3 H2 l2;obtain⟨hc3,hf3⟩:=AC C3;have H3:=hid (Ab (Aa (Ac w) _) C3);have l3:w.heap.size<w3.heap.size:=by have:=C3.size; simp at this; omega
 go_wp2_with fail;refine(Kh4.out _ (J.out.step H3.out)).mono ?_;rintro e w4 ⟨rfl,B4⟩;have C4:=Ab C3 B4;clear hc3 hf3 C3 B4 H3 l3;obtain⟨hc4,hf4⟩:=AC C4;have H4:=hid (Ab (Aa (Ac w) _) C4);have l4:w.heap.size<w4.heap.size:=by have:=C4.size; simp at this; omega
 go_wp2_with fail;refine(Kh5.out _).mono ?_;rintro e w5 ⟨rfl,B5⟩;have C5:=Ab C4 B5;clear hc4 hf4 C4 B5 H4 l4;obtain⟨hc5,hf5⟩:=AC C5;have H5:=hid (Ab (Aa (Ac w) _) C5);have l5:w.heap.size<w5.heap.size:=by have:=C5.size; simp at this; omega
 go_wp2_with fail;refine(Kh6.out _ (I.out.step H5.out)).mono ?_;rintro e w6 ⟨rfl,B6⟩;have C6:=Ab C5 B6;clear hc5 hf5 C5 B6 H5 l5;obtain⟨hc6,hf6⟩:=AC C6;have H6:=hid (Ab (Aa (Ac w) _) C6);have l6:w.heap.size<w6.heap.size:=by have:=C6.size; simp at this; omega
 go_wp2;go_ret;exact⟨Aq (by rw[E.out]),H6.out⟩
theorem HU(i t x y:Int)(A:Option Addr)(n c:Nat)(G:Option Addr)(m k:Nat)(p q r s b:Int)(ws gs:List Bx)(u v:Int)(w:World)(I:Boxes w A n ws)(J:Boxes w G m gs)(hn:n<=281474976710656)(hm:m<=281474976710656) :
 Calls Tryz.prog 17 #[CX i t x y A n c G m k p q r s b,Bs u v] w fun e w'=>e=.returned (.bool (LQ i t x y ws gs p q r s b u v))/\Below w.heap.size w w':=by
 have hl1:=hid I.1;have hl2:=hid J.1;have I:=hid I;have J:=hid J;cases h1:Cr i t x y ws gs p q r s b
 . have E:=hid (show LQ i t x y ws gs p q r s b u v=false by simp[LQ,show Cr i t x y ws gs p q r s b=false from h1]);have Kh1:=hid (fun(W:World) (Z:Boxes W A n ws) (Y:Boxes W G m gs)=>Ch i t x y A n c G m k p q r s b ws gs W Z Y hn hm);rw[h1] at Kh1;go_enter Tryz.func17,Tryz.ntmps17;go_wp2_with fail;refine(Kh1.out _ (I.out.step (Aa (Aa (Ac w) _) _)) (J.out.step (Aa (Aa (Ac w) _) _))).mono ?_;rintro e w1 ⟨rfl,B1⟩;have C1:=B1;clear B1;obtain⟨hc1,hf1⟩:=AC C1;have H1:=hid (Ab (Aa (Aa (Ac w) _) _) C1);have l1:w.heap.size<w1.heap.size:=by have:=C1.size; simp at this; omega
   go_wp2;go_ret;exact⟨Aq (by rw[E.out]),H1.out⟩
 cases h2:Aw u v
 . have E:=hid (show LQ i t x y ws gs p q r s b u v=false by simp[LQ,show Cr i t x y ws gs p q r s b=true from h1,show Aw u v=false from h2]);have Kh1:=hid (fun(W:World) (Z:Boxes W A n ws) (Y:Boxes W G m gs)=>Ch i t x y A n c G m k p q r s b ws gs W Z Y hn hm);rw[h1] at Kh1;have Kh2:=hid (fun(W:World)=>A3 u v W);rw[h2] at Kh2;go_enter Tryz.func17,Tryz.ntmps17;go_wp2_with fail;refine(Kh1.out _ (I.out.step (Aa (Aa (Ac w) _) _)) (J.out.step (Aa (Aa (Ac w) _) _))).mono ?_;rintro e w1 ⟨rfl,B1⟩;have C1:=B1;clear B1;obtain⟨hc1,hf1⟩:=AC C1
   have H1:=hid (Ab (Aa (Aa (Ac w) _) _) C1);have l1:w.heap.size<w1.heap.size:=by have:=C1.size; simp at this; omega
   go_wp2_with fail;refine(Kh2.out _).mono ?_;rintro e w2 ⟨rfl,B2⟩;have C2:=Ab C1 B2;clear hc1 hf1 C1 B2 H1 l1;obtain⟨hc2,hf2⟩:=AC C2;have H2:=hid (Ab (Aa (Aa (Ac w) _) _) C2);have l2:w.heap.size<w2.heap.size:=by have:=C2.size; simp at this; omega
   go_wp2;go_ret;exact⟨Aq (by rw[E.out]),H2.out⟩
 cases h3:Cw ws u v
 . have E:=hid (show LQ i t x y ws gs p q r s b u v=false by simp[LQ,show Cr i t x y ws gs p q r s b=true from h1,show Aw u v=true from h2,show Cw ws u v=false from h3]);have Kh1:=hid (fun(W:World) (Z:Boxes W A n ws) (Y:Boxes W G m gs)=>Ch i t x y A n c G m k p q r s b ws gs W Z Y hn hm);rw[h1] at Kh1;have Kh2:=hid (fun(W:World)=>A3 u v W);rw[h2] at Kh2
   have Kh3:=hid (fun(W:World) (Z:Boxes W A n ws)=>FM i t x y A n c G m k p q r s b ws u v W Z ((Di i t x y ws gs p q r s b).1 h1).2.2.2.2.1 (by have:=(AZ u v).1 h2; omega) (by have:=(AZ u v).1 h2; omega) (by have:=(AZ u v).1 h2; omega) (by have:=(AZ u v).1 h2; omega) hn);rw[h3] at Kh3;go_enter Tryz.func17,Tryz.ntmps17;go_wp2_with fail;refine(Kh1.out _ (I.out.step (Aa (Aa (Ac w) _) _)) (J.out.step (Aa (Aa (Ac w) _) _))).mono ?_;rintro e w1 ⟨rfl,B1⟩;have C1:=B1;clear B1;obtain⟨hc1,hf1⟩:=AC C1;have H1:=hid (Ab (Aa (Aa (Ac w) _) _) C1)
   have l1:w.heap.size<w1.heap.size:=by have:=C1.size; simp at this; omega
   go_wp2_with fail;refine(Kh2.out _).mono ?_;rintro e w2 ⟨rfl,B2⟩;have C2:=Ab C1 B2;clear hc1 hf1 C1 B2 H1 l1;obtain⟨hc2,hf2⟩:=AC C2;have H2:=hid (Ab (Aa (Aa (Ac w) _) _) C2);have l2:w.heap.size<w2.heap.size:=by have:=C2.size; simp at this; omega
   go_wp2_with fail;refine(Kh3.out _ (I.out.step H2.out)).mono ?_;rintro e w3 ⟨rfl,B3⟩;have C3:=Ab C2 B3;clear hc2 hf2 C2 B3 H2 l2;obtain⟨hc3,hf3⟩:=AC C3;have H3:=hid (Ab (Aa (Aa (Ac w) _) _) C3);have l3:w.heap.size<w3.heap.size:=by have:=C3.size; simp at this; omega
   go_wp2;go_ret;exact⟨Aq (by rw[E.out]),H3.out⟩
 have E:=hid (show LQ i t x y ws gs p q r s b u v=true by simp[LQ,show Cr i t x y ws gs p q r s b=true from h1,show Aw u v=true from h2,show Cw ws u v=true from h3]);have Kh1:=hid (fun(W:World) (Z:Boxes W A n ws) (Y:Boxes W G m gs)=>Ch i t x y A n c G m k p q r s b ws gs W Z Y hn hm);rw[h1] at Kh1;have Kh2:=hid (fun(W:World)=>A3 u v W);rw[h2] at Kh2
 have Kh3:=hid (fun(W:World) (Z:Boxes W A n ws)=>FM i t x y A n c G m k p q r s b ws u v W Z ((Di i t x y ws gs p q r s b).1 h1).2.2.2.2.1 (by have:=(AZ u v).1 h2; omega) (by have:=(AZ u v).1 h2; omega) (by have:=(AZ u v).1 h2; omega) (by have:=(AZ u v).1 h2; omega) hn);rw[h3] at Kh3;go_enter Tryz.func17,Tryz.ntmps17;go_wp2_with fail;refine(Kh1.out _ (I.out.step (Aa (Aa (Ac w) _) _)) (J.out.step (Aa (Aa (Ac w) _) _))).mono ?_;rintro e w1 ⟨rfl,B1⟩;have C1:=B1;clear B1;obtain⟨hc1,hf1⟩:=AC C1;have H1:=hid (Ab (Aa (Aa (Ac w) _) _) C1)
 have l1:w.heap.size<w1.heap.size:=by have:=C1.size; simp at this; omega
 go_wp2_with fail;refine(Kh2.out _).mono ?_;rintro e w2 ⟨rfl,B2⟩;have C2:=Ab C1 B2;clear hc1 hf1 C1 B2 H1 l1;obtain⟨hc2,hf2⟩:=AC C2;have H2:=hid (Ab (Aa (Aa (Ac w) _) _) C2);have l2:w.heap.size<w2.heap.size:=by have:=C2.size; simp at this; omega
 go_wp2_with fail;refine(Kh3.out _ (I.out.step H2.out)).mono ?_;rintro e w3 ⟨rfl,B3⟩;have C3:=Ab C2 B3;clear hc2 hf2 C2 B3 H2 l2;obtain⟨hc3,hf3⟩:=AC C3;have H3:=hid (Ab (Aa (Aa (Ac w) _) _) C3);have l3:w.heap.size<w3.heap.size:=by have:=C3.size; simp at this; omega
 go_wp2;go_ret;exact⟨Aq (by rw[E.out]),H3.out⟩
theorem HV(i t x y:Int)(A:Option Addr)(n c:Nat)(G:Option Addr)(m k:Nat)(p q r s b:Int)(ws gs:List Bx)(z:Int)(w:World)(I:Boxes w A n ws)(J:Boxes w G m gs)(hn:n<=281474976710656)(hm:m<=281474976710656) :
 Calls Tryz.prog 68 #[CX i t x y A n c G m k p q r s b,.int .i64 z] w fun e w'=>e=.returned (.bool (L5 i t x y ws gs p q r s b z))/\Below w.heap.size w w':=by
 have I:=hid I;have J:=hid J;by_cases hz:z=1\/z=2
 . have V:=hid (fun(W:World) (Z:Boxes W A n ws) (Y:Boxes W G m gs)=>Ch i t x y A n c G m k p q r s b ws gs W Z Y hn hm);cases h:Cr i t x y ws gs p q r s b
   . have E:=hid (show L5 i t x y ws gs p q r s b z=false by simp[L5,h]);rw[h] at V;rcases hz with rfl | rfl
     all_goals
      go_enter Tryz.func68,Tryz.ntmps68;go_wp2_with fail;refine(V.out _ (I.out.alloc _) (J.out.alloc _)).mono ?_;rintro e w1 ⟨rfl,B1⟩;have H:=hid (Ab (Aa (Ac w) _) B1);clear B1;go_wp2;go_ret;exact⟨Aq (by rw[E.out]),H.out⟩
   . obtain⟨b0,b3⟩:=M6 h;have E:=hid (show L5 i t x y ws gs p q r s b z=I3 b z by rcases hz with rfl | rfl<;>simp[L5,h,Bc]);rw[h] at V;clear h;have hb:b=0\/b=1\/b=2\/b=3:=by omega
     rcases hz with rfl | rfl<;>rcases hb with rfl | rfl | rfl | rfl
     all_goals
      go_enter Tryz.func68,Tryz.ntmps68;go_wp2_with fail;refine(V.out _ (I.out.alloc _) (J.out.alloc _)).mono ?_;rintro e w1 ⟨rfl,B1⟩;have L1:CellsAt w1 w.heap.size (AX i t x y A n c G m k p q r s _):=(CellsAt.new w _ _ _ rfl).step B1;have k10:=L1.cell 10 _ rfl;have ll:=L1.lt;have H:=hid (Ab (Aa (Ac w) _) B1);clear B1;go_wp2;go_ret;exact⟨Aq (by rw[E.out]; first | rfl | decide),H.out⟩
 . have E:=hid (show L5 i t x y ws gs p q r s b z=false by
    have:Bc z 1 2=false:=CJ (by omega);simp[L5,this])
   have z1:(z != 1)=true:=bne_iff_ne.2 (by omega);have z2:(z != 2)=true:=bne_iff_ne.2 (by omega);go_enter Tryz.func68,Tryz.ntmps68;go_wp2;go_ret;exact⟨Aq (by rw[E.out]),Aa (Ac w) _⟩
end Go.Proofs.YtaemcekcancpdaaGreatDoor
