import Derived.Test.YtienbaikhliniaaZHashImpl
set_option linter.all false
set_option maxRecDepth 100000
set_option maxHeartbeats 8000000
open Go.Lib
namespace Go.Proofs.Ytienbaikhliniaa
open Go.RowKit
open M
theorem Be(a:Option Addr)(len cap:Nat)(zs:List Int)(a2:Option Addr)(len2 cap2:Nat)(zs2:List Int)(w:World)(h:IsRow .u8 w a len cap zs)(h2:IsRow .u8 w a2 len2 cap2 zs2) :
 Calls Try.prog 3 #[.slice a len cap,.slice a2 len2 cap2] w fun e w'=>e=.returned (.bool true)/\Below w.heap.size w w':=by
 have hm:=h.bytes.1;have hm2:=h.bytes.2.1;have hm3:=h2.bytes.1;have hm4:=h2.bytes.2.1;unfold maxLen at hm2 hm4;by_cases g:1048576<len
 . have g1:(1048576:Int)<(len:Int):=by omega
   go_enter Try.func3,Try.ntmps3;go_wp2;go_ret;exact⟨rfl,Below.refl _ _⟩
 by_cases g2:1048576<len2
 . have g1:(len:Int)<=1048576:=by omega
   have g3:(1048576:Int)<(len2:Int):=by omega
   go_enter Try.func3,Try.ntmps3;go_wp2;go_ret;exact⟨rfl,Below.refl _ _⟩
 have g1:(len:Int)<=1048576:=by omega
 have g3:(len2:Int)<=1048576:=by omega
 have g4:(0:Int)<=(len2:Int):=by omega
 go_enter Try.func3,Try.ntmps3;go_wp2_with fail;refine(Av a len cap zs w h).mono ?_;rintro e w1 ⟨key,A,n,c,xs,⟨key0,key1⟩,hn,Fx,rfl,I1,B1⟩;have H1:=hid B1;have I1:=hid I1;have hl:=hid I1.out.1;have Fx:=hid Fx;clear B1 h h2;obtain⟨v0,v1⟩:=A4 key xs;obtain⟨v,hv⟩:∃ v,tI key xs=v:=⟨_,rfl⟩;have Q1:=hid (show ∀ W:World,Ints W A n xs->Calls Try.prog 10 #[.int .i64 key,.slice A n c] W (fun e w'=>e=.returned (.int .i64 v)/\Below W.heap.size W w') from fun W J=>by have t:=Ak key A n c xs W J (by omega); rw[hv] at t; exact t)
 have Q2:=hid (show ∀ W:World,Ints W A n xs->Calls Try.prog 11 #[.int .i64 key,.slice A n c] W (fun e w'=>e=.returned (.int .i64 v)/\W=w') from fun W J=>by have t:=Aq key A n c xs W J (by omega); rw[hv] at t; exact t);rw[hv] at v0 v1;have hv:=hid hv;go_wp2_with fail;refine(Q1.out _ I1.out).mono ?_;rintro e w2 ⟨rfl,B2⟩;have H2:=hid (Ad H1.out B2);have sz:=H2.out.size;have I2:=hid (I1.out.step B2);clear B2 H1 I1 Q1;go_wp2_with fail;refine(Q2.out _ I2.out).mono ?_;rintro e w3 ⟨rfl,rfl⟩;clear Q2;by_cases t0:v<0
 . skip
   go_wp2
   all_goals
    go_ret
    first | exact⟨rfl,(by repeat (first | with_reducible exact H2.out | with_reducible refine Ae ?_ _ _ _ (by omega) | with_reducible refine Aa ?_ _ | with_reducible refine Ab ?_))⟩ | exact⟨Af (decide_eq_true (by omega)),(by repeat (first | with_reducible exact H2.out | with_reducible refine Ae ?_ _ _ _ (by omega) | with_reducible refine Aa ?_ _ | with_reducible refine Ab ?_))⟩ | exact⟨Af (by simp; omega),(by repeat (first | with_reducible exact H2.out | with_reducible refine Ae ?_ _ _ _ (by omega) | with_reducible refine Aa ?_ _ | with_reducible refine Ab ?_))⟩
 have q1:=Cd (k:=key) (xs:=xs) (by rw[hv.out]; omega);have q2:=BF (k:=key) (xs:=xs) (j:=(len2:Int) % 1000) (by rw[hv.out]; omega) (by omega) (by omega);rw[hv.out] at q1 q2;have C1:=hid (show ∀ W:World,Ints W A n xs->Calls Try.prog 12 #[.int .i64 key,.slice A n c,.int .i64 v] W (fun e w'=>e=.returned (.bool true)/\Below W.heap.size W w') from fun W J=>by have t:=Ai key A n c xs v W J (by omega); rw[q1] at t; exact t)
 have C2:=hid (show ∀ W:World,Ints W A n xs->Calls Try.prog 12 #[.int .i64 key,.slice A n c,.int .i64 ((v+1+(len2:Int) % 1000) % 1000003)] W (fun e w'=>e=.returned (.bool false)/\Below W.heap.size W w') from fun W J=>by have t:=Ai key A n c xs ((v+1+(len2:Int) % 1000) % 1000003) W J (by omega); rw[q2] at t; exact t);clear q1 q2;go_wp2_with fail;refine(C1.out _ I2.out).mono ?_;rintro e w4 ⟨rfl,B4⟩;have H4:=hid (Ad H2.out B4);have I4:=hid (I2.out.step B4);clear B4 H2 I2 C1;go_wp2_with fail;refine(C2.out _ I4.out).mono ?_;rintro e w5 ⟨rfl,B5⟩;have H5:=hid (Ad H4.out B5);have I5:=hid (I4.out.step B5);clear B5 H4 I4 C2;go_wp2
 all_goals
  go_ret
  first | exact⟨rfl,(by repeat (first | with_reducible exact H5.out | with_reducible refine Ae ?_ _ _ _ (by omega) | with_reducible refine Aa ?_ _ | with_reducible refine Ab ?_))⟩ | exact⟨Af (decide_eq_true (by omega)),(by repeat (first | with_reducible exact H5.out | with_reducible refine Ae ?_ _ _ _ (by omega) | with_reducible refine Aa ?_ _ | with_reducible refine Ab ?_))⟩ | exact⟨Af (by simp; omega),(by repeat (first | with_reducible exact H5.out | with_reducible refine Ae ?_ _ _ _ (by omega) | with_reducible refine Aa ?_ _ | with_reducible refine Ab ?_))⟩
theorem Az(a:Option Addr)(len cap:Nat)(zs:List Int)(a2:Option Addr)(len2 cap2:Nat)(zs2:List Int)(w:World)(h:IsRow .u8 w a len cap zs)(h2:IsRow .u8 w a2 len2 cap2 zs2) :
 Calls Try.prog 4 #[.slice a len cap,.slice a2 len2 cap2] w fun e w'=>e=.returned (.bool true)/\Below w.heap.size w w':=by
 have hm:=h.bytes.1;have hm2:=h.bytes.2.1;have hm3:=h2.bytes.1;have hm4:=h2.bytes.2.1;unfold maxLen at hm2 hm4;by_cases g:1048576<len
 . have g1:(1048576:Int)<(len:Int):=by omega
   go_enter Try.func4,Try.ntmps4;go_wp2;go_ret;exact⟨rfl,Below.refl _ _⟩
 by_cases g2:1048576<len2
 . have g1:(len:Int)<=1048576:=by omega
   have g3:(1048576:Int)<(len2:Int):=by omega
   go_enter Try.func4,Try.ntmps4;go_wp2;go_ret;exact⟨rfl,Below.refl _ _⟩
 have g1:(len:Int)<=1048576:=by omega
 have g3:(len2:Int)<=1048576:=by omega
 have g4:(0:Int)<=(len2:Int):=by omega
 go_enter Try.func4,Try.ntmps4;go_wp2_with fail;refine(Av a len cap zs w h).mono ?_;rintro e w1 ⟨key,A,n,c,xs,⟨key0,key1⟩,hn,Fx,rfl,I1,B1⟩;have H1:=hid B1;have I1:=hid I1;have hl:=hid I1.out.1;have Fx:=hid Fx;clear B1 h h2;obtain⟨v0,v1⟩:=A4 key xs;obtain⟨v,hv⟩:∃ v,tI key xs=v:=⟨_,rfl⟩;have Q1:=hid (show ∀ W:World,Ints W A n xs->Calls Try.prog 10 #[.int .i64 key,.slice A n c] W (fun e w'=>e=.returned (.int .i64 v)/\Below W.heap.size W w') from fun W J=>by have t:=Ak key A n c xs W J (by omega); rw[hv] at t; exact t)
 have Q2:=hid (show ∀ W:World,Ints W A n xs->Calls Try.prog 11 #[.int .i64 key,.slice A n c] W (fun e w'=>e=.returned (.int .i64 v)/\W=w') from fun W J=>by have t:=Aq key A n c xs W J (by omega); rw[hv] at t; exact t);rw[hv] at v0 v1;have hv:=hid hv;go_wp2_with fail;refine(Q1.out _ I1.out).mono ?_;rintro e w2 ⟨rfl,B2⟩;have H2:=hid (Ad H1.out B2);have sz:=H2.out.size;have I2:=hid (I1.out.step B2);clear B2 H1 I1 Q1;go_wp2_with fail;refine(Q2.out _ I2.out).mono ?_;rintro e w3 ⟨rfl,rfl⟩;clear Q2;by_cases t0:v<0
 . skip
   go_wp2
   all_goals
    go_ret
    first | exact⟨rfl,(by repeat (first | with_reducible exact H2.out | with_reducible refine Ae ?_ _ _ _ (by omega) | with_reducible refine Aa ?_ _ | with_reducible refine Ab ?_))⟩ | exact⟨Af (decide_eq_true (by omega)),(by repeat (first | with_reducible exact H2.out | with_reducible refine Ae ?_ _ _ _ (by omega) | with_reducible refine Aa ?_ _ | with_reducible refine Ab ?_))⟩ | exact⟨Af (by simp; omega),(by repeat (first | with_reducible exact H2.out | with_reducible refine Ae ?_ _ _ _ (by omega) | with_reducible refine Aa ?_ _ | with_reducible refine Ab ?_))⟩
 by_cases n0:n=0
 . have n1:(n:Int)=0:=by omega
   subst n0;go_wp2
   all_goals
    go_ret
    first | exact⟨rfl,(by repeat (first | with_reducible exact H2.out | with_reducible refine Ae ?_ _ _ _ (by omega) | with_reducible refine Aa ?_ _ | with_reducible refine Ab ?_))⟩ | exact⟨Af (decide_eq_true (by omega)),(by repeat (first | with_reducible exact H2.out | with_reducible refine Ae ?_ _ _ _ (by omega) | with_reducible refine Aa ?_ _ | with_reducible refine Ab ?_))⟩ | exact⟨Af (by simp; omega),(by repeat (first | with_reducible exact H2.out | with_reducible refine Ae ?_ _ _ _ (by omega) | with_reducible refine Aa ?_ _ | with_reducible refine Ab ?_))⟩
 have n1:((n:Int)==0)=false:=beq_eq_false_iff_ne.2 (by omega);obtain⟨k,ek⟩:∃ k:Nat,len2 % n=k:=⟨_,rfl⟩;have kn:k<n:=by rw[<- ek]; exact Nat.mod_lt _ (by omega)
 have em:(len2:Int) % (n:Int)=(k:Int):=by rw[<- ek]; rfl
 have ek:=hid ek;obtain⟨z,hz⟩:∃ z,xs.getD k 0=z:=⟨_,rfl⟩;have zb:=Cm (AX (k:=key) (xs:=xs) (by rw[hv.out]; omega)).2 (k:=k) (by have:=hl.out; omega);have hc:=Bd (q:=key) (xs:=xs) (by rw[hv.out]; omega) (k:=k) (by have:=hl.out; omega) (d:=1+(len:Int) % 1000) (by omega) (by omega);rw[hz] at zb hc;obtain⟨z0,z1⟩:=zb;obtain⟨y,hy⟩:∃ y,z+1+(len:Int) % 1000=y:=⟨_,rfl⟩;have y0:z<y:=by omega
 have y1:y<=z+1000:=by omega
 rw[show z+(1+(len:Int) % 1000)=y by omega,hv.out] at hc;have hz:=hid hz;have C:=hid (show ∀(W:World) (D:Option Addr) (q:Nat),Ints W D n (xs.set k y)->Calls Try.prog 12 #[.int .i64 key,.slice D n q,.int .i64 v] W (fun e w'=>e=.returned (.bool false)/\Below W.heap.size W w') from fun W D q J=>by have t:=Ai key D n q (xs.set k y) v W J (by omega); rw[hc] at t; exact t);clear hc;go_wp2_with (at_builtin; refine A9 _ rfl _ _ rfl w2.heap.size _ 0 [] rfl (World.ownsRow_lit (base:=w2.heap.size) (e:=3) (size:=1) w2 #[] 0 (Nat.le_refl _) (by decide) (by simp)) A n c xs rfl (I2.out.alloc _) (by omega) (by simp) ?_);intro v4 w4 O4 G4 _
 have s4:w2.heap.size<w4.heap.size:=by have:=G4.size; simp at this; omega
 have H4:=hid (Ad H2.out (((Aa (Am w2) _).grown G4 (by simp) (fun k e=>by simp[Value.ownBlock] at e; omega))));have O4:w4.ownsRow w2.heap.size 3 1 v4 n (xs.map (Value.int .i64)):=by simpa using O4
 clear G4 H2;rcases O4.2 with⟨_,e0⟩ | ⟨g',cap',cur,rfl,hbg,hh,_⟩
 . omega
 clear hh;have f4:=O4.frozenAt k;have c4:w4.cell? ⟨g',k,none⟩=some (.int .i64 z):=by
  rw[O4.cellAt k (by omega),List.getElem?_map,<- hz.out,List.getD_eq_getElem?_getD,List.getElem?_eq_getElem (by have:=hl.out; omega)];rfl
 obtain⟨O5,G5⟩:=O4.stored k (.int .i64 y);rw[<- List.map_set] at O5;obtain⟨A5,cap5,hv5,I5⟩:=Ints.of_own O5;simp only[Value.slice.injEq,true_and] at hv5;obtain⟨rfl,rfl⟩:=hv5;have I5:=hid I5;clear O4 O5 G5;go_wp2_with fail;refine(C.out _ _ _ I5.out).mono ?_;rintro e w6 ⟨rfl,B6⟩;have H6:=hid (Ad (Ae H4.out _ _ _ (by have:=H4.out.size; omega)) B6);clear B6 C;go_wp2
 all_goals
  go_ret
  first | exact⟨rfl,(by repeat (first | with_reducible exact H6.out | with_reducible refine Ae ?_ _ _ _ (by omega) | with_reducible refine Aa ?_ _ | with_reducible refine Ab ?_))⟩ | exact⟨Af (decide_eq_true (by omega)),(by repeat (first | with_reducible exact H6.out | with_reducible refine Ae ?_ _ _ _ (by omega) | with_reducible refine Aa ?_ _ | with_reducible refine Ab ?_))⟩ | exact⟨Af (by simp; omega),(by repeat (first | with_reducible exact H6.out | with_reducible refine Ae ?_ _ _ _ (by omega) | with_reducible refine Aa ?_ _ | with_reducible refine Ab ?_))⟩
theorem Ar(a:Option Addr)(len cap:Nat)(zs:List Int)(w:World)(h:IsRow .u8 w a len cap zs) :
 Calls Try.prog 5 #[.slice a len cap] w fun e w'=>e=.returned (.bool true)/\Below w.heap.size w w':=by
 have hm:=h.bytes.1;have hm2:=h.bytes.2.1;unfold maxLen at hm2;by_cases g:1048576<len
 . have g1:(1048576:Int)<(len:Int):=by omega
   go_enter Try.func5,Try.ntmps5;go_wp2;go_ret;exact⟨rfl,Below.refl _ _⟩
 have g1:(len:Int)<=1048576:=by omega
 go_enter Try.func5,Try.ntmps5;go_wp2_with fail;refine(Av a len cap zs w h).mono ?_;rintro e w1 ⟨key,A,n,c,xs,⟨key0,key1⟩,hn,Fx,rfl,I1,B1⟩;have H1:=hid B1;have I1:=hid I1;have hl:=hid I1.out.1;have Fx:=hid Fx;clear B1 h;obtain⟨v0,v1⟩:=A4 key xs;obtain⟨v,hv⟩:∃ v,tI key xs=v:=⟨_,rfl⟩;have Q1:=hid (show ∀ W:World,Ints W A n xs->Calls Try.prog 10 #[.int .i64 key,.slice A n c] W (fun e w'=>e=.returned (.int .i64 v)/\Below W.heap.size W w') from fun W J=>by have t:=Ak key A n c xs W J (by omega); rw[hv] at t; exact t)
 have Q2:=hid (show ∀ W:World,Ints W A n xs->Calls Try.prog 11 #[.int .i64 key,.slice A n c] W (fun e w'=>e=.returned (.int .i64 v)/\W=w') from fun W J=>by have t:=Aq key A n c xs W J (by omega); rw[hv] at t; exact t);rw[hv] at v0 v1;have hv:=hid hv;go_wp2_with fail;refine(Q1.out _ I1.out).mono ?_;rintro e w2 ⟨rfl,B2⟩;have H2:=hid (Ad H1.out B2);have sz:=H2.out.size;have I2:=hid (I1.out.step B2);clear B2 H1 I1 Q1;go_wp2_with fail;refine(Q2.out _ I2.out).mono ?_;rintro e w3 ⟨rfl,rfl⟩;clear Q2;have q1:=BG xs;have q2:=Ce xs;have q3:=Cf key xs
 have C1:=hid (show ∀ W:World,Ints W A n xs->Calls Try.prog 10 #[.int .i64 0,.slice A n c] W (fun e w'=>e=.returned (.int .i64 (-1))/\Below W.heap.size W w') from fun W J=>by have t:=Ak 0 A n c xs W J (by omega); rw[q1] at t; exact t);have C2:=hid (show ∀ W:World,Ints W A n xs->Calls Try.prog 10 #[.int .i64 10000,.slice A n c] W (fun e w'=>e=.returned (.int .i64 (-1))/\Below W.heap.size W w') from fun W J=>by have t:=Ak 10000 A n c xs W J (by omega); rw[q2] at t; exact t)
 have C3:=hid (show ∀ W:World,Ints W A n xs->Calls Try.prog 12 #[.int .i64 key,.slice A n c,.int .i64 (-1)] W (fun e w'=>e=.returned (.bool false)/\Below W.heap.size W w') from fun W J=>by have t:=Ai key A n c xs (-1) W J (by omega); rw[q3] at t; exact t);clear q1 q2 q3;go_wp2_with fail;refine(C1.out _ I2.out).mono ?_;rintro e w4 ⟨rfl,B4⟩;have H4:=hid (Ad H2.out B4);have I4:=hid (I2.out.step B4);clear B4 H2 I2 C1;go_wp2_with fail;refine(C2.out _ I4.out).mono ?_;rintro e w5 ⟨rfl,B5⟩;have H5:=hid (Ad H4.out B5);have I5:=hid (I4.out.step B5);clear B5 H4 I4 C2;go_wp2_with fail;refine(C3.out _ I5.out).mono ?_;rintro e w6 ⟨rfl,B6⟩
 have H6:=hid (Ad H5.out B6);have I6:=hid (I5.out.step B6);clear B6 H5 I5 C3;go_wp2
 all_goals
  go_ret
  first | exact⟨rfl,(by repeat (first | with_reducible exact H6.out | with_reducible refine Ae ?_ _ _ _ (by omega) | with_reducible refine Aa ?_ _ | with_reducible refine Ab ?_))⟩ | exact⟨Af (decide_eq_true (by omega)),(by repeat (first | with_reducible exact H6.out | with_reducible refine Ae ?_ _ _ _ (by omega) | with_reducible refine Aa ?_ _ | with_reducible refine Ab ?_))⟩ | exact⟨Af (by simp; omega),(by repeat (first | with_reducible exact H6.out | with_reducible refine Ae ?_ _ _ _ (by omega) | with_reducible refine Aa ?_ _ | with_reducible refine Ab ?_))⟩
theorem AM(a:Option Addr)(len cap:Nat)(zs:List Int)(a2:Option Addr)(len2 cap2:Nat)(zs2:List Int)(w:World)(h:IsRow .u8 w a len cap zs)(h2:IsRow .u8 w a2 len2 cap2 zs2) :
 Calls Try.prog 6 #[.slice a len cap,.slice a2 len2 cap2] w fun e w'=>e=.returned (.bool true)/\Below w.heap.size w w':=by
 have hm:=h.bytes.1;have hm2:=h.bytes.2.1;have hm3:=h2.bytes.1;have hm4:=h2.bytes.2.1;unfold maxLen at hm2 hm4;by_cases g:1048576<len
 . have g1:(1048576:Int)<(len:Int):=by omega
   go_enter Try.func6,Try.ntmps6;go_wp2;go_ret;exact⟨rfl,Below.refl _ _⟩
 by_cases g2:1048576<len2
 . have g1:(len:Int)<=1048576:=by omega
   have g3:(1048576:Int)<(len2:Int):=by omega
   go_enter Try.func6,Try.ntmps6;go_wp2;go_ret;exact⟨rfl,Below.refl _ _⟩
 have g1:(len:Int)<=1048576:=by omega
 have g3:(len2:Int)<=1048576:=by omega
 have g4:(0:Int)<=(len2:Int):=by omega
 go_enter Try.func6,Try.ntmps6;go_wp2_with fail;refine(Av a len cap zs w h).mono ?_;rintro e w1 ⟨key,A,n,c,xs,⟨key0,key1⟩,hn,Fx,rfl,I1,B1⟩;have H1:=hid B1;have I1:=hid I1;have hl:=hid I1.out.1;have Fx:=hid Fx;clear B1 h h2;obtain⟨v0,v1⟩:=A4 key xs;obtain⟨v,hv⟩:∃ v,tI key xs=v:=⟨_,rfl⟩;have Q1:=hid (show ∀ W:World,Ints W A n xs->Calls Try.prog 10 #[.int .i64 key,.slice A n c] W (fun e w'=>e=.returned (.int .i64 v)/\Below W.heap.size W w') from fun W J=>by have t:=Ak key A n c xs W J (by omega); rw[hv] at t; exact t)
 have Q2:=hid (show ∀ W:World,Ints W A n xs->Calls Try.prog 11 #[.int .i64 key,.slice A n c] W (fun e w'=>e=.returned (.int .i64 v)/\W=w') from fun W J=>by have t:=Aq key A n c xs W J (by omega); rw[hv] at t; exact t);rw[hv] at v0 v1;have hv:=hid hv;go_wp2_with fail;refine(Q1.out _ I1.out).mono ?_;rintro e w2 ⟨rfl,B2⟩;have H2:=hid (Ad H1.out B2);have sz:=H2.out.size;have I2:=hid (I1.out.step B2);clear B2 H1 I1 Q1;go_wp2_with fail;refine(Q2.out _ I2.out).mono ?_;rintro e w3 ⟨rfl,rfl⟩;clear Q2;by_cases t0:v<0
 . skip
   go_wp2
   all_goals
    go_ret
    first | exact⟨rfl,(by repeat (first | with_reducible exact H2.out | with_reducible refine Ae ?_ _ _ _ (by omega) | with_reducible refine Aa ?_ _ | with_reducible refine Ab ?_))⟩ | exact⟨Af (decide_eq_true (by omega)),(by repeat (first | with_reducible exact H2.out | with_reducible refine Ae ?_ _ _ _ (by omega) | with_reducible refine Aa ?_ _ | with_reducible refine Ab ?_))⟩ | exact⟨Af (by simp; omega),(by repeat (first | with_reducible exact H2.out | with_reducible refine Ae ?_ _ _ _ (by omega) | with_reducible refine Aa ?_ _ | with_reducible refine Ab ?_))⟩
 have kb:1<=key/\key<=9999:=by have:=(AX (k:=key) (xs:=xs) (by rw[hv.out]; omega)).1; simpa[AN] using this
 obtain⟨k,ek⟩:∃ k:Int,1+(key+(len2:Int) % 9998) % 9999=k:=⟨_,rfl⟩;have k0:1<=k/\k<=9999:=by omega
 by_cases e1:k=key
 . have e2:(k==key)=true:=beq_iff_eq.2 e1;clear e1;go_wp2
   all_goals
    go_ret
    first | exact⟨rfl,(by repeat (first | with_reducible exact H2.out | with_reducible refine Ae ?_ _ _ _ (by omega) | with_reducible refine Aa ?_ _ | with_reducible refine Ab ?_))⟩ | exact⟨Af (decide_eq_true (by omega)),(by repeat (first | with_reducible exact H2.out | with_reducible refine Ae ?_ _ _ _ (by omega) | with_reducible refine Aa ?_ _ | with_reducible refine Ab ?_))⟩ | exact⟨Af (by simp; omega),(by repeat (first | with_reducible exact H2.out | with_reducible refine Ae ?_ _ _ _ (by omega) | with_reducible refine Aa ?_ _ | with_reducible refine Ab ?_))⟩
 have e2:(k==key)=false:=beq_eq_false_iff_ne.2 e1;have hne:=Cg (AD (n:=k) k0) (AD (n:=key) kb) e1;obtain⟨x,hx⟩:∃ x,tI k []=x:=⟨_,rfl⟩;obtain⟨y,hy⟩:∃ y,tI key []=y:=⟨_,rfl⟩;rw[hx,hy] at hne;have hne':(x != y)=true:=by simpa[bne_iff_ne] using hne
 have C1:=hid (show ∀(W:World) (D:Option Addr) (q:Nat),Calls Try.prog 10 #[.int .i64 k,.slice D 0 q] W (fun e w'=>e=.returned (.int .i64 x)/\Below W.heap.size W w') from fun W D q=>by have t:=Ak k D 0 q [] W (Ints.nil W D) (by omega); rw[hx] at t; exact t);have C2:=hid (show ∀(W:World) (D:Option Addr) (q:Nat),Calls Try.prog 10 #[.int .i64 key,.slice D 0 q] W (fun e w'=>e=.returned (.int .i64 y)/\Below W.heap.size W w') from fun W D q=>by have t:=Ak key D 0 q [] W (Ints.nil W D) (by omega); rw[hy] at t; exact t);clear hx hy hne e1;go_wp2_with fail;refine(C1.out _ _ _).mono ?_;rintro e w4 ⟨rfl,B4⟩
 have H4:=hid (Ad (Aa H2.out _) B4);clear B4 C1;go_wp2_with fail;refine(C2.out _ _ _).mono ?_;rintro e w5 ⟨rfl,B5⟩;have H5:=hid (Ad (Aa H4.out _) B5);clear B5 C2;go_wp2
 all_goals
  go_ret
  first | exact⟨rfl,(by repeat (first | with_reducible exact H5.out | with_reducible refine Ae ?_ _ _ _ (by omega) | with_reducible refine Aa ?_ _ | with_reducible refine Ab ?_))⟩ | exact⟨Af (decide_eq_true (by omega)),(by repeat (first | with_reducible exact H5.out | with_reducible refine Ae ?_ _ _ _ (by omega) | with_reducible refine Aa ?_ _ | with_reducible refine Ab ?_))⟩ | exact⟨Af (by simp; omega),(by repeat (first | with_reducible exact H5.out | with_reducible refine Ae ?_ _ _ _ (by omega) | with_reducible refine Aa ?_ _ | with_reducible refine Ab ?_))⟩
end Go.Proofs.Ytienbaikhliniaa
