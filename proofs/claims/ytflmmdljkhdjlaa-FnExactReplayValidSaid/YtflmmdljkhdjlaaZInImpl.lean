import Derived.Test.YtflmmdljkhdjlaaZBans
import Derived.Test.YtflmmdljkhdjlaaZInRow
import Derived.Test.YtflmmdljkhdjlaaZLevLink
set_option linter.all false
set_option maxRecDepth 100000
set_option maxHeartbeats 8000000
open Go.Lib
namespace Go.Proofs.Ytflmmdljkhdjlaa
open Go.RowKit
open Go.Maps
open M
theorem Ea(s p:Int)(z:Bool)(w:World):Calls Try.prog 65 #[BH s p z] w fun e w'=>e=.returned (.bool (Bp s p z))/\Below w.heap.size w w':=by
 cases z
 . by_cases s0:s< -1
   . have ds:decide ((-1:Int)<=s)=false:=decide_eq_false (by omega);have E:=hid (show Bp s p false=false by simp[Bp,Iq s0]);go_enter Try.func65,Try.ntmps65;go_wp2;go_ret;exact⟨Al (by rw[E.out]),Ab (Ac w) _⟩
   have s0:-1<=s:=by omega
   by_cases s1:1<s
   . have ds:decide (s<=(1:Int))=false:=decide_eq_false (by omega);have E:=hid (show Bp s p false=false by simp[Bp,GL s1]);go_enter Try.func65,Try.ntmps65;go_wp2;go_ret;exact⟨Al (by rw[E.out]),Ab (Ac w) _⟩
   have s1:s<=1:=by omega
   by_cases p0:p<0
   . have dp:decide ((0:Int)<=p)=false:=decide_eq_false (by omega);have E:=hid (show Bp s p false=false by simp[Bp,Iq p0]);go_enter Try.func65,Try.ntmps65;go_wp2;go_ret;exact⟨Al (by rw[E.out]),Ab (Ac w) _⟩
   have p0:0<=p:=by omega
   by_cases p1:2<p
   . have dp:decide (p<=(2:Int))=false:=decide_eq_false (by omega);have E:=hid (show Bp s p false=false by simp[Bp,GL p1]);go_enter Try.func65,Try.ntmps65;go_wp2;go_ret;exact⟨Al (by rw[E.out]),Ab (Ac w) _⟩
   have p1:p<=2:=by omega
   have E:=hid (show Bp s p false=true by simp[Bp,CV (n:=s) (lo:=-1) (hi:=1) ⟨s0,s1⟩,CV (n:=p) (lo:=0) (hi:=2) ⟨p0,p1⟩]);go_enter Try.func65,Try.ntmps65;go_wp2;go_ret;exact⟨Al (by rw[E.out]),Ab (Ac w) _⟩
 . by_cases hs:s=0
   . subst hs;by_cases hp:p=0
     . subst hp;have E:=hid (show Bp 0 0 true=true by decide);go_enter Try.func65,Try.ntmps65;go_wp2;go_ret;exact⟨Al (by rw[E.out]),Ab (Ac w) _⟩
     . have dp:(p==0)=false:=beq_eq_false_iff_ne.2 hp;have E:=hid (show Bp 0 p true=false by simp[Bp,hp]);clear hp;go_enter Try.func65,Try.ntmps65;go_wp2;go_ret;exact⟨Al (by rw[E.out]),Ab (Ac w) _⟩
   . have ds:(s==0)=false:=beq_eq_false_iff_ne.2 hs;have E:=hid (show Bp s p true=false by simp[Bp,hs]);clear hs;go_enter Try.func65,Try.ntmps65;go_wp2;go_ret;exact⟨Al (by rw[E.out]),Ab (Ac w) _⟩
theorem Cq(s p:Int)(z:Bool)(w:World):Calls Try.prog 24 #[BH s p z] w fun e w'=>e=.returned (.int .i64 (KP s p z))/\Below w.heap.size w w':=by
 have V:=fun W=>Ea s p z W;cases h:Bp s p z
 . rw[h] at V;have E:=hid (KQ h);have V:=hid V;clear h;go_enter Try.func24,Try.ntmps24;go_wp2_with fail;refine(V.out _).mono ?_;rintro e w1 ⟨rfl,B⟩;have H:=hid (Aa (Ab (Ac w) _) B);clear B;go_wp2;go_ret;exact⟨AY (by rw[E.out]),H.out⟩
 . obtain⟨⟨s1,s2⟩,⟨p1,p2⟩,hz⟩:=CQ h;rw[h] at V;have E:=hid (DX h);have V:=hid V;clear h;cases z
   . clear hz;go_enter Try.func24,Try.ntmps24;go_wp2_with fail;refine(V.out _).mono ?_;rintro e w1 ⟨rfl,B⟩;have P:CellsAt w1 w.heap.size (AN s p false):=(CellsAt.new w _ _ _ rfl).step B;have H:=hid (Aa (Ab (Ac w) _) B);clear B;obtain⟨c0,c1,c2⟩:=BD P;have l1:=P.lt;go_wp2;go_ret;exact⟨AY (by rw[E.out]; rfl),H.out⟩
   . obtain⟨rfl,rfl⟩:=hz rfl;go_enter Try.func24,Try.ntmps24;go_wp2_with fail;refine(V.out _).mono ?_;rintro e w1 ⟨rfl,B⟩;have P:CellsAt w1 w.heap.size (AN 0 0 true):=(CellsAt.new w _ _ _ rfl).step B;have H:=hid (Aa (Ab (Ac w) _) B);clear B;obtain⟨c0,c1,c2⟩:=BD P;have l1:=P.lt;go_wp2;go_ret;exact⟨AY (by rw[E.out]; rfl),H.out⟩
end Go.Proofs.Ytflmmdljkhdjlaa
