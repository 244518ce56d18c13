import Derived.Test.YtflmmdljkhdjlaaZLevS
set_option linter.all false
set_option maxRecDepth 100000
set_option maxHeartbeats 8000000
open Go.Lib
namespace Go.Proofs.Ytflmmdljkhdjlaa
namespace M
structure In where
 s:Int
 p:Int
 z:Bool
def iz:In:=⟨0,0,false⟩
def Bp(s p:Int)(z:Bool):Bool:=Aw s (-1) 1&&Aw p 0 2&&(!z||(decide (s=0)&&decide (p=0)))
theorem Km{s p:Int}{z:Bool}(h:Aw s (-1) 1=false):Bp s p z=false:=by simp[Bp,h]
theorem MF{s p:Int}{z:Bool}(h:Aw p 0 2=false):Bp s p z=false:=by simp[Bp,h]
theorem CQ{s p:Int}{z:Bool}(h:Bp s p z=true):(-1<=s/\s<=1)/\(0<=p/\p<=2)/\(z=true->s=0/\p=0):=by
 simp only[Bp,Aw,Bool.and_eq_true,decide_eq_true_eq,Bool.or_eq_true,Bool.not_eq_true'] at h;refine⟨h.1.1,h.1.2,fun e=>?_⟩;rcases h.2 with g | g
 . rw[e] at g; cases g
 . exact g
def FC(s p:Int)(z:Bool):Int:=if z then 9 else 3*p+s+1
def KP(s p:Int)(z:Bool):Int:=if Bp s p z then FC s p z else -1
theorem KQ{s p:Int}{z:Bool}(h:Bp s p z=false):KP s p z=-1:=by simp[KP,h]
theorem DX{s p:Int}{z:Bool}(h:Bp s p z=true):KP s p z=FC s p z:=by simp[KP,h]
def D5(b s0 s p:Int)(z:Bool):Bool:=Bp s p z&&!(z&&JA b 2)&&!(decide (p=2)&&JA b 1)&&Aw (s-s0) (-1) 1
end M
end Go.Proofs.Ytflmmdljkhdjlaa
namespace Go.Proofs.Ytflmmdljkhdjlaa
open Go.RowKit
open M
abbrev BH(s p:Int)(z:Bool):Value:=.agg #[.int .i64 s,.int .i64 p,.bool z]
abbrev AN(s p:Int)(z:Bool):List Value:=[.int .i64 s,.int .i64 p,.bool z]
theorem Jv{s:Int}(h:Aw s (-1) 1=true):s=-1\/s=0\/s=1:=by
 have:-1<=s/\s<=1:=by simpa[Aw] using h
 omega
theorem Jw{p:Int}(h:Aw p 0 2=true):p=0\/p=1\/p=2:=by
 have:0<=p/\p<=2:=by simpa[Aw] using h
 omega
theorem B8(s p:Int)(z:Bool)(w:World):Calls Try.prog 81 #[BH s p z] w fun e w'=>e=.returned (.bool (Bp s p z))/\Below w.heap.size w w':=by
 cases h1:Aw s (-1) 1
 . have E:=hid (Km (p:=p) (z:=z) h1);have hA:=hid h1;clear h1;go_enter Try.func81,Try.ntmps81;go_wp2_with fail;refine(Aj _ _ _ _ _ hA.out).mono ?_;rintro e w' ⟨rfl,rfl⟩;go_wp2;go_ret;exact⟨Al (by rw[E.out]),Ab (Ac w) _⟩
 cases h2:Aw p 0 2
 . have E:=hid (MF (s:=s) (z:=z) h2);have hA:=hid h1;have hB:=hid h2;clear h1 h2;go_enter Try.func81,Try.ntmps81;go_wp2_with fail;refine(Aj _ _ _ _ _ hA.out).mono ?_;rintro e w' ⟨rfl,rfl⟩;go_wp2_with fail;refine(Aj _ _ _ _ _ hB.out).mono ?_;rintro e w' ⟨rfl,rfl⟩;go_wp2;go_ret;exact⟨Al (by rw[E.out]),Ab (Ac w) _⟩
 rcases Jv h1 with rfl | rfl | rfl<;>rcases Jw h2 with rfl | rfl | rfl<;>cases z
 all_goals
  clear h1 h2;go_enter Try.func81,Try.ntmps81;go_wp2_with fail;refine(Aj _ _ _ true _ (by decide)).mono ?_;rintro e w' ⟨rfl,rfl⟩;go_wp2_with fail;refine(Aj _ _ _ true _ (by decide)).mono ?_;rintro e w' ⟨rfl,rfl⟩;go_wp2;go_ret;exact⟨Al (by decide),Ab (Ac w) _⟩
theorem EQ(s p:Int)(z:Bool)(w:World)(h:Bp s p z=true):Calls Try.prog 82 #[BH s p z] w fun e w'=>e=.returned (.int .i64 (FC s p z))/\Below w.heap.size w w':=by
 obtain⟨⟨s1,s2⟩,⟨p1,p2⟩,_⟩:=CQ h;clear h;cases z
 . go_enter Try.func82,Try.ntmps82;go_wp2;go_ret;exact⟨rfl,Ab (Ac w) _⟩
 . go_enter Try.func82,Try.ntmps82;go_wp2;go_ret;exact⟨rfl,Ab (Ac w) _⟩
open Go.RowKit
open M
open Go.RowKit
open M
end Go.Proofs.Ytflmmdljkhdjlaa
