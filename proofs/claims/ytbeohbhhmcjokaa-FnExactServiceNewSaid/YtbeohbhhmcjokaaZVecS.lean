import Derived.Test.YtbeohbhhmcjokaaZNum
import Derived.Below
import Derived.Deep.RegionWith
import Derived.RegionTactic
import Derived.BigQuiet
import Derived.Deep.QuietTactic
set_option linter.all false
set_option maxRecDepth 100000
set_option maxHeartbeats 8000000
open Go.Lib
namespace Go.Proofs.Ytbeohbhhmcjokaa
namespace M
def Am(x y:Int):Bool:=Al x (-1000000) 1000000&&Al y (-1000000) 1000000
theorem ED{x y:Int}(h:Al x (-1000000) 1000000=false):Am x y=false:=by simp[Am,h]
theorem DL{x y:Int}(h:Al x (-1000000) 1000000=true):Am x y=Al y (-1000000) 1000000:=by simp[Am,h]
theorem AB(x y:Int):Am x y=true↔(-1000000<=x/\x<=1000000)/\(-1000000<=y/\y<=1000000):=by simp[Am,Al]
def mu(a b:Int):Int:=(a*b).tdiv 1000
def vl(x y:Int):Int:=sq (x*x+y*y)
def dirs:List Int:=[1000,924,707,383,0,-383,-707,-924,-1000,-924,-707,-383,0,383,707,924]
def HG(d:Int):Int:=if Al d 0 15 then dirs.getD d.toNat 0 else 0
def HH(d:Int):Int:=if Al d 0 15 then dirs.getD ((d.toNat+12) % 16) 0 else 0
def HY(x y m:Int):Bool:=Am x y&&Al m 0 1000000
def Im(x y m:Int):Int:=if HY x y m then (if vl x y<=m then x else (x*m).tdiv (vl x y)) else 0
def Io(x y m:Int):Int:=if HY x y m then (if vl x y<=m then y else (y*m).tdiv (vl x y)) else 0
end M
end Go.Proofs.Ytbeohbhhmcjokaa
namespace Go.Proofs.Ytbeohbhhmcjokaa
open Go.RowKit
open M
abbrev Ce(x y:Int):Value:=.agg #[.int .i64 x,.int .i64 y]
theorem Ae{W w1:World}(hb:Below W.heap.size W w1):(∀ b o,b<W.heap.size->w1.cell? ⟨b,o,none⟩=W.cell? ⟨b,o,none⟩)/\(∀ b o,b<W.heap.size->w1.frozen? ⟨b,o,none⟩=W.frozen? ⟨b,o,none⟩) :=
 ⟨fun b o h=>hb.cell (p:=⟨b,o,none⟩) h,fun b o h=>hb.frozen (p:=⟨b,o,none⟩) h⟩
theorem Ab{w a:World}(h:Below w.heap.size w a)(o:Obj):Below w.heap.size w (a.alloc o):=h.alloc h.size o
theorem Ag{w a:World}(h:Below w.heap.size w a)(b o:Nat)(v:Value)(hp:w.heap.size<=b):Below w.heap.size w (a.setCell ⟨b,o,none⟩ v):=h.setCell (p:=⟨b,o,none⟩) hp v
theorem Aa{w a b:World}(h:Below w.heap.size w a)(k:Below a.heap.size a b):Below w.heap.size w b:=h.trans (k.mono h.size)
theorem Ar{w a:World}(h:Below w.heap.size w a)(n:Nat):Below w.heap.size w (a.drewN n):=h.trans ⟨rfl,rfl,rfl,Nat.le_refl _,fun _ _=>rfl⟩
theorem Ac(w:World):Below w.heap.size w w:=Below.refl _ _
theorem Aj(x y:Int)(w:World):Calls Try.prog 85 #[Ce x y] w fun e w'=>e=.returned (.bool (Am x y))/\Below w.heap.size w w':=by
 cases hx:Al x (-1000000) 1000000
 . have E:=hid (ED (y:=y) hx);go_enter Try.func85,Try.ntmps85;go_wp2_with (go_at_call 52; refine(A0 _ _ _ _).mono ?_; rintro e w' ⟨rfl,rfl⟩);go_ret;exact⟨Ad (by rw[E.out]),Ab (Below.refl _ _) _⟩
 . have E:=hid (DL (y:=y) hx);go_enter Try.func85,Try.ntmps85;go_wp2_with (go_at_call 52; refine(A0 _ _ _ _).mono ?_; rintro e w' ⟨rfl,rfl⟩);go_ret;exact⟨Ad (by rw[E.out]),Ab (Below.refl _ _) _⟩
end Go.Proofs.Ytbeohbhhmcjokaa
namespace Go.Proofs.Ytbeohbhhmcjokaa
namespace M
end M
end Go.Proofs.Ytbeohbhhmcjokaa
namespace Go.Proofs.Ytbeohbhhmcjokaa
open Go.RowKit
open M
open Go.RowKit
open M
end Go.Proofs.Ytbeohbhhmcjokaa
namespace Go.Proofs.Ytbeohbhhmcjokaa
namespace M
def Ip(h n:Int):Int:=(8191*h+n % 1000003+1) % 1000003
def Iq(h:Int)(xs:List Int):Int:=xs.foldl Ip h
theorem EY{xs:List Int}{k:Nat}(h:k<xs.length):xs.take (k+1)=xs.take k++[xs.getD k 0]:=by
 rw[List.take_succ_eq_append_getElem h,List.getD_eq_getElem?_getD,List.getElem?_eq_getElem h];rfl
def HM(xs:List Int):Bool:=xs.all okB&&decide (xs.length<=200)
def hI(xs:List Int):Int:=if HM xs then Iq 17 xs else -1
end M
end Go.Proofs.Ytbeohbhhmcjokaa
namespace Go.Proofs.Ytbeohbhhmcjokaa
open Go.RowKit
open M
def Ints(w:World)(A:Option Addr)(n:Nat)(xs:List Int):Prop :=
 xs.length=n/\(0<n->∃ b off,A=some ⟨b,off,none⟩/\b<w.heap.size/\∀ k,k<n->w.cell? ⟨b,off+k,none⟩=some (.int .i64 (xs.getD k 0)))
theorem Ints.step{w w':World}{A:Option Addr}{n:Nat}{xs:List Int}(h:Ints w A n xs)(B:Below w.heap.size w w'):Ints w' A n xs :=
 ⟨h.1,fun hn=>by
  obtain⟨b,off,e,hb,hc⟩:=h.2 hn;exact⟨b,off,e,Nat.lt_of_lt_of_le hb B.size,fun k hk=>(B.cell (p:=⟨b,off+k,none⟩) hb).trans (hc k hk)⟩⟩
theorem Ints.alloc{w:World}{A:Option Addr}{n:Nat}{xs:List Int}(h:Ints w A n xs)(o:Obj):Ints (w.alloc o) A n xs:=h.step (Ab (Ac w) o)
theorem Ai(n lo hi:Int)(b:Bool)(w:World)(h:Al n lo hi=b):Calls Try.prog 52 #[.int .i64 n,.int .i64 lo,.int .i64 hi] w fun e w'=>e=.returned (.bool b)/\w=w':=by
 subst h;exact A0 n lo hi w
end Go.Proofs.Ytbeohbhhmcjokaa
namespace Go.Proofs.Ytbeohbhhmcjokaa
namespace M
end M
end Go.Proofs.Ytbeohbhhmcjokaa
namespace Go.Proofs.Ytbeohbhhmcjokaa
open Go.RowKit
open M
theorem CW(n:Int)(w:World):Calls Try.prog 110 #[.int .i64 n] w fun e w'=>e=.returned (.bool (Al n (-1000000) 1000000))/\w=w':=by
 by_cases h1:-1000000<=n
 . by_cases h2:n<=1000000
   . have E:=hid (Bc (n:=n) ⟨h1,h2⟩);go_enter Try.func110,Try.ntmps110;go_wp2;go_ret;exact⟨Ad (by rw[E.out]),rfl⟩
   . have E:=hid (AZ (n:=n) (lo:=-1000000) (hi:=1000000) (by omega));go_enter Try.func110,Try.ntmps110;go_wp2;go_ret;exact⟨Ad (by rw[E.out]),rfl⟩
 . have E:=hid (AZ (n:=n) (lo:=-1000000) (hi:=1000000) (by omega));go_enter Try.func110,Try.ntmps110;go_wp2;go_ret;exact⟨Ad (by rw[E.out]),rfl⟩
theorem Ap(x y:Int)(w:World):Calls Try.prog 93 #[Ce x y] w fun e w'=>e=.returned (.bool (Am x y))/\Below w.heap.size w w':=by
 cases hx:Al x (-1000000) 1000000
 . have E:=hid (ED (y:=y) hx);go_enter Try.func93,Try.ntmps93;go_wp2_with (go_at_call 110; refine(CW _ _).mono ?_; rintro e w' ⟨rfl,rfl⟩);go_ret;exact⟨Ad (by rw[E.out]),Ab (Below.refl _ _) _⟩
 . have E:=hid (DL (y:=y) hx);go_enter Try.func93,Try.ntmps93;go_wp2_with (go_at_call 110; refine(CW _ _).mono ?_; rintro e w' ⟨rfl,rfl⟩);go_ret;exact⟨Ad (by rw[E.out]),Ab (Below.refl _ _) _⟩
open Go.RowKit
open M
open Go.RowKit
open M
end Go.Proofs.Ytbeohbhhmcjokaa
