import Derived.Test.YtbeohbhhmcjokaaZRowS
import Derived.Test.YtbeohbhhmcjokaaZCelS
import Derived.Great.BuildSlice
set_option linter.all false
set_option maxRecDepth 100000
set_option maxHeartbeats 8000000
namespace Go.Proofs.Ytbeohbhhmcjokaa
open Go.RowKit
open M
theorem CellsAt.grown{W w':World}{b:Nat}{vs:List Value}{row:Option Nat}(h:CellsAt W b vs)(hg:W.grownBy w' row)(hr:row≠some b):CellsAt w' b vs :=
 h.of (hg.block b h.lt (fun e=>hr e.symm)) hg.size
open Go.RowKit
open M
def GY(bs:List Bx):List Value:=(flat bs).map (Value.int .i64)
def comp(q:Bx):Nat->Int
 | 0=>q.a
 | 1=>q.b
 | 2=>q.c
 | _=>q.d
theorem Eo:∀(bs:List Bx) (k r:Nat),k<bs.length->r<4->(flat bs)[k*4+r]?=some (comp (bs.getD k bz) r)
 | [],k,r,h,_=>absurd h (by simp)
 | q::bs,0,r,_,hr=>by
  match r,hr with
  | 0,_=>rfl
  | 1,_=>rfl
  | 2,_=>rfl
  | 3,_=>rfl
 | q::bs,k+1,r,h,hr=>by
  have t:=Eo bs k r (by simpa using h) hr;have e:(k+1)*4+r=(k*4+r)+1+1+1+1:=by omega
  rw[e];simp only[flat,List.getElem?_cons_succ];rw[t];rfl
theorem Fp{bs:List Bx}{k r:Nat}(hk:k<bs.length)(hr:r<4):(GY bs)[k*4+r]?=some (.int .i64 (comp (bs.getD k bz) r)):=by
 unfold GY;rw[List.getElem?_map,Eo bs k r hk hr];rfl
theorem Ep(bs:List Bx):(GY bs).length=bs.length*4:=by
 unfold GY;rw[List.length_map,Fw,Nat.mul_comm]
theorem BoxAt.comp{w:World}{b o:Nat}{q:Bx}(h:BoxAt w b o q){r:Nat}(hr:r<4):w.cell? ⟨b,o+r,none⟩=some (.int .i64 (comp q r)):=by
 match r,hr with
 | 0,_=>exact h.c0
 | 1,_=>exact h.c1
 | 2,_=>exact h.c2
 | 3,_=>exact h.c3
theorem Boxes.news{w:World}{b off m:Nat}{bs:List Bx}(I:Boxes w (some ⟨b,off,Option.none⟩) m bs):∀ j u,(GY bs)[j]?=some u->w.cell? ((⟨b,off,Option.none⟩:Addr).add j)=some u:=by
 intro j u hj;have hl:j<bs.length*4:=by
  rw[<- Ep];rcases Nat.lt_or_ge j (GY bs).length with h | h
  . exact h
  . rw[List.getElem?_eq_none h] at hj; cases hj
 obtain⟨b',off',e,_,hc⟩:=I.2 (by have:=I.1; omega);cases e
 have ej:j=(j / 4)*4+j % 4:=by omega
 have hk:j / 4<bs.length:=by omega
 rw[ej,Fp hk (by omega)] at hj;cases hj
 rw[Addr.add_lit];have t:=(hc (j / 4) (by have:=I.1; omega)).comp (r:=j % 4) (by omega);rw[Nat.add_assoc,<- ej] at t;exact t
theorem Boxes.of_own{w:World}{base:Nat}{e:TypeId}{v:Value}{n:Nat}{bs:List Bx}(h:w.ownsRow base e 4 v n (GY bs)):∃ A cap,v=.slice A n cap/\Boxes w A n bs/\(∀ g off,A=some ⟨g,off,none⟩->base<=g):=by
 have hl:bs.length=n:=by have:=h.1; rw[Ep] at this; omega
 have h0:=h;rcases h0.2 with⟨rfl,rfl⟩ | ⟨g,cap,cur,rfl,hbg,hh,_⟩
 . exact⟨none,0,rfl,⟨hl,fun hn=>by omega⟩,fun g off e=>by cases e⟩
 . refine⟨_,_,rfl,⟨hl,fun _=>⟨g,0,rfl,(h.lt g rfl).2,fun k hk=>?_⟩⟩,fun g' off e=>by cases e; exact hbg⟩;have hc:∀ r,r<4->w.cell? ⟨g,0+k*4+r,none⟩=some (.int .i64 (comp (bs.getD k bz) r)):=fun r hr=>by
    rw[Nat.zero_add,h.cellAt (k*4+r) (by omega),Fp (by omega) hr]
   exact⟨hc 0 (by omega),hc 1 (by omega),hc 2 (by omega),hc 3 (by omega)⟩
theorem Boxes.kept{w w':World}{A:Option Addr}{n r:Nat}{bs:List Bx}(h:Boxes w A n bs)(K:Kept r w w')(hA:0<n->∀ k off,A=some ⟨k,off,none⟩->k≠r):Boxes w' A n bs :=
 ⟨h.1,fun hn=>by
  obtain⟨b,off,e,hb,hc⟩:=h.2 hn;exact⟨b,off,e,Nat.lt_of_lt_of_le hb K.size,fun k hk=>(hc k hk).of (K.block b hb (hA hn b off e))⟩⟩
theorem Boxes.lt{w:World}{A:Option Addr}{n:Nat}{bs:List Bx}(h:Boxes w A n bs)(hn:0<n):∀ k off,A=some ⟨k,off,none⟩->k<w.heap.size:=fun k off e=>by
 obtain⟨b,off',e',hb,_⟩:=h.2 hn;rw[e'] at e;cases e
 exact hb
theorem Fq:(Try.prog.info? 56).map (fun i=>(i.zero,i.size,i.bytes))=some (some (box 0 0 0 0),4,32):=by kernel_rfl
theorem Boxes.one(w:World)(B:Nat)(a b c d:Int)(t:TypeId)(hB:B=w.heap.size):Boxes (w.alloc (.cells #[.int .i64 a,.int .i64 b,.int .i64 c,.int .i64 d] t)) (some ⟨B,0,none⟩) 1 [⟨a,b,c,d⟩] :=
 hB▸⟨rfl,fun _=>⟨w.heap.size,0,rfl,by simp,fun k hk=>by
  match k,hk with
  | 0,_=>exact⟨by simp,by simp,by simp,by simp⟩⟩⟩
end Go.Proofs.Ytbeohbhhmcjokaa
namespace Go.Proofs.Ytbeohbhhmcjokaa
namespace M
structure In where
 s:Int
 p:Int
 z:Bool
def HQ(s p:Int)(z:Bool):Bool:=Al s (-1) 1&&Al p 0 2&&(!z||(decide (s=0)&&decide (p=0)))
def Ia(b s0 s p:Int)(z:Bool):Bool:=HQ s p z&&!(z&&HX b 2)&&!(decide (p=2)&&HX b 1)&&Al (s-s0) (-1) 1
end M
end Go.Proofs.Ytbeohbhhmcjokaa
namespace Go.Proofs.Ytbeohbhhmcjokaa
open Go.RowKit
open M
open Go.RowKit
open M
open Go.RowKit
open M
open Go.RowKit
open M
end Go.Proofs.Ytbeohbhhmcjokaa
namespace Go.Proofs.Ytbeohbhhmcjokaa
namespace M
structure St where
 k:Int
 ax:Int
 ay:Int
 fx:Int
 fy:Int
 u:Int
 g:Int
 d:Bool
 o:Bool
def Ib(fx fy u p:Int):Int:=if p=1 then Im (fx+mu (HG u) 200) (fy+mu (HH u) 200) 2000 else if p=2 then mu fx 700 else mu fx 950
def Ic(fx fy u p:Int):Int:=if p=1 then Io (fx+mu (HG u) 200) (fy+mu (HH u) 200) 2000 else if p=2 then mu fy 700 else mu fy 950
def HR(ok:Bool)(a f:Int):Int:=if ok then a+f else a
def HT(ok:Bool)(f:Int):Int:=if ok then f else -f.tdiv 2
def Ie(ws:List Bx)(s:St):St :=
 let p:=Ca ws (s.ax+s.fx) s.ay
 let x:=HR p s.ax s.fx
 let q:=Ca ws x (s.ay+s.fy)
 ⟨s.k,x,HR q s.ay s.fy,HT p s.fx,HT q s.fy,s.u,s.g,s.d,s.o⟩
def Ig(gs:List Bx)(g x y:Int):Bool:=decide (g<gs.length)&&HP (gs.getD g.toNat bz).a (gs.getD g.toNat bz).b (gs.getD g.toNat bz).c (gs.getD g.toNat bz).d x y
def HU(gs:List Bx)(g x y:Int):Int:=if Ig gs g x y then g+1 else g
def Ih(ws:List Bx)(s:St)(t p:Int):St:=Ie ws ⟨s.k,s.ax,s.ay,Ib s.fx s.fy ((s.u+t) % 16) p,Ic s.fx s.fy ((s.u+t) % 16) p,(s.u+t) % 16,s.g,s.d,s.o⟩
def Ii(ws gs:List Bx)(p q r z:Int)(s:St)(t pw:Int):St :=
 let a:=Ih ws s t pw
 if Am a.ax a.ay then ⟨a.k,a.ax,a.ay,a.fx,a.fy,a.u,HU gs a.g a.ax a.ay,decide (HU gs a.g a.ax a.ay=gs.length)&&HP p q r z a.ax a.ay,a.o⟩
 else ⟨s.k,s.ax,s.ay,s.fx,s.fy,s.u,s.g,s.d,true⟩
def Ij(ws gs:List Bx)(p q r z:Int)(s:St)(x:In):St :=
 if s.d||s.o then s
 else if x.z then ⟨s.k+1,s.ax,s.ay,s.fx,s.fy,s.u,s.g,s.d,s.o⟩
 else Ii ws gs p q r z ⟨s.k+1,s.ax,s.ay,s.fx,s.fy,s.u,s.g,s.d,s.o⟩ x.s x.p
end M
end Go.Proofs.Ytbeohbhhmcjokaa
namespace Go.Proofs.Ytbeohbhhmcjokaa
namespace M
def HV(ps:Int)(z:Bool):Int:=if z then ps+1 else ps
def HK(t b i ps s0:Int)(q:In):Bool:=decide (t<=i)||decide (3<HV ps q.z)||!Ia b s0 q.s q.p q.z
def HW(t b:Int):List In->Int->Int->Int->Int
 | [],_,_,_=>-1
 | q::xs,i,ps,s0=>if HK t b i ps s0 q then i else HW t b xs (i+1) (HV ps q.z) q.s
def Ik(t b:Int)(xs:List In):Int:=HW t b xs 0 0 0
def Il(i t x y:Int)(ws gs:List Bx)(fp fq fs fz b:Int)(xs:List In):Int:=if AW i t x y ws gs fp fq fs fz b then Ik t b xs else 0
end M
end Go.Proofs.Ytbeohbhhmcjokaa
namespace Go.Proofs.Ytbeohbhhmcjokaa
open Go.RowKit
open M
theorem AP{W:World}{base lo:Nat}{e:TypeId}{sz:Nat}{v:Value}{n:Nat}{xs:List Value}(h:W.ownsRow base e sz v n xs)(hb:lo<=base):W.ownsRow lo e sz v n xs :=
 ⟨h.1,h.2.imp id (fun⟨g,cap,cur,e1,hg,r⟩=>⟨g,cap,cur,e1,Nat.le_trans hb hg,r⟩)⟩
end Go.Proofs.Ytbeohbhhmcjokaa
namespace Go.Proofs.Ytbeohbhhmcjokaa
namespace M
abbrev Tx:=List UInt8
def cut(a:UInt8):Tx->List Tx
 | []=>[[]]
 | b::s=>if b=a then []::cut a s else (b::(cut a s).headD [])::(cut a s).tail
def Fs(n:Int):Bool:=Al n 0 1000002
end M
end Go.Proofs.Ytbeohbhhmcjokaa
