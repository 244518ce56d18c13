import Derived.Test.YtbeohbhhmcjokaaZDrB
import Derived.OneCell
import Derived.Deep.AppendLies
import Derived.Deep.RegionLaw
import Derived.Test.YtbeohbhhmcjokaaZEng
import Derived.Test.YtbeohbhhmcjokaaZEnB
set_option linter.all false
set_option maxRecDepth 100000
set_option maxHeartbeats 8000000
namespace Go.Proofs.Ytbeohbhhmcjokaa
open Go.RowKit
open M
def Cel(w:World)(A:Option Addr):Prop:=∀ a,A=some a->a.spot=none/\∃ c t f,w.heap[a.block]?=some (.cells c t f)
theorem Cel.of{w w':World}{A:Option Addr}(h:Cel w A)(e:∀ a,A=some a->w'.heap[a.block]?=w.heap[a.block]?):Cel w' A:=fun a ha=>by
 obtain⟨h1,c,t,f,h2⟩:=h a ha;exact⟨h1,c,t,f,(e a ha).trans h2⟩
theorem Cel.lt{w:World}{A:Option Addr}(h:Cel w A){a:Addr}(ha:A=some a):a.block<w.heap.size:=by
 obtain⟨_,c,t,f,h2⟩:=h a ha;exact(Array.getElem?_eq_some_iff.1 h2).1
theorem Cel.kept{r:Nat}{w w':World}{A:Option Addr}(h:Cel w A)(K:Kept r w w')(hr:∀ g off,A=some ⟨g,off,none⟩->g≠r):Cel w' A:=h.of fun a ha=>K.block _ (h.lt ha) (hr a.block a.off (by rw[ha]; obtain⟨b,o,s⟩:=a; obtain⟨e,_⟩:=h _ ha; cases e; rfl))
theorem Cel.of_own{w:World}{base:Nat}{e:TypeId}{sz:Nat}{A:Option Addr}{n c:Nat}{xs:List Value}{m:Nat}(h:w.ownsRow base e sz (.slice A n c) m xs):Cel w A:=fun a ha=>by
 rcases h.2 with⟨h0,_⟩ | ⟨g,cap,cur,h0,_,h2,_⟩
 . cases h0; cases ha
 . cases h0; cases ha; exact⟨rfl,_,_,_,h2⟩
theorem Boxes.grown{W w':World}{A:Option Addr}{n:Nat}{bs:List Bx}{row:Option Nat}(h:Boxes W A n bs)(hg:W.grownBy w' row)(hr:0<n->∀ k off,A=some ⟨k,off,none⟩->row≠some k):Boxes w' A n bs :=
 ⟨h.1,fun hn=>by
  obtain⟨b,off,e,hb,hc⟩:=h.2 hn;exact⟨b,off,e,Nat.lt_of_lt_of_le hb hg.size,fun k hk=>(hc k hk).of (hg.block b hb (fun e'=>hr hn b off e e'.symm))⟩⟩
theorem PCell.grown{W w':World}{b:Nat}{x y:Int}{row:Option Nat}(h:PCell W b x y)(hg:W.grownBy w' row)(hr:row≠some b):PCell w' b x y:=h.of (hg.block b h.lt (fun e=>hr e.symm)) hg.size
open Go.RowKit
open M
theorem Gm{P:Program}{ops:Array Oper}{rest:List Oper}{o:Oper}{a:Act}{w:World}{Q:Exit->Act->World->Prop}(hw:Region.wanted o (yielded ops a.tmps)=true)(ty:TypeId)(x:Operand)(ho:o.op=.load ty x)
 (b:Nat) (hx:a.eval x=.pointer (some ⟨b,0,none⟩)) (vs:List Value) (L:CellsAt w b vs) {d:TypeDesc} (hu:P.underlying ty=some d) (hd:d.isRow=true) (hi:(P.info? ty).map (·.size)=some vs.length)
 (h:wpList P ops Q rest (a.put o.dst (.agg vs.toArray)) w):wpList P ops Q (o::rest) a w:=by
 simp only[wpList,hw,if_true];exact .inl (wp_load_mid ty x ho b 0 hx vs d L.range hu hd hi h)
structure Lv where
 i:Int
 t:Int
 x:Int
 y:Int
 A:Option Addr
 n:Nat
 c:Nat
 G:Option Addr
 m:Nat
 kk:Nat
 fp:Int
 fq:Int
 fs:Int
 fz:Int
 b:Int
 ws:List Bx
 gs:List Bx
abbrev Lv.cs(L:Lv):List Value:=AV L.i L.t L.x L.y L.A L.n L.c L.G L.m L.kk L.fp L.fq L.fs L.fz L.b
abbrev Lv.val(L:Lv):Value:=E2 L.i L.t L.x L.y L.A L.n L.c L.G L.m L.kk L.fp L.fq L.fs L.fz L.b
def Lv.ok(L:Lv):Bool:=AW L.i L.t L.x L.y L.ws L.gs L.fp L.fq L.fs L.fz L.b
structure Lv.At(L:Lv)(w:World):Prop where
 I:Boxes w L.A L.n L.ws
 J:Boxes w L.G L.m L.gs
 n:L.n<=281474976710656
 m:L.m<=281474976710656
 ca:Cel w L.A
 cg:Cel w L.G
abbrev M.sva(s:St):Value:=H8 s.k s.ax s.ay s.fx s.fy s.u s.g s.d s.o
abbrev M.z0:St:=⟨0,0,0,0,0,0,0,false,false⟩
def Lv.s0(L:Lv):St:=if L.ok then ⟨0,L.x,L.y,0,0,0,0,false,false⟩ else z0
def Lv.nx(L:Lv)(s:St)(q:In):St:=esS L.i L.t L.x L.y L.ws L.gs L.fp L.fq L.fs L.fz L.b s.k s.ax s.ay s.fx s.fy s.u s.g s.d s.o q.s q.p q.z
def Lv.run(L:Lv)(xs:List In):St:=xs.foldl L.nx L.s0
def Lv.tail(L:Lv)(s:St):List In->List Value
 | []=>[]
 | q::xs=>sva (L.nx s q)::L.tail (L.nx s q) xs
def H7(L:Lv)(xs:List In)(n:Nat)(k0:Int):Bool:=decide (0<=k0)&&(decide (k0<=n)&&decide (Il L.i L.t L.x L.y L.ws L.gs L.fp L.fq L.fs L.fz L.b xs=-1))
def Lv.fin(L:Lv)(xs:List In)(n:Nat)(k0:Int):St:=if H7 L xs n k0 then L.run (xs.take k0.toNat) else z0
open Go.RowKit
open M
structure M.Tk where
 L:Lv
 D:Option Addr
 l:Nat
 cc:Nat
 es:List En
abbrev M.Tk.cs(q:Tk):List Value:=q.L.cs++[.slice q.D q.l q.cc]
structure M.Tk.At(q:Tk)(w:World):Prop where
 I:Boxes w q.L.A q.L.n q.L.ws
 J:Boxes w q.L.G q.L.m q.L.gs
 E:Ents w q.D q.l q.es
 n:q.L.n<=281474976710656
 m:q.L.m<=281474976710656
 l:q.l<=281474976710656
theorem M.Tk.At.step{q:Tk}{w w':World}(h:q.At w)(B:Below w.heap.size w w'):q.At w':=⟨h.I.step B,h.J.step B,h.E.step B,h.n,h.m,h.l⟩
structure Tracks(w:World)(A:Option Addr)(n:Nat)(ts:List Tk):Prop where
 len:ts.length=n
 at_:0<n->∃ b off,A=some ⟨b,off,none⟩/\b<w.heap.size/\∀ k q,ts[k]?=some q->w.rangeAt b (off+k*12) q.cs
 all:∀ q∈ts,q.At w
theorem Av{w w':World}{b o:Nat}{vs:List Value}(h:w.rangeAt b o vs)(e:w'.heap[b]?=w.heap[b]?):w'.rangeAt b o vs:=fun j v hj=>(World.cell?_of_block (a:=⟨b,o+j,none⟩) e).trans (h j v hj)
theorem Tracks.step{w w':World}{A:Option Addr}{n:Nat}{ts:List Tk}(h:Tracks w A n ts)(B:Below w.heap.size w w'):Tracks w' A n ts :=
 ⟨h.len,fun hn=>by
  obtain⟨b,off,e,hb,hc⟩:=h.at_ hn;exact⟨b,off,e,Nat.lt_of_lt_of_le hb B.size,fun k q hq=>Av (hc k q hq) (B.block b hb)⟩,fun q hq=>(h.all q hq).step B⟩
theorem Tracks.alloc{w:World}{A:Option Addr}{n:Nat}{ts:List Tk}(h:Tracks w A n ts)(o:Obj):Tracks (w.alloc o) A n ts:=h.step (Ab (Ac w) o)
theorem Tracks.drew{w:World}{A:Option Addr}{n:Nat}{ts:List Tk}(h:Tracks w A n ts):Tracks w.drew A n ts:=h.step (Ac w).drew
theorem Tracks.nil(w:World)(A:Option Addr):Tracks w A 0 []:=⟨rfl,fun h=>absurd h (by omega),fun q hq=>by cases hq⟩
def M.tz:Lv:=⟨0,0,0,0,none,0,0,none,0,0,0,0,0,0,0,[],[]⟩
def M.kz:Tk:=⟨tz,none,0,0,[]⟩
def M.tkB(ks:List Int)(ts:List Tk)(k:Nat):Bool :=
 (ts.getD k kz).L.ok&&CF (ts.getD k kz).es&&(decide (k=0)||decide ((ts.getD (k-1) kz).L.i<(ts.getD k kz).L.i))&&(ts.getD k kz).es.all (fun e=>ks.getD e.p.toNat 0 != 0)
def M.svB(ts:List Tk)(ks gs:List Int):Bool :=
 decide (ks.length=10/\ts.length<=4/\gs.length<=12)&&ks.all (fun k=>Al k 0 9999)&&(List.range ts.length).all (tkB ks ts)&&gs.all Fs
def M.tkn:List Tk->Int->Nat
 | [],_=>0
 | q::ts,i=>if q.L.i=i then 0 else tkn ts i+1
def M.tki(ts:List Tk)(i:Int):Int:=if tkn ts i<ts.length then (tkn ts i:Int) else -1
theorem As:(Try.prog.info? 84).map (·.size)=some 12:=by kernel_rfl
theorem Aw:(Try.prog.info? 27).map (·.size)=some 3:=by kernel_rfl
end Go.Proofs.Ytbeohbhhmcjokaa
