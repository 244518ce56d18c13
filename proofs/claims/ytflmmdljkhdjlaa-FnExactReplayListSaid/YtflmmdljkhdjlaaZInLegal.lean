import Derived.Test.YtflmmdljkhdjlaaZInRow
set_option linter.all false
set_option maxRecDepth 100000
set_option maxHeartbeats 8000000
namespace Go.Proofs.Ytflmmdljkhdjlaa
namespace M
def Gx(ps:Int)(z:Bool):Int:=if z then ps+1 else ps
def Cf(t b i ps s0:Int)(q:In):Bool:=decide (t<=i)||decide (3<Gx ps q.z)||!D5 b s0 q.s q.p q.z
def FE(t b:Int):List In->Int->Int->Int->Int
 | [],_,_,_=>-1
 | q::xs,i,ps,s0=>if Cf t b i ps s0 q then i else FE t b xs (i+1) (Gx ps q.z) q.s
def Gd(t b:Int)(xs:List In):Int:=FE t b xs 0 0 0
def HF(i t x y:Int)(ws gs:List Bx)(fp fq fs fz b:Int)(xs:List In):Int:=if BX i t x y ws gs fp fq fs fz b then Gd t b xs else 0
end M
end Go.Proofs.Ytflmmdljkhdjlaa
namespace Go.Proofs.Ytflmmdljkhdjlaa
open Go.RowKit
open M
structure InIn(w:World)(b o:Nat)(s p:Int)(z:Bool):Prop where
 c0:w.cell? ⟨b,o,none⟩=some (.int .i64 s)
 c1:w.cell? ⟨b,o+1,none⟩=some (.int .i64 p)
 c2:w.cell? ⟨b,o+2,none⟩=some (.bool z)
 lt:b<w.heap.size
theorem InIn.of{w w':World}{b o:Nat}{s p:Int}{z:Bool}(h:InIn w b o s p z)(e:w'.heap[b]?=w.heap[b]?)(hs:w.heap.size<=w'.heap.size):InIn w' b o s p z :=
 ⟨(World.cell?_of_block (a:=⟨b,o,none⟩) e).trans h.c0,(World.cell?_of_block (a:=⟨b,o+1,none⟩) e).trans h.c1,(World.cell?_of_block (a:=⟨b,o+2,none⟩) e).trans h.c2,Nat.lt_of_lt_of_le h.lt hs⟩
theorem InIn.step{W w':World}{b o:Nat}{s p:Int}{z:Bool}(h:InIn W b o s p z)(B:Below W.heap.size W w'):InIn w' b o s p z:=h.of (B.block b h.lt) B.size
theorem InIn.alloc{W:World}{b o:Nat}{s p:Int}{z:Bool}(h:InIn W b o s p z)(ob:Obj):InIn (W.alloc ob) b o s p z:=h.step (Ab (Ac W) ob)
theorem InIn.drew{W:World}{b o:Nat}{s p:Int}{z:Bool}(h:InIn W b o s p z):InIn W.drew b o s p z:=⟨h.c0,h.c1,h.c2,h.lt⟩
theorem InAt.lie{w:World}{b o:Nat}{q:In}(h:InAt w b o q)(hb:b<w.heap.size):InIn w b o q.s q.p q.z:=⟨h.c0,h.c1,h.c2,hb⟩
theorem AV{W:World}{b o:Nat}{s p:Int}{z:Bool}(h:InIn W b o s p z):W.cell? ⟨b,o,none⟩=some (.int .i64 s)/\W.cell? ⟨b,o+1,none⟩=some (.int .i64 p)/\W.cell? ⟨b,o+2,none⟩=some (.bool z):=⟨h.c0,h.c1,h.c2⟩
end Go.Proofs.Ytflmmdljkhdjlaa
