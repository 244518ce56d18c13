import Derived.Test.YtaemcekcancpdaaGreatDoorZInS
import Derived.Maps.OwnSet
set_option linter.all false
set_option maxRecDepth 100000
set_option maxHeartbeats 8000000
namespace Go.Proofs.YtaemcekcancpdaaGreatDoor
open Go.RowKit
open Go.Maps
open M
theorem Ky{P:Program}{e:TypeId}(he:P.underlying e=some .bool){v:Value}{z:DataW Unit × List MemPlace}(h:plainElem P e v=some z):∃ x,v=.bool x/\z=(.lit (.bool x),[]):=by
 unfold plainElem at h;rw[he] at h;cases v<;>simp at h
 exact⟨_,rfl,h.symm⟩
abbrev Ud(x y:Bool):DataW Unit:=.map [(.int .i64 1,.lit (.bool x)),(.int .i64 2,.lit (.bool y))]
def Bans(w:World)(b:Nat)(x y:Bool):Prop:=w.ownsMap (H:=Unit) Tryz.prog 3 (plainElem Tryz.prog 4) b 2 (Ud x y)
theorem Bans.step{w w':World}{b:Nat}{x y:Bool}(h:Bans w b x y)(B:Below w.heap.size w w'):Bans w' b x y:=by
 have hl:=World.ownsMap.lt h;obtain⟨es,clock,hb,F,hs,hD⟩:=h;exact⟨es,clock,(B.block b hl).trans hb,F,hs,hD⟩
theorem Bans.alloc{w:World}{b:Nat}{x y:Bool}(h:Bans w b x y)(o:Obj):Bans (w.alloc o) b x y:=World.ownsMap.alloc h o
theorem Bans.drew{w:World}{b:Nat}{x y:Bool}(h:Bans w b x y):Bans w.drew b x y:=h
theorem Bans.kept{w w':World}{b r:Nat}{x y:Bool}(h:Bans w b x y)(K:Kept r w w')(hne:b≠r):Bans w' b x y:=by
 have hl:=World.ownsMap.lt h;obtain⟨es,clock,hb,F,hs,hD⟩:=h;exact⟨es,clock,(K.block b hl hne).trans hb,F,hs,hD⟩
theorem BJ:Keyed Tryz.prog 3:=int_keyed Tryz.underlying3
theorem I7(w:World):(zeroValue 4).run Tryz.prog w=.ok (.bool false) w:=by kernel_rfl
theorem Bans.look{w:World}{b:Nat}{x y:Bool}(h:Bans w b x y) :
 (Instr.lookup 89 (.map (some b)) (.int .i64 1) false).run Tryz.prog w=.ok (.bool x) w/\(Instr.lookup 89 (.map (some b)) (.int .i64 2) false).run Tryz.prog w=.ok (.bool y) w:=by
 constructor
 . obtain⟨v,ps,hrun,hv⟩:=World.ownsMap.lookup h BJ Tryz.underlying89 (I7 w) (plainElem_bool Tryz.underlying4 false) (keyOf_int_mk (k:=3) Tryz.underlying3 (q:=.i64) (a:=1) (by decide));obtain⟨u,rfl,hc⟩:=Ky Tryz.underlying4 hv;have e:u=x:=by
    have:=(Prod.mk.inj hc).1;simpa[Ud,DataW.atKey,Lit.sameKey] using this.symm
   rw[hrun,e]
 . obtain⟨v,ps,hrun,hv⟩:=World.ownsMap.lookup h BJ Tryz.underlying89 (I7 w) (plainElem_bool Tryz.underlying4 false) (keyOf_int_mk (k:=3) Tryz.underlying3 (q:=.i64) (a:=2) (by decide));obtain⟨u,rfl,hc⟩:=Ky Tryz.underlying4 hv;have e:u=y:=by
    have:=(Prod.mk.inj hc).1;simpa[Ud,DataW.atKey,Lit.sameKey] using this.symm
   rw[hrun,e]
end Go.Proofs.YtaemcekcancpdaaGreatDoor
