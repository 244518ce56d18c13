import Derived.Test.YtflmmdljkhdjlaaZInS
set_option linter.all false
set_option maxRecDepth 100000
set_option maxHeartbeats 8000000
namespace Go.Proofs.Ytflmmdljkhdjlaa
namespace M
structure St where
 k:Int
 ax:Int
 ay:Int
 fx:Int
 fy:Int
 u:Int
 g:Int
 d:Bool
 o:Bool
def EB(fx fy u p:Int):Int:=if p=1 then Jh (fx+mu (Dh u) 200) (fy+mu (Di u) 200) 2000 else if p=2 then mu fx 700 else mu fx 950
def EC(fx fy u p:Int):Int:=if p=1 then Ji (fx+mu (Dh u) 200) (fy+mu (Di u) 200) 2000 else if p=2 then mu fy 700 else mu fy 950
def Ik(ok:Bool)(a f:Int):Int:=if ok then a+f else a
def Js(ok:Bool)(f:Int):Int:=if ok then f else -f.tdiv 2
def Gc(ws:List Bx)(s:St):St :=
 let p:=Dm ws (s.ax+s.fx) s.ay
 let x:=Ik p s.ax s.fx
 let q:=Dm ws x (s.ay+s.fy)
 ⟨s.k,x,Ik q s.ay s.fy,Js p s.fx,Js q s.fy,s.u,s.g,s.d,s.o⟩
def Kk(gs:List Bx)(g x y:Int):Bool:=decide (g<gs.length)&&FB (gs.getD g.toNat bz).a (gs.getD g.toNat bz).b (gs.getD g.toNat bz).c (gs.getD g.toNat bz).d x y
def Gl(gs:List Bx)(g x y:Int):Int:=if Kk gs g x y then g+1 else g
def KO(ws:List Bx)(s:St)(t p:Int):St:=Gc ws ⟨s.k,s.ax,s.ay,EB s.fx s.fy ((s.u+t) % 16) p,EC s.fx s.fy ((s.u+t) % 16) p,(s.u+t) % 16,s.g,s.d,s.o⟩
def Hj(ws gs:List Bx)(p q r z:Int)(s:St)(t pw:Int):St :=
 let a:=KO ws s t pw
 if AG a.ax a.ay then ⟨a.k,a.ax,a.ay,a.fx,a.fy,a.u,Gl gs a.g a.ax a.ay,decide (Gl gs a.g a.ax a.ay=gs.length)&&FB p q r z a.ax a.ay,a.o⟩
 else ⟨s.k,s.ax,s.ay,s.fx,s.fy,s.u,s.g,s.d,true⟩
def Dk(ws gs:List Bx)(p q r z:Int)(s:St)(x:In):St :=
 if s.d||s.o then s
 else if x.z then ⟨s.k+1,s.ax,s.ay,s.fx,s.fy,s.u,s.g,s.d,s.o⟩
 else Hj ws gs p q r z ⟨s.k+1,s.ax,s.ay,s.fx,s.fy,s.u,s.g,s.d,s.o⟩ x.s x.p
end M
end Go.Proofs.Ytflmmdljkhdjlaa
