import Derived.Test.YtgbiagonfbnooaaGreatDoorZEngC
set_option linter.all false
set_option maxRecDepth 100000
set_option maxHeartbeats 8000000
open Go.Lib
namespace Go.Proofs.YtgbiagonfbnooaaGreatDoor
open Go.RowKit
open M
def M.flg(d o:Bool):Int:=if d then (if o then 3 else 1) else if o then 2 else 0
def M.stL(k ax ay fx fy u g:Int)(d o:Bool):List Int:=[k,ax,ay,fx,fy,u,g,flg d o]
def M.ehI(k ax ay fx fy u g:Int)(d o:Bool):Int:=if ownB k ax ay fx fy u g d o then Jk 17 (stL k ax ay fx fy u g d o) else -1
theorem Ints.eight(w:World)(B:Nat)(a b c d e f g h:Int)(t:TypeId)(hB:B=w.heap.size):Ints (w.alloc (.cells #[.int .i64 a,.int .i64 b,.int .i64 c,.int .i64 d,.int .i64 e,.int .i64 f,.int .i64 g,.int .i64 h] t)) (some ⟨B,0,none⟩) 8 [a,b,c,d,e,f,g,h] :=
 hB▸⟨rfl,fun _=>⟨w.heap.size,0,rfl,by simp,fun k hk=>by
  match k,hk with
  | 0,_=>simp
  | 1,_=>simp
  | 2,_=>simp
  | 3,_=>simp
  | 4,_=>simp
  | 5,_=>simp
  | 6,_=>simp
  | 7,_=>simp⟩⟩
theorem IH(k ax ay fx fy u g:Int)(d o:Bool)(w:World):Calls Tryz.prog 105 #[Dw k ax ay fx fy u g d o] w fun e w'=>e=.returned (.int .i64 (Jk 17 (stL k ax ay fx fy u g d o)))/\Below w.heap.size w w':=by
 cases d<;>cases o
 . have E:=hid (show stL k ax ay fx fy u g false false=[k,ax,ay,fx,fy,u,g,0] from rfl);have C:=hid (fun(D:Nat) (W:World) (Z:Ints W (some ⟨D,0,none⟩) 8 [k,ax,ay,fx,fy,u,g,0])=>C9 17 (some ⟨D,0,none⟩) 8 8 _ W (by omega) (by omega) Z (by omega));go_enter Tryz.func105,Tryz.ntmps105;go_wp2_with fail;refine(C.out _ _ (Ints.eight _ _ _ _ _ _ _ _ _ _ _ (by simp))).mono ?_;rintro e w' ⟨rfl,rfl⟩;go_wp2;go_ret;exact⟨AN (by rw[E.out]),Ab (Ab (Ac w) _) _⟩
 . have E:=hid (show stL k ax ay fx fy u g false true=[k,ax,ay,fx,fy,u,g,2] from rfl);have C:=hid (fun(D:Nat) (W:World) (Z:Ints W (some ⟨D,0,none⟩) 8 [k,ax,ay,fx,fy,u,g,2])=>C9 17 (some ⟨D,0,none⟩) 8 8 _ W (by omega) (by omega) Z (by omega));go_enter Tryz.func105,Tryz.ntmps105;go_wp2_with fail;refine(C.out _ _ (Ints.eight _ _ _ _ _ _ _ _ _ _ _ (by simp))).mono ?_;rintro e w' ⟨rfl,rfl⟩;go_wp2;go_ret;exact⟨AN (by rw[E.out]),Ab (Ab (Ac w) _) _⟩
 . have E:=hid (show stL k ax ay fx fy u g true false=[k,ax,ay,fx,fy,u,g,1] from rfl);have C:=hid (fun(D:Nat) (W:World) (Z:Ints W (some ⟨D,0,none⟩) 8 [k,ax,ay,fx,fy,u,g,1])=>C9 17 (some ⟨D,0,none⟩) 8 8 _ W (by omega) (by omega) Z (by omega));go_enter Tryz.func105,Tryz.ntmps105;go_wp2_with fail;refine(C.out _ _ (Ints.eight _ _ _ _ _ _ _ _ _ _ _ (by simp))).mono ?_;rintro e w' ⟨rfl,rfl⟩;go_wp2;go_ret;exact⟨AN (by rw[E.out]),Ab (Ab (Ac w) _) _⟩
 . have E:=hid (show stL k ax ay fx fy u g true true=[k,ax,ay,fx,fy,u,g,3] from rfl);have C:=hid (fun(D:Nat) (W:World) (Z:Ints W (some ⟨D,0,none⟩) 8 [k,ax,ay,fx,fy,u,g,3])=>C9 17 (some ⟨D,0,none⟩) 8 8 _ W (by omega) (by omega) Z (by omega));go_enter Tryz.func105,Tryz.ntmps105;go_wp2_with fail;refine(C.out _ _ (Ints.eight _ _ _ _ _ _ _ _ _ _ _ (by simp))).mono ?_;rintro e w' ⟨rfl,rfl⟩;go_wp2;go_ret;exact⟨AN (by rw[E.out]),Ab (Ab (Ac w) _) _⟩
end Go.Proofs.YtgbiagonfbnooaaGreatDoor
namespace Go.Proofs.YtgbiagonfbnooaaGreatDoor
namespace M
theorem HF{a c:Int}(h:c.natAbs<=1000):(mu a c).natAbs<=a.natAbs:=by
 unfold mu;rw[Int.natAbs_tdiv,Int.natAbs_mul];exact Nat.div_le_of_le_mul (Nat.le_trans (Nat.mul_le_mul_left _ h) (Nat.le_of_eq (Nat.mul_comm _ _)))
theorem Lu(f:Int):(-f.tdiv 2).natAbs<=f.natAbs:=by
 rw[Int.natAbs_neg,Int.natAbs_tdiv];exact Nat.div_le_self _ _
theorem JF(b:Bool)(f:Int):(Lw b f).natAbs<=f.natAbs:=by
 cases b
 . exact Lu f
 . exact Nat.le_refl _
theorem Mn{x y x' y':Int}(hx:x'.natAbs<=x.natAbs)(hy:y'.natAbs<=y.natAbs):vl x' y'<=vl x y:=by
 have a:=AQ hx;have b:=AQ hy;have c:=AQ (a:=0) (b:=x') (by omega);have d:=AQ (a:=0) (b:=y') (by omega);exact LJ (by omega) (by omega)
theorem Mo{fx fy u p:Int}(hp:p≠1):(E8 fx fy u p).natAbs<=fx.natAbs/\(E9 fx fy u p).natAbs<=fy.natAbs:=by
 unfold E8 E9;rw[if_neg hp,if_neg hp];by_cases h2:p=2
 . rw[if_pos h2,if_pos h2];exact⟨HF (by decide),HF (by decide)⟩
 . rw[if_neg h2,if_neg h2];exact⟨HF (by decide),HF (by decide)⟩
theorem ML{fx fy u p:Int}(hv:vl fx fy<=2000)(x1:-2000<=fx)(x2:fx<=2000)(y1:-2000<=fy)(y2:fy<=2000)(u0:0<=u)(u1:u<=15):vl (E8 fx fy u p) (E9 fx fy u p)<=2000:=by
 by_cases hp:p=1
 . have q:=CV u0 u1;have hc:Jn (fx+mu (DI u) 200) (fy+mu (DJ u) 200) 2000=true:=Lg (DG ⟨⟨by omega,by omega⟩,by omega,by omega⟩) (by decide);unfold E8 E9;rw[if_pos hp,if_pos hp];obtain⟨X,Y,e1,e2,_,_,_,hl,_⟩:=Iz hc;rw[e1,e2];exact hl
 . have q:=Mo (fx:=fx) (fy:=fy) (u:=u) hp;exact Int.le_trans (Mn q.1 q.2) hv
theorem JG{ws:List Bx}{k ax ay f1 f2 u g X Y P Q:Int}{d o:Bool}(e:GV ws ⟨k,ax,ay,f1,f2,u,g,d,o⟩=⟨k,X,Y,P,Q,u,g,d,o⟩)(hf:DO ws ax ay=true) :
 DO ws X Y=true/\(X=ax\/X=ax+f1)/\(Y=ay\/Y=ay+f2)/\P.natAbs<=f1.natAbs/\Q.natAbs<=f2.natAbs/\(ws.length=0->X=ax+f1/\Y=ay+f2/\P=f1/\Q=f2):=by
 unfold GV at e;simp only[St.mk.injEq,true_and,and_true] at e;obtain⟨e1,e2,e3,e4⟩:=e;refine⟨?_,?_,?_,by rw[<- e3]; exact JF _ _,by rw[<- e4]; exact JF _ _,?_⟩
 . cases p:DO ws (ax+f1) ay
   . rw[p] at e1 e2;replace e1:ax=X:=e1;subst e1;cases q:DO ws ax (ay+f2)
     . simp only[JL,Bool.false_eq_true,if_false,q] at e2;subst e2;exact hf
     . simp only[JL,Bool.false_eq_true,if_false,q,if_true] at e2;subst e2;exact q
   . rw[p] at e1 e2;replace e1:ax+f1=X:=e1;subst e1;cases q:DO ws (ax+f1) (ay+f2)
     . simp only[JL,if_true,q,Bool.false_eq_true,if_false] at e2;subst e2;exact p
     . simp only[JL,if_true,q] at e2;subst e2;exact q
 . rw[<- e1];unfold JL;split
   . exact .inr rfl
   . exact .inl rfl
 . rw[<- e2];generalize DO ws _ (ay+f2)=q;cases q
   . exact .inl rfl
   . exact .inr rfl
 . intro h;obtain rfl:=List.eq_nil_of_length_eq_zero h;refine⟨e1.symm,e2.symm,e3.symm,e4.symm⟩
theorem JH(gs:List Bx)(g X Y:Int):G3 gs g X Y=g\/(G3 gs g X Y=g+1/\g<gs.length/\F4 (gs.getD g.toNat bz).a (gs.getD g.toNat bz).b (gs.getD g.toNat bz).c (gs.getD g.toNat bz).d X Y=true):=by
 unfold G3;cases h:MN gs g X Y
 . exact .inl rfl
 . simp only[MN,Bool.and_eq_true,decide_eq_true_eq] at h;exact .inr ⟨rfl,h.1,h.2⟩
theorem JI(ws gs:List Bx)(fp fq fs fz k ax ay fx fy u g:Int)(d o:Bool)(s p:Int)(z:Bool) :
 ((d||o)=true/\DL ws gs fp fq fs fz ⟨k,ax,ay,fx,fy,u,g,d,o⟩ ⟨s,p,z⟩=⟨k,ax,ay,fx,fy,u,g,d,o⟩) \/
 (d=false/\o=false/\z=true/\DL ws gs fp fq fs fz ⟨k,ax,ay,fx,fy,u,g,d,o⟩ ⟨s,p,z⟩=⟨k+1,ax,ay,fx,fy,u,g,false,false⟩) \/
 (d=false/\o=false/\z=false/\DL ws gs fp fq fs fz ⟨k,ax,ay,fx,fy,u,g,d,o⟩ ⟨s,p,z⟩=⟨k+1,ax,ay,fx,fy,u,g,false,true⟩) \/
 (d=false/\o=false/\z=false/\∃ X Y P Q,AD X Y=true/\GV ws ⟨k+1,ax,ay,E8 fx fy ((u+s) % 16) p,E9 fx fy ((u+s) % 16) p,(u+s) % 16,g,false,false⟩=⟨k+1,X,Y,P,Q,(u+s) % 16,g,false,false⟩ /\
  DL ws gs fp fq fs fz ⟨k,ax,ay,fx,fy,u,g,d,o⟩ ⟨s,p,z⟩=⟨k+1,X,Y,P,Q,(u+s) % 16,G3 gs g X Y,decide (G3 gs g X Y=gs.length)&&F4 fp fq fs fz X Y,false⟩):=by
 cases d
 . cases o
   . refine .inr ?_;cases z
     . refine .inr ?_;have e:DL ws gs fp fq fs fz ⟨k,ax,ay,fx,fy,u,g,false,false⟩ ⟨s,p,false⟩=IJ ws gs fp fq fs fz ⟨k+1,ax,ay,fx,fy,u,g,false,false⟩ s p:=by simp[DL]
       have e2:Nu ws ⟨k+1,ax,ay,fx,fy,u,g,false,false⟩ s p=GV ws ⟨k+1,ax,ay,E8 fx fy ((u+s) % 16) p,E9 fx fy ((u+s) % 16) p,(u+s) % 16,g,false,false⟩:=rfl;obtain⟨X,Y,P,Q,e3⟩:∃ X Y P Q,GV ws ⟨k+1,ax,ay,E8 fx fy ((u+s) % 16) p,E9 fx fy ((u+s) % 16) p,(u+s) % 16,g,false,false⟩=⟨k+1,X,Y,P,Q,(u+s) % 16,g,false,false⟩:=⟨_,_,_,_,rfl⟩;cases hv:AD X Y
       . refine .inl ⟨rfl,rfl,rfl,?_⟩;rw[e];unfold IJ;rw[e2,e3];simp[hv]
       . refine .inr ⟨rfl,rfl,rfl,X,Y,P,Q,hv,e3,?_⟩;rw[e];unfold IJ;rw[e2,e3];simp[hv]
     . exact .inl ⟨rfl,rfl,rfl,by simp[DL]⟩
   . exact .inl ⟨rfl,by simp[DL]⟩
 . exact .inl ⟨rfl,by simp[DL]⟩
theorem Ec(k ax ay fx fy u g:Int)(d o:Bool):ownB k ax ay fx fy u g d o=true↔(0<=k/\k<=60)/\AD ax ay=true/\AD fx fy=true/\vl fx fy<=2000/\(0<=u/\u<=15)/\(0<=g/\g<=3)/\(d&&o)=false:=by
 simp only[ownB,Ax,Bool.and_eq_true,decide_eq_true_eq,Bool.not_eq_true']
theorem FJ(i t x y:Int)(ws gs:List Bx)(fp fq fs fz b k ax ay fx fy u g:Int)(d o:Bool):evB i t x y ws gs fp fq fs fz b k ax ay fx fy u g d o=true↔Cd i t x y ws gs fp fq fs fz b=true/\ownB k ax ay fx fy u g d o=true/\k<=t/\g<=gs.length/\DO ws ax ay=true/\(d=true->g=gs.length):=by
 simp only[evB,Bool.and_eq_true,decide_eq_true_eq,Bool.or_eq_true,Bool.not_eq_true'];cases d<;>simp
theorem G1(i t x y:Int)(ws gs:List Bx)(fp fq fs fz b k ax ay fx fy u g:Int)(d o:Bool)(s p:Int)(z:Bool):eoB i t x y ws gs fp fq fs fz b k ax ay fx fy u g d o s p z=true↔evB i t x y ws gs fp fq fs fz b k ax ay fx fy u g d o=true/\Bm s p z=true/\(k<t\/(d||o)=true):=by
 simp only[eoB,Bool.and_eq_true];cases d<;>cases o<;>simp
theorem JJ{i t x y:Int}{ws gs:List Bx}{fp fq fs fz b k ax ay fx fy u g:Int}{d o:Bool}{s p:Int}{z:Bool}(h:eoB i t x y ws gs fp fq fs fz b k ax ay fx fy u g d o s p z=true):esS i t x y ws gs fp fq fs fz b k ax ay fx fy u g d o s p z=DL ws gs fp fq fs fz ⟨k,ax,ay,fx,fy,u,g,d,o⟩ ⟨s,p,z⟩:=by simp[esS,h]
section
variable {i t x y:Int} {ws gs:List Bx} {fp fq fs fz b k ax ay fx fy u g:Int} {d o:Bool} {s p:Int} {z:Bool} {K X Y P Q U V:Int} {D O:Bool}
structure Tick(t:Int)(ws gs:List Bx)(fp fq fs fz k ax ay fx fy u g:Int)(d o:Bool)(s p:Int)(z:Bool)(K X Y P Q U V:Int)(D O:Bool):Prop where
 stop:(d||o)=true->K=k/\X=ax/\Y=ay/\P=fx/\Q=fy/\U=u/\V=g/\D=d/\O=o
 tick:(d||o)=false->K=k+1
 vok:AD X Y=true
 free:DO ws X Y=true
 len:vl P Q<=2000
 near:(-2000<=X-ax/\X-ax<=2000)/\(-2000<=Y-ay/\Y-ay<=2000)
 gate:V=g\/(V=g+1/\g<gs.length/\F4 (gs.getD g.toNat bz).a (gs.getD g.toNat bz).b (gs.getD g.toNat bz).c (gs.getD g.toNat bz).d X Y=true)
 fin:d=false->D=true->V=gs.length/\F4 fp fq fs fz X Y=true
 over:o=false->O=true->X=ax/\Y=ay/\P=fx/\Q=fy/\U=u/\V=g/\D=d
 turn:(d||o)=false->O=false->U=(u+s) % 16
 roll:p≠1->P.natAbs<=fx.natAbs/\Q.natAbs<=fy.natAbs
 move:ws.length=0->(d||o)=false->O=false->z=false->X=ax+P/\Y=ay+Q/\P=E8 fx fy ((u+s) % 16) p/\Q=E9 fx fy ((u+s) % 16) p
 wait:(d||o)=false->z=true->K=k+1/\X=ax/\Y=ay/\P=fx/\Q=fy/\U=u/\V=g/\D=d/\O=o
 both:(D&&O)=false
 dgs:D=true->V=gs.length
 fr:(-2000<=P/\P<=2000)/\(-2000<=Q/\Q<=2000)
 ur:0<=U/\U<=15
 gr:0<=V/\V<=gs.length
theorem HG(h:eoB i t x y ws gs fp fq fs fz b k ax ay fx fy u g d o s p z=true)(e:esS i t x y ws gs fp fq fs fz b k ax ay fx fy u g d o s p z=⟨K,X,Y,P,Q,U,V,D,O⟩):Tick t ws gs fp fq fs fz k ax ay fx fy u g d o s p z K X Y P Q U V D O:=by
 obtain⟨hev,hin,hrun⟩:=(G1 ..).1 h;have hB:=Nt hev rfl;obtain⟨hlv,how,hkt,hg,hfr,hdg⟩:=(FJ ..).1 hev;obtain⟨hk,hat,hfa,hlen,hu,hg3,hdo⟩:=(Ec ..).1 how;obtain⟨_,⟨⟨f1,f2⟩,f3,f4⟩,_,_,_⟩:=hB;simp only at f1 f2 f3 f4;have hz:=(Dc hin).2.2;rw[JJ h] at e;rcases JI ws gs fp fq fs fz k ax ay fx fy u g d o s p z with⟨h1,e1⟩ | ⟨rfl,rfl,rfl,e1⟩ | ⟨rfl,rfl,rfl,e1⟩ | ⟨rfl,rfl,rfl,A,B,C,E,hv,em,e1⟩
 . rw[e1] at e;injection e with a1 a2 a3 a4 a5 a6 a7 a8 a9;subst a1 a2 a3 a4 a5 a6 a7 a8 a9;exact⟨fun _=>⟨rfl,rfl,rfl,rfl,rfl,rfl,rfl,rfl,rfl⟩,fun c=>(by rw[h1] at c; cases c),hat,hfr,hlen,by omega,.inl rfl,fun c c'=>(by rw[c] at c'; cases c'),fun c c'=>(by rw[c] at c'; cases c'),fun c=>(by rw[h1] at c; cases c),fun _=>⟨Nat.le_refl _,Nat.le_refl _⟩,fun _ c=>(by rw[h1] at c; cases c),fun c=>(by rw[h1] at c; cases c),hdo,hdg,⟨⟨f1,f2⟩,f3,f4⟩,hu,by omega⟩
 . rw[e1] at e;injection e with a1 a2 a3 a4 a5 a6 a7 a8 a9;subst a1 a2 a3 a4 a5 a6 a7 a8 a9;obtain⟨rfl,rfl⟩:=hz rfl;exact⟨fun c=>(by cases c),fun _=>rfl,hat,hfr,hlen,by omega,.inl rfl,fun _ c=>(by cases c),fun _ c=>(by cases c),fun _ _=>(by omega),fun _=>⟨Nat.le_refl _,Nat.le_refl _⟩,fun _ _ _ c=>(by cases c),fun _ _=>⟨rfl,rfl,rfl,rfl,rfl,rfl,rfl,rfl,rfl⟩,rfl,fun c=>(by cases c),⟨⟨f1,f2⟩,f3,f4⟩,hu,by omega⟩
 . rw[e1] at e;injection e with a1 a2 a3 a4 a5 a6 a7 a8 a9;subst a1 a2 a3 a4 a5 a6 a7 a8 a9;exact⟨fun c=>(by cases c),fun _=>rfl,hat,hfr,hlen,by omega,.inl rfl,fun _ c=>(by cases c),fun _ _=>⟨rfl,rfl,rfl,rfl,rfl,rfl,rfl⟩,fun _ c=>(by cases c),fun _=>⟨Nat.le_refl _,Nat.le_refl _⟩,fun _ _ c=>(by cases c),fun _ c=>(by cases c),rfl,fun c=>(by cases c),⟨⟨f1,f2⟩,f3,f4⟩,hu,by omega⟩
 . rw[e1] at e;injection e with a1 a2 a3 a4 a5 a6 a7 a8 a9;subst a1 a2 a3 a4 a5 a6 a7 a8 a9;have uu:0<=(u+s) % 16/\(u+s) % 16<=15:=by omega
   obtain⟨m1,m2,m3,m4,m5,m6⟩:=JG em hfr;have ff:=Ep (p:=p) f1 f2 f3 f4 uu.1 uu.2;have fl:=ML (p:=p) hlen f1 f2 f3 f4 uu.1 uu.2;have gf:=JH gs g A B;refine⟨fun c=>(by cases c),fun _=>rfl,hv,m1,Int.le_trans (Mn m4 m5) fl,by omega,gf,fun _ c=>?_,fun _ c=>(by cases c),fun _ _=>rfl,fun hp=>?_,fun hw _ _ _=>?_,fun _ c=>(by cases c),by simp,fun c=>?_,by omega,uu,by omega⟩
   . simp only[Bool.and_eq_true,decide_eq_true_eq] at c;exact c
   . have q:=Mo (fx:=fx) (fy:=fy) (u:=(u+s) % 16) hp;exact⟨Nat.le_trans m4 q.1,Nat.le_trans m5 q.2⟩
   . obtain⟨w1,w2,w3,w4⟩:=m6 hw;exact⟨by rw[w3]; exact w1,by rw[w4]; exact w2,w3,w4⟩
   . simp only[Bool.and_eq_true,decide_eq_true_eq] at c;exact c.1
theorem II(h:eoB i t x y ws gs fp fq fs fz b k ax ay fx fy u g d o s p z=true)(e:esS i t x y ws gs fp fq fs fz b k ax ay fx fy u g d o s p z=⟨K,X,Y,P,Q,U,V,D,O⟩):evB i t x y ws gs fp fq fs fz b K X Y P Q U V D O=true:=by
 have T:=HG h e;obtain⟨hev,hin,hrun⟩:=(G1 ..).1 h;obtain⟨hlv,how,hkt,hg,hfr,hdg⟩:=(FJ ..).1 hev;obtain⟨hk,hat,hfa,hlen,hu,hg3,hdo⟩:=(Ec ..).1 how;have ht:=Ev hlv;have hgl:=((Dy ..).1 hlv).2.2.2.2.2.1;have hK:0<=K/\K<=t:=by
  cases c:(d||o)
  . have q:=T.tick c;rcases hrun with r | r
    . omega
    . rw[c] at r; cases r
  . have q:=(T.stop c).1;omega
 have q1:=T.fr;have q2:=T.gr;exact(FJ ..).2 ⟨hlv,(Ec ..).2 ⟨by omega,T.vok,DG (by omega),T.len,T.ur,by omega,T.both⟩,hK.2,q2.2,T.free,T.dgs⟩
theorem JK(h:Cd i t x y ws gs fp fq fs fz b=true):evB i t x y ws gs fp fq fs fz b 0 x y 0 0 0 0 false false=true:=by
 have g:=(Dy ..).1 h;have ht:=Ev h;have z0:=Mj;rw[Ou z0.2] at z0;exact(FJ ..).2 ⟨h,(Ec ..).2 ⟨by omega,g.2.2.1,z0.2,by omega,by omega,by omega,rfl⟩,by omega,by omega,g.2.2.2.2.2.2.2.2.2,fun c=>by cases c⟩
end
end M
end Go.Proofs.YtgbiagonfbnooaaGreatDoor
