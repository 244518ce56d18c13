import Derived.Test.YtflmmdljkhdjlaaZLevS
set_option linter.all false
set_option maxRecDepth 100000
set_option maxHeartbeats 8000000
open Go.Lib
namespace Go.Proofs.Ytflmmdljkhdjlaa
open Go.RowKit
open M
theorem FL(a b c d x y r:Int)(w:World)(hb:Ex a b c d=true)(x1:-2000000<=x)(x2:x<=2000000)(y1:-2000000<=y)(y2:y<=2000000)(r0:0<=r)(r1:r<=1000000):Calls Try.prog 112 #[box a b c d,DK x y,.int .i64 r] w fun e w'=>e=.returned (.bool (HI a b c d x y r))/\Below w.heap.size w w':=by
 obtain⟨⟨⟨a1,a2⟩,b1,b2⟩,⟨⟨c1,c2⟩,d1,d2⟩,ac,bd⟩:=(Ge a b c d).1 hb;have n1:-1000000<=max a (min x c)/\max a (min x c)<=1000000:=by omega
 have n2:-1000000<=max b (min y d)/\max b (min y d)<=1000000:=by omega
 have E:=hid (show HI a b c d x y r=decide ((x-max a (min x c))*(x-max a (min x c))+(y-max b (min y d))*(y-max b (min y d))<=r*r) from rfl);have Q:=hid (fun W=>DL a b c d x y W);clear hb;generalize max a (min x c)=X at *;generalize max b (min y d)=Y at *;have m1:=BP (a:=x-X) (b:=x-X) (by omega) (by omega) (by omega) (by omega);have m2:=BP (a:=y-Y) (b:=y-Y) (by omega) (by omega) (by omega) (by omega);have m3:=BP (a:=r) (b:=r) (by omega) (by omega) (by omega) (by omega);go_enter Try.func112,Try.ntmps112;go_wp2_with fail;refine(Q.out _).mono ?_;rintro e w1 ⟨rfl,B1⟩;obtain⟨hc1,hf1⟩:=AF B1
 have l0:w.heap.size<w1.heap.size:=by have:=B1.size; simp at this; omega
 have l1:w.heap.size+1<w1.heap.size:=by have:=B1.size; simp at this; omega
 have H1:=hid (Aa (Ab (Ab (Ac w) _) _) B1);clear B1 Q;go_wp2;go_ret;exact⟨Al (by rw[E.out]),Ab H1.out _⟩
theorem Db(i t x y:Int)(A:Option Addr)(n c:Nat)(G:Option Addr)(m k:Nat)(p q r s b:Int)(ws:List Bx)(u v:Int)(w:World)(I:Boxes w A n ws)(ok:Cx ws=true)(u1:-2000000<=u)(u2:u<=2000000)(v1:-2000000<=v)(v2:v<=2000000)(hn:n<=281474976710656) :
 Calls Try.prog 102 #[Ey i t x y A n c G m k p q r s b,DK u v] w fun e w'=>e=.returned (.bool (Dm ws u v))/\Below w.heap.size w w':=by
 have hl:=hid I.1;have I:=hid I;have ok:=hid ok;go_enter Try.func102,Try.ntmps102;go_wp2
 go_loopw [5] (GO w n ws u v (Bd i t x y A n c G m k p q r s b)) (fun i _=>n-(intOf i).toNat)
 case atStart=>exact⟨0,Nat.zero_le _,rfl,rfl,(CellsAt.new w _ _ _ rfl).alloc _,PCell.new _ _ _ _ _ (by simp),Ab (Ab (Ac w) _) _⟩
 case round =>
  obtain⟨j,hj,rfl,ha,L,P,B⟩:=hrel;have ha:=hid ha;have l4:=L.cell 4 _ rfl;have ll:=L.lt;have pl:=P.lt;by_cases hlt:j<n
  . obtain⟨bb,off,rfl,hb,hcell⟩:=(I.out.step B).2 (by omega);have Z:=(hcell j hlt).lie hb;have hkl:j<ws.length:=by have:=hl.out; omega
    have HS:=Eb (f:=fun z=>!(z.hit u v)) hkl ha.out;have HN:=Gp (f:=fun z=>!(z.hit u v)) hkl;have HO:=GM (f:=Bx.ok) ok.out hkl;have Hb:=hid B;clear hcell hkl B;generalize ws.getD j bz=z at *;obtain⟨za,zb,zc,zd⟩:=z;simp only at Z;have C:=hid (fun W:World=>FL za zb zc zd u v 500 W HO u1 u2 v1 v2 (by omega) (by omega));cases hz:HI za zb zc zd u v 500
    . have E:=hid (HS (show(!(HI za zb zc zd u v 500))=true by rw[hz]; rfl));clear HN HS HO;rw[hz] at C;go_wp2_with fail
      go_region_held3 (fun w'=>(w'.cell? ⟨w.heap.size,4,none⟩=some (.slice (some ⟨bb,off,none⟩) n c))/\(w'.cell? ⟨bb,off+j*4,none⟩=some (.int .i64 za)/\w'.cell? ⟨bb,off+j*4+1,none⟩=some (.int .i64 zb)/\w'.cell? ⟨bb,off+j*4+2,none⟩=some (.int .i64 zc)/\w'.cell? ⟨bb,off+j*4+3,none⟩=some (.int .i64 zd))/\(w'.cell? ⟨w.heap.size+1,0,none⟩=some (.int .i64 u)/\w'.cell? ⟨w.heap.size+1,1,none⟩=some (.int .i64 v)))
       (exact⟨CS (by repeat (first | with_reducible exact L | with_reducible refine CellsAt.far ?_ (by omega) _ _ | with_reducible refine CellsAt.alloc ?_ _ | with_reducible refine CellsAt.drew ?_)),Bw (by repeat (first | with_reducible exact Z | with_reducible refine BoxIn.far ?_ (by omega) _ _ | with_reducible refine BoxIn.alloc ?_ _ | with_reducible refine BoxIn.drew ?_)),DG (by repeat (first | with_reducible exact P | with_reducible refine PCell.far ?_ (by omega) _ _ | with_reducible refine PCell.alloc ?_ _ | with_reducible refine PCell.drew ?_))⟩)
       ((go_at_call 112; (with_reducible refine(C.out _).mono ?_); rintro e wn ⟨rfl,Bn⟩; have L:=CellsAt.step (by first | with_reducible exact L | with_reducible exact L.drew) Bn; have P:=PCell.step (by first | with_reducible exact P | with_reducible exact P.drew) Bn; have Z:=BoxIn.step (by first | with_reducible exact Z | with_reducible exact Z.drew) Bn; have Hb:=hid (Aa (by first | with_reducible exact Hb.out | with_reducible exact AD Hb.out) Bn); clear Bn))
      all_goals
       go_wp2
       go_roundw
       case rel=>exact⟨j+1,by omega,by go_num,E.out,L,P,Hb.out⟩
       case measure=>simp[intOf]; omega
    . have E:=hid (HN (show(!(HI za zb zc zd u v 500))=false by rw[hz]; rfl));clear HN HS HO;rw[hz] at C;go_wp2_with fail
      go_region_held3 (fun w'=>(w'.cell? ⟨w.heap.size,4,none⟩=some (.slice (some ⟨bb,off,none⟩) n c))/\(w'.cell? ⟨bb,off+j*4,none⟩=some (.int .i64 za)/\w'.cell? ⟨bb,off+j*4+1,none⟩=some (.int .i64 zb)/\w'.cell? ⟨bb,off+j*4+2,none⟩=some (.int .i64 zc)/\w'.cell? ⟨bb,off+j*4+3,none⟩=some (.int .i64 zd))/\(w'.cell? ⟨w.heap.size+1,0,none⟩=some (.int .i64 u)/\w'.cell? ⟨w.heap.size+1,1,none⟩=some (.int .i64 v)))
       (exact⟨CS (by repeat (first | with_reducible exact L | with_reducible refine CellsAt.far ?_ (by omega) _ _ | with_reducible refine CellsAt.alloc ?_ _ | with_reducible refine CellsAt.drew ?_)),Bw (by repeat (first | with_reducible exact Z | with_reducible refine BoxIn.far ?_ (by omega) _ _ | with_reducible refine BoxIn.alloc ?_ _ | with_reducible refine BoxIn.drew ?_)),DG (by repeat (first | with_reducible exact P | with_reducible refine PCell.far ?_ (by omega) _ _ | with_reducible refine PCell.alloc ?_ _ | with_reducible refine PCell.drew ?_))⟩)
       ((go_at_call 112; (with_reducible refine(C.out _).mono ?_); rintro e wn ⟨rfl,Bn⟩; have L:=CellsAt.step (by first | with_reducible exact L | with_reducible exact L.drew) Bn; have P:=PCell.step (by first | with_reducible exact P | with_reducible exact P.drew) Bn; have Z:=BoxIn.step (by first | with_reducible exact Z | with_reducible exact Z.drew) Bn; have Hb:=hid (Aa (by first | with_reducible exact Hb.out | with_reducible exact AD Hb.out) Bn); clear Bn))
      all_goals
       go_wp2;go_ret;exact⟨Al (by unfold Dm; rw[E.out]),Hb.out⟩
  . have E:=hid (Ff (f:=fun z=>!(z.hit u v)) (by have:=hl.out; omega) ha.out);have B:=hid B;go_wp2;go_ret;exact⟨Al (by unfold Dm; rw[E.out]),B.out⟩
end Go.Proofs.Ytflmmdljkhdjlaa
