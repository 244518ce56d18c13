import Derived.Test.YtbeohbhhmcjokaaZSvT
set_option linter.all false
set_option maxRecDepth 100000
set_option maxHeartbeats 8000000
open Go.Lib
namespace Go.Proofs.Ytbeohbhhmcjokaa
open Go.RowKit
open M
theorem OwnL.set2{lo k:Nat}{w:World}{a b:Option Addr × Nat}{ps:List (Option Addr × Nat)}{A:Option Addr}{n:Nat}(h:OwnL lo w (a::b::ps))(M:Mk k w A n)(hk:lo<=k)(hp:∀ p∈a::b::ps,0<p.2->∀ g,p.1=some ⟨g,0,none⟩->g<k):OwnL lo w (a::(A,n)::ps) :=
 (h.tail.tail.cons M hk (fun p hp'=>hp p (by simp[hp']))).cons' (h.all a (by simp)) (fun p hp' h1 h2 e=>by
  rcases List.mem_cons.1 hp' with rfl | h3
  . obtain⟨g,e1,h4,_,_⟩:=M h2;have:=hp a (by simp) h1 g (e.trans e1);omega
  . exact(List.pairwise_cons.1 h.ne).1 p (by simp[h3]) h1 h2 e)
theorem OwnL.set3{lo k:Nat}{w:World}{a b c:Option Addr × Nat}{ps:List (Option Addr × Nat)}{A:Option Addr}{n:Nat}(h:OwnL lo w (a::b::c::ps))(M:Mk k w A n)(hk:lo<=k)(hp:∀ p∈a::b::c::ps,0<p.2->∀ g,p.1=some ⟨g,0,none⟩->g<k):OwnL lo w (a::b::(A,n)::ps) :=
 (OwnL.set2 h.tail M hk (fun p hp'=>hp p (by simp only[List.mem_cons] at hp' ⊢; exact .inr hp'))).cons' (h.all a (by simp)) (fun p hp' h1 h2 e=>by
  simp only[List.mem_cons] at hp';rcases hp' with rfl | rfl | h3
  . exact(List.pairwise_cons.1 h.ne).1 p (by simp) h1 h2 e
  . obtain⟨g,e1,h4,_,_⟩:=M h2;have:=hp a (by simp) h1 g (e.trans e1);omega
  . exact(List.pairwise_cons.1 h.ne).1 p (by simp[h3]) h1 h2 e)
def Ge(w:World)(s:Sv)(e:Ending)(w':World):Prop:=∃ s':Sv,e=.returned s'.val/\s'.v=s.v/\Fresh w w' s'
theorem Mk.of_there{lo g n:Nat}{w:World}(T:w.there g 0 n)(hl:g<w.heap.size)(h:lo<=g):Mk lo w (some ⟨g,0,none⟩) n:=fun _=>⟨g,rfl,h,hl,T⟩
theorem AF(s:Sv)(w:World)(R:s.At w)(hs:s.Sm):Calls Try.prog 23 #[s.val] w (Ge w s):=by
 obtain⟨A,n,c,H,m,d,G,l,e1,ts,ks,gs⟩:=s;obtain⟨hn,hm,hl,hq⟩:=hs;simp only at hn hm hl hq;have T:=hid R.T;have K:=hid R.K;have S:=hid R.S;have P:=hid (((CellsAt.new w w.heap.size [.slice A n c,.slice H m d,.slice G l e1] 40 rfl).alloc (.cells [.slice none 0 0,.slice none 0 0,.slice none 0 0].toArray 27)).alloc (.cells [.slice none 0 0,.slice none 0 0,.slice none 0 0].toArray 27));have O:=hid ((CellsAt.new (w.alloc (.cells [.slice A n c,.slice H m d,.slice G l e1].toArray 40)) (w.heap.size+1) [.slice none 0 0,.slice none 0 0,.slice none 0 0] 27 (by simp)).alloc (.cells [.slice none 0 0,.slice none 0 0,.slice none 0 0].toArray 27))
 have V:=hid (CellsAt.new ((w.alloc (.cells [.slice A n c,.slice H m d,.slice G l e1].toArray 40)).alloc (.cells [.slice none 0 0,.slice none 0 0,.slice none 0 0].toArray 27)) (w.heap.size+1+1) [.slice none 0 0,.slice none 0 0,.slice none 0 0] 27 (by simp));have HB:=hid (Ab (Ab (Ab (Ac w) (.cells [.slice A n c,.slice H m d,.slice G l e1].toArray 40)) (.cells [.slice none 0 0,.slice none 0 0,.slice none 0 0].toArray 27)) (.cells [.slice none 0 0,.slice none 0 0,.slice none 0 0].toArray 27))
 have z0:(((w.alloc (.cells [.slice A n c,.slice H m d,.slice G l e1].toArray 40)).alloc (.cells [.slice none 0 0,.slice none 0 0,.slice none 0 0].toArray 27)).alloc (.cells [.slice none 0 0,.slice none 0 0,.slice none 0 0].toArray 27)).heap.size=w.heap.size+3:=by simp
 have z0:=hid z0;have x0:=P.out.cell 0 _ rfl;replace hq:=hid hq;clear R;go_enter Try.func23,Try.ntmps23;go_wp2_with fail;refine(EX A n c ts _ (T.out.step HB.out) hq.out hn).mono ?_;rintro e w1 ⟨us,rfl,hu,TT,TH,OO,hlt,B⟩;rw[z0.out] at TT TH OO hlt;have s1:=hid (show(⟨some ⟨w.heap.size+3,0,none⟩,n,n,none,0,0,none,0,0,us,[],[]⟩:Sv).At w1 from⟨TT,⟨rfl,fun h=>absurd h (by simp)⟩,⟨rfl,fun h=>absurd h (by simp)⟩,by show n<=_; omega,by simp,by simp⟩);have O1:=hid (show OwnL (w.heap.size+3) w1 (⟨some ⟨w.heap.size+3,0,none⟩,n,n,none,0,0,none,0,0,us,[],[]⟩:Sv).ps from
  OwnL.cons' ((OwnL.cons' (OwnL.cons' (OO.low (by omega)) (Mk.nil _ _ none) (fun p hp h=>absurd h (by simp))) (Mk.nil _ _ none) (fun p hp h=>absurd h (by simp)))) (Mk.of_there TH hlt (Nat.le_refl _)) (fun p hp h0 h1 e=>by
   simp only[List.mem_cons] at hp;rcases hp with rfl | rfl | h3
   . simp at h1
   . simp at h1
   . obtain⟨g,e2,h4,_,_⟩:=OO.all p h3 h1;rw[<- e] at e2;cases e2
     omega))
 replace hu:=hid hu;replace P:=hid (P.out.step B);replace O:=hid (O.out.step B);replace V:=hid (V.out.step B);replace HB:=hid (Aa HB.out B);rw[z0.out];have b1:=B.size;clear B TT TH OO x0;have v0:=V.out.cell 0 _ rfl;have f0:=V.out.fr 0;have x1:=P.out.cell 1 _ rfl;have P1:=hid (P.out.far (b':=w.heap.size+1+1) (by omega) 0 (.slice (some ⟨w.heap.size+3,0,none⟩) n n));have O1v:=hid (O.out.far (b':=w.heap.size+1+1) (by omega) 0 (.slice (some ⟨w.heap.size+3,0,none⟩) n n));have V1:=hid (V.out.set 0 (by simp) (.slice (some ⟨w.heap.size+3,0,none⟩) n n))
 have K1:=hid (BH (Kept.refl (w.heap.size+1+1) w1) 0 (.slice (some ⟨w.heap.size+3,0,none⟩) n n));have s1':=hid (s1.out.kept O1.out K1.out (by omega));have O1':=hid (O1.out.kept K1.out (by omega));have H1:=hid (Ax HB.out K1.out (by omega));clear s1 O1 P O V HB;go_wp2_with fail;refine(AD H m d ks _ (K.out.step H1.out) hm).mono ?_;rintro e w2 ⟨u2,rfl,I2,g2,T2,l2,B⟩;have g3:w.heap.size+3<=u2:=by have:=g2; simp[World.size_setCell] at this; omega
 have s2:=hid (show(⟨some ⟨w.heap.size+3,0,none⟩,n,n,some ⟨u2,0,none⟩,m,m,none,0,0,us,ks,[]⟩:Sv).At w2 from⟨s1'.out.T.step B,I2,⟨rfl,fun h=>absurd h (by simp)⟩,by show n<=_; omega,by show m<=_; omega,by simp⟩);have O2:=hid (show OwnL (w.heap.size+3) w2 (⟨some ⟨w.heap.size+3,0,none⟩,n,n,some ⟨u2,0,none⟩,m,m,none,0,0,us,ks,[]⟩:Sv).ps from
  OwnL.set2 (O1'.out.step B) (Mk.of_there T2 l2 (Nat.le_refl _)) g3 (fun p hp h0 g e=>Nat.lt_of_lt_of_le (O1'.out.lt p hp h0 g e).2 g2))
 have P2:=hid (P1.out.step B);have Ov2:=hid (O1v.out.step B);have V2:=hid (V1.out.step B);have H2:=hid (Aa H1.out B);clear B s1' O1' P1 O1v V1 H1 K1 I2 T2 v0 f0 x1;have v0:=V2.out.cell 1 _ rfl;have f0:=V2.out.fr 1;have x1:=P2.out.cell 2 _ rfl;have P3:=hid (P2.out.far (b':=w.heap.size+1+1) (by omega) 1 (.slice (some ⟨u2,0,none⟩) m m));have Ov3:=hid (Ov2.out.far (b':=w.heap.size+1+1) (by omega) 1 (.slice (some ⟨u2,0,none⟩) m m));have V3:=hid (V2.out.set 1 (by simp) (.slice (some ⟨u2,0,none⟩) m m));have K3:=hid (BH (Kept.refl (w.heap.size+1+1) w2) 1 (.slice (some ⟨u2,0,none⟩) m m));have s3:=hid (s2.out.kept O2.out K3.out (by omega))
 have O3:=hid (O2.out.kept K3.out (by omega));have H3:=hid (Ax H2.out K3.out (by omega));clear s2 O2 P2 Ov2 V2 H2;go_wp2_with fail;refine(AD G l e1 gs _ (S.out.step H3.out) hl).mono ?_;rintro e w4 ⟨u3,rfl,I4,g4,T4,l4,B⟩;have g5:w.heap.size+3<=u3:=by have:=g4; simp[World.size_setCell] at this; omega
 have s4:=hid (show(⟨some ⟨w.heap.size+3,0,none⟩,n,n,some ⟨u2,0,none⟩,m,m,some ⟨u3,0,none⟩,l,l,us,ks,gs⟩:Sv).At w4 from⟨s3.out.T.step B,s3.out.K.step B,I4,by show n<=_; omega,by show m<=_; omega,by show l<=_; omega⟩);have O4:=hid (show OwnL (w.heap.size+3) w4 (⟨some ⟨w.heap.size+3,0,none⟩,n,n,some ⟨u2,0,none⟩,m,m,some ⟨u3,0,none⟩,l,l,us,ks,gs⟩:Sv).ps from
  OwnL.set3 (O3.out.step B) (Mk.of_there T4 l4 (Nat.le_refl _)) g5 (fun p hp h0 g e=>Nat.lt_of_lt_of_le (O3.out.lt p hp h0 g e).2 g4))
 have Ov4:=hid (Ov3.out.step B);have V4:=hid (V3.out.step B);have H4:=hid (Aa H3.out B);clear B s3 O3 P3 Ov3 V3 H3 K3 I4 T4 v0 f0 x1;have v0:=V4.out.cell 2 _ rfl;have f0:=V4.out.fr 2;have K5:=hid (BH (Kept.refl (w.heap.size+1+1) w4) 2 (.slice (some ⟨u3,0,none⟩) l l));have Ov5:=hid (Ov4.out.far (b':=w.heap.size+1+1) (by omega) 2 (.slice (some ⟨u3,0,none⟩) l l));have V5:=hid (V4.out.set 2 (by simp) (.slice (some ⟨u3,0,none⟩) l l));have s5:=hid (s4.out.kept O4.out K5.out (by omega));have O5:=hid (O4.out.kept K5.out (by omega));have H5:=hid (Ax H4.out K5.out (by omega));clear s4 O4 V4 Ov4 H4;have hV:=V5.out.lt;have hO:=Ov5.out.lt
 go_upto_region 5 with fail;generalize hW5:w4.setCell _ _=w5 at *;replace hW5:=hid hW5;obtain⟨a0,a1,a2⟩:=AX V5.out;obtain⟨c0,c1,c2⟩:=AX Ov5.out;have d0:=Ov5.out.fr 0;have d1:=Ov5.out.fr 1;have d2:=Ov5.out.fr 2;have RS:=hid (((Ov5.out.set 0 (by simp) (.slice (some ⟨w.heap.size+3,0,none⟩) n n)).set 1 (by simp) (.slice (some ⟨u2,0,none⟩) m m)).set 2 (by simp) (.slice (some ⟨u3,0,none⟩) l l));go_wp2
 exact bodyPost_ret (v:=(⟨some ⟨w.heap.size+3,0,none⟩,n,n,some ⟨u2,0,none⟩,m,m,some ⟨u3,0,none⟩,l,l,us,ks,gs⟩:Sv).val) (BI rfl (w.heap.size+1) rfl (⟨some ⟨w.heap.size+3,0,none⟩,n,n,some ⟨u2,0,none⟩,m,m,some ⟨u3,0,none⟩,l,l,us,ks,gs⟩:Sv).cs RS.out Try.underlying27 rfl Aw) rfl ⟨(⟨some ⟨w.heap.size+3,0,none⟩,n,n,some ⟨u2,0,none⟩,m,m,some ⟨u3,0,none⟩,l,l,us,ks,gs⟩:Sv),rfl,by simp only[Sv.v,hu.out],Fresh.last s5.out (O5.out.low (by omega)) H5.out (((Kept.refl _ _).mine _ _).mine _ _ |>.mine _ _) (by omega)⟩
end Go.Proofs.Ytbeohbhhmcjokaa
