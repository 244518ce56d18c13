import Derived.Test.YtgghhedkephohaaZEnMark
import Derived.Test.YtgghhedkephohaaZLawBdC
set_option linter.all false
set_option maxRecDepth 100000
set_option maxHeartbeats 8000000
open Go.Lib
namespace Go.Proofs.Ytgghhedkephohaa
open Go.RowKit
open M
theorem FW:(Try.prog.info? 44).map (·.size)=some 2:=by kernel_rfl
theorem CellsAt.frE{m:Nat}{D:Option Addr}{w w':World}{b:Nat}{vs:List Value}(h:CellsAt w b vs)(B:Gk m D w w')(hA:0<m->D≠some ⟨b,0,none⟩):CellsAt w' b vs :=
 ⟨fun j v hj=>(World.cell?_of_block (a:=⟨b,j,none⟩) (B.2 b h.lt hA)).trans (h.cell j v hj),fun j=>(World.frozen?_of_block (a:=⟨b,j,none⟩) (B.2 b h.lt hA)).trans (h.fr j),Nat.lt_of_lt_of_le h.lt B.1⟩
theorem Gb(A:Option Addr)(n cap:Nat)(zs:List En)(p s:Int)(xs:List En)(b:Int)(L:Nat)(hq:Am zs ⟨p,s⟩=(xs,b))(hL:xs.length=L)(w:World)(Y:Ents w A n zs)(hn:n<=1048576):Calls Try.prog 21 #[.slice A n cap,.agg #[.int .i64 p,.int .i64 s]] w fun e w'=>∃ A1 c1,e=.returned (.tuple #[.slice A1 L c1,.int .i64 b])/\Ents w' A1 L xs/\MkE w.heap.size w' A1 (L*2)/\Below w.heap.size w w':=by
 subst hL;have t:=C8 A n cap zs p s w Y (by omega);rw[hq] at t;refine t.mono ?_;rintro e w' ⟨v,rfl,O,B⟩;obtain⟨A,c,rfl,I,M⟩:=Ents.of_own O;exact⟨A,c,rfl,I,MkE.of_own O (by decide),B⟩
theorem FX(A:Option Addr)(n cap:Nat)(zs:List En)(p s:Int)(xs:List En)(b:Int)(L:Nat)(hq:Am zs ⟨p,s⟩=(xs,b))(hL:xs.length=L)(w:World)(Y:Ents w A n zs)(hn:n<=1048576):Calls Try.prog 20 #[.slice A n cap,.agg #[.int .i64 p,.int .i64 s]] w fun e w'=>∃ A1 c1,e=.returned (.tuple #[.slice A1 L c1,.int .i64 b])/\Ents w' A1 L xs/\MkE w.heap.size w' A1 (L*2)/\Below w.heap.size w w':=by
 subst hL;have t:=EB A n cap zs p s w Y (by omega);rw[hq] at t;refine t.mono ?_;rintro e w' ⟨v,rfl,O,B⟩;obtain⟨A,c,rfl,I,M⟩:=Ents.of_own O;exact⟨A,c,rfl,I,MkE.of_own O (by decide),B⟩
theorem D6(A:Option Addr)(n c:Nat)(zs:List En)(p s:Int)(w:World)(Y:Ents w A n zs)(hn0:n<=9223372036854775807) :
 Calls Try.prog 15 #[.slice A n c,.agg #[.int .i64 p,.int .i64 s]] w fun e w'=>e=.returned (.bool true)/\Below w.heap.size w w':=by
 have C0:=fun W=>Ga A n c 1048576 W hn0 (by omega) (by omega);by_cases hbig:1048576<n
 . rw[if_pos (by omega)] at C0;replace C0:=hid C0;go_enter Try.func15,Try.ntmps15;go_wp2_with fail;refine(C0.out _).mono ?_;rintro e wn ⟨rfl,rfl⟩;go_wp2;go_ret;exact⟨rfl,Ad (Ac w) _⟩
 rw[if_neg (by omega)] at C0;replace C0:=hid C0;have hn:n<=1048576:=by omega
 have hz0:decide ((1048576:Int)-(n:Int)<0)=false:=decide_eq_false (by omega);obtain⟨xs,b,hq⟩:∃ xs b,Am zs ⟨p,s⟩=(xs,b):=⟨_,_,rfl⟩;obtain⟨L,hL⟩:∃ L,xs.length=L:=⟨_,rfl⟩;have hL2:L<=1048576:=by have:=badd_max hq; have:=Y.1; omega
 have DV:=hid (CellsAt.new w w.heap.size [.int .i64 p,.int .i64 s] 44 rfl);have d0:=DV.out.cell 0 _ rfl;have d1:=DV.out.cell 1 _ rfl;have H:=hid (Ad (Ac w) (.cells #[.int .i64 p,.int .i64 s] 44));replace Y:=hid (Y.alloc (.cells #[.int .i64 p,.int .i64 s] 44));go_enter Try.func15,Try.ntmps15;go_wp2_with fail;refine(C0.out _).mono ?_;rintro e wn ⟨rfl,rfl⟩;go_wp2_with fail;refine wp_region_held_drew (S:=fun w'=>CellsAt w' w.heap.size [.int .i64 p,.int .i64 s]) (by kernel_rfl) DV.out.drew (fun hHeld=>?_);replace Y:=hid (Y.out.step (Ac _).drew);replace DV:=hid (DV.out.step (Ac _).drew);replace H:=hid (Cv H.out);refine tl 0 ?_ ?_ hHeld ?_
 rotate_left
 . intro w hSw
   try dsimp only at hSw
   go_simp
   all_goals with_reducible rfl
 try simp only[Act.put,sx]
 refine wpAnyH_take (i:=2) (oi:=_) (v:=.agg ([.int .i64 p,.int .i64 s]).toArray) rfl (by kernel_rfl) (by kernel_rfl) (by kernel_rfl) (fun _ _ _ h=>h) (yieldsIf_load_mid (by rfl) 44 (.tmp 3) rfl w.heap.size 0 rfl ([.int .i64 p,.int .i64 s]) _ (fun W hS=>hS.range) Try.underlying44 rfl FW) hHeld ?_
 try simp only[Act.put,sx]
 refine wpAnyH_ready (rs:=[1]) (by kernel_rfl) (by simp) ?_;apply AllReadyH.cons rfl ?_ AllReadyH.nil;intro K hK;go_simp
 go_at_call 37
 refine(D3 A n c zs _ Y.out hn).mono ?_;rintro e w1c ⟨u1,rfl,T1,hu1,hT1,hl1,B⟩;replace Y:=hid (Y.out.step B);replace DV:=hid (DV.out.step B);replace d0:=DV.out.cell 0 _ rfl;replace d1:=DV.out.cell 1 _ rfl;replace T1:=hid T1;replace H:=hid (Aa H.out B);have sz1:=B.size;clear B;clear hHeld;go_wp2_with fail;refine hK.out _ _ DV.out (fun hHeld=>?_);clear hK K
 try simp only[Act.put,sx]
 refine wpAnyH_ready (rs:=[3]) (by kernel_rfl) (by simp) ?_;apply AllReadyH.cons rfl ?_ AllReadyH.nil;intro K hK;go_simp
 go_at_call 39
 refine(EW p s _).mono ?_;rintro e w1 ⟨rfl,B⟩;replace Y:=hid (Y.out.step B);replace DV:=hid (DV.out.step B);replace T1:=hid (T1.out.step B);replace d0:=DV.out.cell 0 _ rfl;replace d1:=DV.out.cell 1 _ rfl;replace H:=hid (Aa H.out B);have sq1:=B.size;clear B;clear hHeld;go_wp2_with fail;refine hK.out _ _ DV.out (fun hHeld=>?_);clear hK K
 try simp only[Act.put,sx]
 refine wpAnyH_ready (rs:=[4]) (by kernel_rfl) (by simp) ?_;apply AllReadyH.cons rfl ?_ AllReadyH.nil;intro K hK;go_simp
 go_at_call 21
 refine(Gb _ n n zs p s xs b L hq hL _ T1.out (by omega)).mono ?_;rintro e w2 ⟨A2,c2,rfl,I2,M2,B⟩;replace Y:=hid (Y.out.step B);replace DV:=hid (DV.out.step B);replace d0:=DV.out.cell 0 _ rfl;replace d1:=DV.out.cell 1 _ rfl;replace T1:=hid (T1.out.step B);replace I2:=hid I2;replace H:=hid (Aa H.out B);have sz2:=B.size;clear B;have nV:=DV.out.lt;have n2w:=hid (show 0<L->∀ k off,A2=some ⟨k,off,none⟩->k<w2.heap.size from fun h0 k off e=>I2.out.lt h0 k off e);have nYw:=hid (show 0<n->∀ k off,A=some ⟨k,off,none⟩->k<w2.heap.size from fun h0 k off e=>Y.out.lt h0 k off e);clear M2 hT1;clear hHeld;go_wp2_with fail
 refine hK.out _ _ DV.out (fun hHeld=>?_);clear hK K
 try simp only[Act.put,sx]
 refine tl 5 ?_ ?_ hHeld ?_;rotate_left
 . intro w hSw
   try dsimp only at hSw
   go_simp
   all_goals with_reducible rfl
 try simp only[Act.put,sx]
 refine tl 6 ?_ ?_ hHeld ?_;rotate_left
 . intro w hSw
   try dsimp only at hSw
   go_simp
   all_goals with_reducible rfl
 try simp only[Act.put,sx]
 refine tl 7 ?_ ?_ hHeld ?_;rotate_left
 . intro w hSw
   try dsimp only at hSw
   go_simp
   all_goals with_reducible rfl
 try simp only[Act.put,sx]
 refine tl 8 ?_ ?_ hHeld ?_;rotate_left
 . intro w hSw
   try dsimp only at hSw
   go_simp
   all_goals with_reducible rfl
 try simp only[Act.put,sx]
 refine tl 9 ?_ ?_ hHeld ?_;rotate_left
 . intro w hSw
   try dsimp only at hSw
   go_simp
   all_goals with_reducible rfl
 try simp only[Act.put,sx]
 refine wpAnyH_done (by kernel_rfl) ?_ _;go_wp2_with fail;refine(D3 A n c zs _ Y.out hn).mono ?_;rintro e w3c ⟨u3,rfl,X3,hu3,hT3,hl3,B⟩;replace Y:=hid (Y.out.step B);replace DV:=hid (DV.out.step B);replace d0:=DV.out.cell 0 _ rfl;replace d1:=DV.out.cell 1 _ rfl;replace T1:=hid (T1.out.step B);replace I2:=hid (I2.out.step B);replace X3:=hid X3;replace H:=hid (Aa H.out B);have sz3:=B.size;clear B;have K3:=hid (show MkE w2.heap.size w3c (some ⟨u3,0,none⟩) (n*2) from fun _=>⟨u3,rfl,hu3,hl3,hT3⟩);clear hT3;go_wp2_with fail;refine(EW p s _).mono ?_;rintro e w3 ⟨rfl,B⟩;replace Y:=hid (Y.out.step B);replace DV:=hid (DV.out.step B)
 replace T1:=hid (T1.out.step B);replace I2:=hid (I2.out.step B);replace X3:=hid (X3.out.step B);replace K3:=hid (K3.out.step B);replace d0:=DV.out.cell 0 _ rfl;replace d1:=DV.out.cell 1 _ rfl;replace H:=hid (Aa H.out B);have sq3:=B.size;clear B;go_wp2_with fail;refine(FX _ n n zs p s xs b L hq hL _ X3.out (by omega)).mono ?_;rintro e w4 ⟨A4,c4,rfl,I4,K4,B⟩;replace Y:=hid (Y.out.step B);replace DV:=hid (DV.out.step B);replace d0:=DV.out.cell 0 _ rfl;replace d1:=DV.out.cell 1 _ rfl;replace T1:=hid (T1.out.step B);replace I2:=hid (I2.out.step B);replace X3:=hid (X3.out.step B);replace K3:=hid (K3.out.step B);replace I4:=hid I4
 replace K4:=hid K4;replace H:=hid (Aa H.out B);have sz4:=B.size;clear B;have n4w:=hid (show 0<L->∀ k off,A4=some ⟨k,off,none⟩->w3.heap.size<=k from fun h0 k off e=>by obtain⟨g,e1,h1,_⟩:=K4.out (by omega); rw[e] at e1; cases e1; exact h1);go_wp2_with fail;refine(A8 A4 A2 L c4 c2 xs _ I4.out I2.out hL2).mono ?_;rintro e w5 ⟨rfl,B⟩;replace Y:=hid (Y.out.step B);replace DV:=hid (DV.out.step B);replace d0:=DV.out.cell 0 _ rfl;replace d1:=DV.out.cell 1 _ rfl;replace T1:=hid (T1.out.step B);replace I2:=hid (I2.out.step B);replace X3:=hid (X3.out.step B);replace K3:=hid (K3.out.step B);replace I4:=hid (I4.out.step B)
 replace K4:=hid (K4.out.step B);replace H:=hid (Aa H.out B);have sz5:=B.size;clear B;go_wp2_with fail;refine(D3 A n c zs _ Y.out hn).mono ?_;rintro e w6 ⟨u6,rfl,T6,hu6,hT6,hl6,B⟩;replace Y:=hid (Y.out.step B);replace DV:=hid (DV.out.step B);replace d0:=DV.out.cell 0 _ rfl;replace d1:=DV.out.cell 1 _ rfl;replace T1:=hid (T1.out.step B);replace I2:=hid (I2.out.step B);replace X3:=hid (X3.out.step B);replace K3:=hid (K3.out.step B);replace I4:=hid (I4.out.step B);replace K4:=hid (K4.out.step B);replace T6:=hid T6;replace H:=hid (Aa H.out B);have sz6:=B.size;clear B;clear hT6;go_wp2_with fail
 refine(A8 _ _ n n n zs _ X3.out T6.out hn).mono ?_;rintro e w7 ⟨rfl,B⟩;replace Y:=hid (Y.out.step B);replace DV:=hid (DV.out.step B);replace d0:=DV.out.cell 0 _ rfl;replace d1:=DV.out.cell 1 _ rfl;replace T1:=hid (T1.out.step B);replace I2:=hid (I2.out.step B);replace X3:=hid (X3.out.step B);replace K3:=hid (K3.out.step B);replace I4:=hid (I4.out.step B);replace K4:=hid (K4.out.step B);replace T6:=hid (T6.out.step B);replace H:=hid (Aa H.out B);have sz7:=B.size;clear B;have nY:=hid (show 0<n->∀ k off,A=some ⟨k,off,none⟩->k<w2.heap.size from fun h0 k off e=>nYw.out h0 k off e);have n2:=n2w;have n4:=n4w;clear T1 T6;go_wp2_with fail
 refine(FU w2.heap.size (some ⟨u3,0,none⟩) n n 1 _ K3.out hn (by omega) (by have:=H.out.size; omega)).mono ?_;rintro e w8 ⟨rfl,X8,X8m,FR,B⟩;replace Y:=hid (Y.out.fr FR (fun h0 _ k off e e2=>by have:=nY.out h0 k off e; cases e2; omega));replace DV:=hid (DV.out.frE FR (fun _ e=>by cases e; omega));replace d0:=DV.out.cell 0 _ rfl;replace d1:=DV.out.cell 1 _ rfl;replace I2:=hid (I2.out.fr FR (fun h0 _ k off e e2=>by have:=n2.out h0 k off e; cases e2; omega));replace I4:=hid (I4.out.fr FR (fun h0 _ k off e e2=>by have:=n4.out h0 k off e; cases e2; omega))
 replace K4:=hid (K4.out.fr FR (fun h0 _ e=>by obtain⟨g,e1,h1,_⟩:=K4.out h0; rw[e1] at e; cases e; omega));replace X8:=hid X8;replace X8m:=hid X8m;replace H:=hid (H.out.trans (B.mono (by have:=H.out.size; omega)));have sz8:=FR.1;clear B FR;go_wp2_with fail;refine(A8 A4 A2 L c4 c2 xs _ I4.out I2.out hL2).mono ?_;rintro e w9 ⟨rfl,B⟩;replace Y:=hid (Y.out.step B);replace DV:=hid (DV.out.step B);replace d0:=DV.out.cell 0 _ rfl;replace d1:=DV.out.cell 1 _ rfl;replace I2:=hid (I2.out.step B);replace I4:=hid (I4.out.step B);replace K4:=hid (K4.out.step B);replace X8:=hid (X8.out.step B);replace X8m:=hid (X8m.out.step B)
 replace H:=hid (Aa H.out B);have sz9:=B.size;clear B;go_wp2_with fail;refine(FU w3.heap.size A4 L c4 1 _ K4.out hL2 (by omega) (by have:=H.out.size; omega)).mono ?_;rintro e w10 ⟨rfl,X10,X10m,FR,B⟩;replace Y:=hid (Y.out.fr FR (fun h0 _ k off e e2=>by have:=nY.out h0 k off e; have:=n4.out (by omega) _ _ e2; omega));replace DV:=hid (DV.out.frE FR (fun h0 e=>by have:=n4.out (by omega) _ _ e; omega));replace d0:=DV.out.cell 0 _ rfl;replace d1:=DV.out.cell 1 _ rfl;replace I2:=hid (I2.out.fr FR (fun h0 _ k off e e2=>by have:=n2.out h0 k off e; have:=n4.out (by omega) _ _ e2; omega));replace X10:=hid X10;replace X10m:=hid X10m
 replace H:=hid (H.out.trans (B.mono (by have:=H.out.size; omega)));have sz10:=FR.1;clear B FR;go_wp2_with fail;refine(FV A4 L c4 1 _ X10.out hL2 (by omega)).mono ?_;rintro e wn ⟨rfl,rfl⟩;go_wp2_with fail;refine wp_region_held_drew (S:=fun w'=>CellsAt w' w.heap.size [.int .i64 p,.int .i64 s]) (by kernel_rfl) DV.out.drew (fun hHeld=>?_);replace Y:=hid (Y.out.step (Ac _).drew);replace I2:=hid (I2.out.step (Ac _).drew);replace X10:=hid (X10.out.step (Ac _).drew);replace X10m:=hid (X10m.out.step (Ac _).drew);replace DV:=hid (DV.out.step (Ac _).drew);replace H:=hid (Cv H.out);refine tl 0 ?_ ?_ hHeld ?_;rotate_left
 . intro w hSw
   try dsimp only at hSw
   go_simp
   all_goals with_reducible rfl
 try simp only[Act.put,sx]
 refine wpAnyH_take (i:=2) (oi:=_) (v:=.agg ([.int .i64 p,.int .i64 s]).toArray) rfl (by kernel_rfl) (by kernel_rfl) (by kernel_rfl) (fun _ _ _ h=>h) (yieldsIf_load_mid (by rfl) 44 (.tmp 3) rfl w.heap.size 0 rfl ([.int .i64 p,.int .i64 s]) _ (fun W hS=>hS.range) Try.underlying44 rfl FW) hHeld ?_
 try simp only[Act.put,sx]
 refine wpAnyH_ready (rs:=[1]) (by kernel_rfl) (by simp) ?_;apply AllReadyH.cons rfl ?_ AllReadyH.nil;intro K hK;go_simp
 go_at_call 37
 refine(D3 A n c zs _ Y.out hn).mono ?_;rintro e w11c ⟨u11,rfl,T11,hu11,hT11,hl11,B⟩;replace Y:=hid (Y.out.step B);replace DV:=hid (DV.out.step B);replace d0:=DV.out.cell 0 _ rfl;replace d1:=DV.out.cell 1 _ rfl;replace I2:=hid (I2.out.step B);replace X10:=hid (X10.out.step B);replace X10m:=hid (X10m.out.step B);replace T11:=hid T11;replace H:=hid (Aa H.out B);have sz11:=B.size;clear B;clear hT11;clear hHeld;go_wp2_with fail;refine hK.out _ _ DV.out (fun hHeld=>?_);clear hK K
 try simp only[Act.put,sx]
 refine wpAnyH_ready (rs:=[3]) (by kernel_rfl) (by simp) ?_;apply AllReadyH.cons rfl ?_ AllReadyH.nil;intro K hK;go_simp
 go_at_call 39
 refine(EW p s _).mono ?_;rintro e w11 ⟨rfl,B⟩;replace Y:=hid (Y.out.step B);replace DV:=hid (DV.out.step B);replace I2:=hid (I2.out.step B);replace X10:=hid (X10.out.step B);replace X10m:=hid (X10m.out.step B);replace T11:=hid (T11.out.step B);replace d0:=DV.out.cell 0 _ rfl;replace d1:=DV.out.cell 1 _ rfl;replace H:=hid (Aa H.out B);have sq11:=B.size;clear B;clear hHeld;go_wp2_with fail;refine hK.out _ _ DV.out (fun hHeld=>?_);clear hK K
 try simp only[Act.put,sx]
 refine wpAnyH_ready (rs:=[4]) (by kernel_rfl) (by simp) ?_;apply AllReadyH.cons rfl ?_ AllReadyH.nil;intro K hK;go_simp
 go_at_call 20
 refine(FX _ n n zs p s xs b L hq hL _ T11.out (by omega)).mono ?_;rintro e w12 ⟨A12,c12,rfl,I12,K12,B⟩;replace Y:=hid (Y.out.step B);replace DV:=hid (DV.out.step B);replace d0:=DV.out.cell 0 _ rfl;replace d1:=DV.out.cell 1 _ rfl;replace I2:=hid (I2.out.step B);replace X10:=hid (X10.out.step B);replace X10m:=hid (X10m.out.step B);replace T11:=hid (T11.out.step B);replace I12:=hid I12;replace H:=hid (Aa H.out B);have sz12:=B.size;clear B;clear hHeld;go_wp2_with fail;refine hK.out _ _ DV.out (fun hHeld=>?_);clear hK K
 try simp only[Act.put,sx]
 refine tl 5 ?_ ?_ hHeld ?_;rotate_left
 . intro w hSw
   try dsimp only at hSw
   go_simp
   all_goals with_reducible rfl
 try simp only[Act.put,sx]
 refine tl 6 ?_ ?_ hHeld ?_;rotate_left
 . intro w hSw
   try dsimp only at hSw
   go_simp
   all_goals with_reducible rfl
 try simp only[Act.put,sx]
 refine tl 7 ?_ ?_ hHeld ?_;rotate_left
 . intro w hSw
   try dsimp only at hSw
   go_simp
   all_goals with_reducible rfl
 try simp only[Act.put,sx]
 refine tl 8 ?_ ?_ hHeld ?_;rotate_left
 . intro w hSw
   try dsimp only at hSw
   go_simp
   all_goals with_reducible rfl
 try simp only[Act.put,sx]
 refine tl 9 ?_ ?_ hHeld ?_;rotate_left
 . intro w hSw
   try dsimp only at hSw
   go_simp
   all_goals with_reducible rfl
 try simp only[Act.put,sx]
 refine wpAnyH_done (by kernel_rfl) ?_ _;go_wp2_with fail;refine(A8 A12 A2 L c12 c2 xs _ I12.out I2.out hL2).mono ?_;rintro e w13 ⟨rfl,B⟩;replace Y:=hid (Y.out.step B);replace DV:=hid (DV.out.step B);replace d0:=DV.out.cell 0 _ rfl;replace d1:=DV.out.cell 1 _ rfl;replace I2:=hid (I2.out.step B);replace X10:=hid (X10.out.step B);replace X10m:=hid (X10m.out.step B);replace T11:=hid (T11.out.step B);replace I12:=hid (I12.out.step B);replace H:=hid (Aa H.out B);have sz13:=B.size;clear B;go_wp2_with fail;refine(FV A4 L c4 1 _ X10.out hL2 (by omega)).mono ?_;rintro e wn ⟨rfl,rfl⟩;go_wp2;go_ret;exact⟨rfl,H.out⟩
end Go.Proofs.Ytgghhedkephohaa
