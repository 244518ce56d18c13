/-
  Proved: for every input the law FnDecodeCut returns true, each argument reads afterwards as it read before, and so does the package-level table of words that it reads; the table, and the library's tables, begin as the program's text lays them (the card ties it to that text). No other conditions.
-/
import Derived.Test.YtgbiagonfbnooaaGreatDoorCards
import Derived.Test.YtgbiagonfbnooaaGreatDoorTie
import Derived.Test.YtgbiagonfbnooaaGreatDoorZWords
import Derived.Lay
import Derived.ProofKit
import Derived.ShutString
import Derived.ChangeOld
import Derived.Lib.SmallJoins
import Derived.Deep.DeepHandedRow
import Derived.Test.YtgbiagonfbnooaaGreatDoorZDrawRepL
set_option linter.all false
set_option maxRecDepth 100000
set_option maxHeartbeats 8000000
namespace Go.Proofs.YtgbiagonfbnooaaGreatDoor
open Go.Lib
open Go.RowKit
open M
theorem Oi(a:Option Addr)(len cap:Nat)(zs:List Int)(a2:Option Addr)(len2 cap2:Nat)(zs2:List Int)(w:World)(h:IsRow .u8 w a len cap zs)(h2:IsRow .u8 w a2 len2 cap2 zs2)(T:TabsD w) :
 Calls Tryz.prog 5 #[.slice a len cap,.slice a2 len2 cap2] w fun e w'=>e=.returned (.bool true)/\Below w.heap.size w w':=by
 have T:=hid T;have hm:=h.bytes.1;have hm2:=h.bytes.2.1;have hm3:=h2.bytes.1;have hm4:=h2.bytes.2.1;unfold maxLen at hm2 hm4;by_cases g:1048576<len
 . have g1:(1048576:Int)<(len:Int):=by omega
   go_enter Tryz.func5,Tryz.ntmps5;go_wp2;go_ret;exact⟨rfl,Below.refl _ _⟩
 by_cases g2:1048576<len2
 . have g1:(len:Int)<=1048576:=by omega
   have g3:(1048576:Int)<(len2:Int):=by omega
   go_enter Tryz.func5,Tryz.ntmps5;go_wp2;go_ret;exact⟨rfl,Below.refl _ _⟩
 have g1:(len:Int)<=1048576:=by omega
 have g3:(len2:Int)<=1048576:=by omega
 have g4:(0:Int)<=(len2:Int):=by omega
 go_enter Tryz.func5,Tryz.ntmps5;go_wp2_with fail;refine(Ow a len cap zs w h).mono ?_;rintro e w1 ⟨s0,rfl,hs0,B⟩;obtain⟨t,rfl⟩:∃ t,s0=str t:=⟨tx s0,(Nn s0).symm⟩;have H:=hid B;clear B h h2 hm hm2 g;have C:=fun W (TW:TabsD W)=>KX (str t) W TW (by omega);have S:=fun W=>OH (str t) W (by omega);rw[Cz] at C S;cases ho:Nh t with
 | none =>
  rw[ho] at C S;have hb:rz.xs.length<=60/\rz.hs.length<=100:=by decide
  obtain⟨r0,hz⟩:∃ r0,rz=r0:=⟨_,rfl⟩;rw[hz] at hb;obtain⟨l,p,s,xs,hs,q⟩:=r0;have hr:(none:Option Rep).getD rz=⟨l,p,s,xs,hs,q⟩:=hz;obtain⟨hb1,hb2⟩:=hb;dsimp only at hb1 hb2;clear hz;replace C:=hid C;replace S:=hid S;go_wp2_with fail;refine(C.out _ (T.out.step H.out)).mono ?_;intro e w2 hD;obtain⟨A,n,c,HH,m,d,rfl,Y,Z,B⟩:=dec_of hD hr rfl;clear hD;simp only[Option.isSome_none,Option.isSome_some];obtain rfl:xs.length=n:=Y.1;obtain rfl:hs.length=m:=Z.1;generalize hxn:xs.length=n at *;generalize hhm:hs.length=m at *
  have D:CellsAt (w2.alloc (.cells #[.int .i64 l,.int .i64 p,.int .i64 s,.slice A n c,.slice HH m d,.int .i64 q] 26)) w2.heap.size (AR l p s A n c HH m d q):=CellsAt.new _ _ _ _ rfl;have BA:=Ab (Ac w2) (.cells #[.int .i64 l,.int .i64 p,.int .i64 s,.slice A n c,.slice HH m d,.int .i64 q] 26);replace Y:=hid (Y.step BA);replace Z:=hid (Z.step BA);replace H:=hid (Aa (Aa H.out B) BA);clear B BA;replace D:=hid D;go_wp2_with fail;refine(S.out _).mono ?_;intro e w3 hD;obtain⟨A2,n2,c2,H2,m2,d2,rfl,Y2,Z2,B⟩:=dec_of hD hr rfl;clear hD;simp only[Option.isSome_none,Option.isSome_some];obtain rfl:n=n2:=hxn.symm.trans Y2.1
  obtain rfl:m=m2:=hhm.symm.trans Z2.1;have BA:=Ab (Ac w3) (.cells #[.int .i64 l,.int .i64 p,.int .i64 s,.slice A2 n c2,.slice H2 m d2,.int .i64 q] 26);replace B:=Aa B BA;replace D:=hid (D.out.step B);replace Y:=hid (Y.out.step B);replace Z:=hid (Z.out.step B);replace H:=hid (Aa H.out B);replace Y2:=hid (Y2.step BA);replace Z2:=hid (Z2.step BA);have D2:CellsAt (w3.alloc (.cells #[.int .i64 l,.int .i64 p,.int .i64 s,.slice A2 n c2,.slice H2 m d2,.int .i64 q] 26)) w3.heap.size (AR l p s A2 n c2 H2 m d2 q):=CellsAt.new _ _ _ _ rfl;clear B BA S
  have X:=hid (fun W (q1:Inputs W A n xs) (q2:Ints W HH m hs) (q3:Inputs W A2 n xs) (q4:Ints W H2 m hs)=>D5 l p s A n c HH m d q A2 n c2 H2 m d2 xs hs W q1 q2 q3 q4 (by omega) (by omega));replace D:=D.out;have c0:=D.cell 0 _ rfl;have c1:=D.cell 1 _ rfl;have c2:=D.cell 2 _ rfl;have c3:=D.cell 3 _ rfl;have c4:=D.cell 4 _ rfl;have c5:=D.cell 5 _ rfl;have cl:=D.lt;have k0:=D2.cell 0 _ rfl;have k1:=D2.cell 1 _ rfl;have k2:=D2.cell 2 _ rfl;have k3:=D2.cell 3 _ rfl;have k4:=D2.cell 4 _ rfl;have k5:=D2.cell 5 _ rfl;have kl:=D2.lt;replace D:=hid D;replace D2:=hid D2;go_wp2_with fail;refine(X.out _ Y.out Z.out Y2.out Z2.out).mono ?_
  rintro e w4 ⟨rfl,B⟩;clear c0 c1 c2 c3 c4 c5 cl k0 k1 k2 k3 k4 k5 kl;replace D:=D.out.step B;replace D2:=D2.out.step B;replace Y:=hid (Y.out.step B);replace Z:=hid (Z.out.step B);replace Y2:=hid (Y2.out.step B);replace Z2:=hid (Z2.out.step B);replace H:=hid (Aa H.out B);clear B;have c0:=D.cell 0 _ rfl;have c1:=D.cell 1 _ rfl;have c2:=D.cell 2 _ rfl;have c3:=D.cell 3 _ rfl;have c4:=D.cell 4 _ rfl;have c5:=D.cell 5 _ rfl;have cl:=D.lt;have k0:=D2.cell 0 _ rfl;have k1:=D2.cell 1 _ rfl;have k2:=D2.cell 2 _ rfl;have k3:=D2.cell 3 _ rfl;have k4:=D2.cell 4 _ rfl;have k5:=D2.cell 5 _ rfl;have kl:=D2.lt;go_wp2_with fail
  refine(X.out _ Y.out Z.out Y2.out Z2.out).mono ?_;rintro e w5 ⟨rfl,B⟩;clear c0 c1 c2 c3 c4 c5 cl k0 k1 k2 k3 k4 k5 kl;replace H:=Aa H.out B;go_wp2;go_ret;exact⟨rfl,H⟩
 | some r =>
  obtain⟨hok,ht⟩:=OA ho;rw[ho] at C S;have hb1:r.xs.length<=60:=(AO.1 (DC hok).2.2.2.2.1).2;have hb2:r.hs.length<=100:=by have:=(DC hok).2.2.2.2.2.1; omega
  obtain⟨l,p,s,xs,hs,q⟩:=r;dsimp only at hb1 hb2;have hr:(some (⟨l,p,s,xs,hs,q⟩:Rep)).getD rz=⟨l,p,s,xs,hs,q⟩:=rfl;replace C:=hid C;replace S:=hid S;go_wp2_with fail;refine(C.out _ (T.out.step H.out)).mono ?_;intro e w2 hD;obtain⟨A,n,c,HH,m,d,rfl,Y,Z,B⟩:=dec_of hD hr rfl;clear hD;simp only[Option.isSome_none,Option.isSome_some];obtain rfl:xs.length=n:=Y.1;obtain rfl:hs.length=m:=Z.1;generalize hxn:xs.length=n at *;generalize hhm:hs.length=m at *
  have D:CellsAt (w2.alloc (.cells #[.int .i64 l,.int .i64 p,.int .i64 s,.slice A n c,.slice HH m d,.int .i64 q] 26)) w2.heap.size (AR l p s A n c HH m d q):=CellsAt.new _ _ _ _ rfl;have BA:=Ab (Ac w2) (.cells #[.int .i64 l,.int .i64 p,.int .i64 s,.slice A n c,.slice HH m d,.int .i64 q] 26);replace Y:=hid (Y.step BA);replace Z:=hid (Z.step BA);replace H:=hid (Aa (Aa H.out B) BA);clear B BA;replace D:=hid D;go_wp2_with fail;refine(S.out _).mono ?_;intro e w3 hD;obtain⟨A2,n2,c2,H2,m2,d2,rfl,Y2,Z2,B⟩:=dec_of hD hr rfl;clear hD;simp only[Option.isSome_none,Option.isSome_some];obtain rfl:n=n2:=hxn.symm.trans Y2.1
  obtain rfl:m=m2:=hhm.symm.trans Z2.1;have BA:=Ab (Ac w3) (.cells #[.int .i64 l,.int .i64 p,.int .i64 s,.slice A2 n c2,.slice H2 m d2,.int .i64 q] 26);replace B:=Aa B BA;replace D:=hid (D.out.step B);replace Y:=hid (Y.out.step B);replace Z:=hid (Z.out.step B);replace H:=hid (Aa H.out B);replace Y2:=hid (Y2.step BA);replace Z2:=hid (Z2.step BA);have D2:CellsAt (w3.alloc (.cells #[.int .i64 l,.int .i64 p,.int .i64 s,.slice A2 n c2,.slice H2 m d2,.int .i64 q] 26)) w3.heap.size (AR l p s A2 n c2 H2 m d2 q):=CellsAt.new _ _ _ _ rfl;clear B BA S
  have X:=hid (fun W (q1:Inputs W A n xs) (q2:Ints W HH m hs) (q3:Inputs W A2 n xs) (q4:Ints W H2 m hs)=>D5 l p s A n c HH m d q A2 n c2 H2 m d2 xs hs W q1 q2 q3 q4 (by omega) (by omega));replace D:=D.out;have c0:=D.cell 0 _ rfl;have c1:=D.cell 1 _ rfl;have c2:=D.cell 2 _ rfl;have c3:=D.cell 3 _ rfl;have c4:=D.cell 4 _ rfl;have c5:=D.cell 5 _ rfl;have cl:=D.lt;have k0:=D2.cell 0 _ rfl;have k1:=D2.cell 1 _ rfl;have k2:=D2.cell 2 _ rfl;have k3:=D2.cell 3 _ rfl;have k4:=D2.cell 4 _ rfl;have k5:=D2.cell 5 _ rfl;have kl:=D2.lt;replace D:=hid D;replace D2:=hid D2;go_wp2_with fail;refine(X.out _ Y.out Z.out Y2.out Z2.out).mono ?_
  rintro e w4 ⟨rfl,B⟩;clear c0 c1 c2 c3 c4 c5 cl k0 k1 k2 k3 k4 k5 kl;replace D:=D.out.step B;replace Y:=hid (Y.out.step B);replace Z:=hid (Z.out.step B);replace H:=hid (Aa H.out B);clear B D2 Y2 Z2 X;clear D Y Z C;obtain⟨M,hM⟩:∃ M,(str t).size=M:=⟨_,rfl⟩;have hMt:t.length=M:=by rw[<- Oo,hM]
  have hM1:0<M:=by
   obtain⟨_,v,hv⟩:=Oh ho;rw[<- hMt,hv]; simp
  rw[hM] at hs0;obtain⟨j,hj,hjM⟩:∃ j:Nat,(len2:Int).tmod (M:Int)=(j:Int)/\j<M:=⟨len2 % M,rfl,Nat.mod_lt _ hM1⟩;have hj2:(len2:Int) % (M:Int)=(j:Int):=by rw[<- hj]; exact(Int.tmod_eq_emod_of_nonneg g4).symm
  have c1:(j:Int)<=(M:Int):=by omega
  have nM:((M:Nat):Int)≠0:=by omega
  have C1:=fun W (TW:TabsD W)=>KX ((str t).extract 0 j) W TW (by rw[ByteArray.size_extract]; omega);rw[Hs,List.drop_zero,Cz,Cz,O8 ho (show j<t.length by omega)] at C1;have C2:=fun W (TW:TabsD W)=>KX (str (t++[10])) W TW (by rw[Oo]; simp; omega);rw[Cz,OV ho] at C2;have ex:(str t).extract 0 j=str (t.take j):=by rw[Hs,List.drop_zero,Cz]
  have ea:str t++⟨#[10]⟩=str (t++[10]):=CO t [10];replace C1:=hid C1;replace C2:=hid C2;go_wp2_with fail;refine(C1.out _ (T.out.step H.out)).mono ?_;intro e w5 hD;obtain⟨A5,n5,c5,H5,m5,d5,rfl,_,_,B⟩:=dec_of hD (show(none:Option Rep).getD rz=⟨0,0,0,[],[],0⟩ from rfl) rfl;clear hD;simp only[Option.isSome_none];replace H:=hid (Aa (Aa H.out B) (Ab (Ac w5) (.cells #[.int .i64 0,.int .i64 0,.int .i64 0,.slice A5 n5 c5,.slice H5 m5 d5,.int .i64 0] 26)));clear B C1;go_wp2_with fail;refine(C2.out _ (T.out.step H.out)).mono ?_;intro e w6 hD
  obtain⟨A6,n6,c6,H6,m6,d6,rfl,_,_,B⟩:=dec_of hD (show(none:Option Rep).getD rz=⟨0,0,0,[],[],0⟩ from rfl) rfl;clear hD;simp only[Option.isSome_none];replace H:=Ab (Aa H.out B) (.cells #[.int .i64 0,.int .i64 0,.int .i64 0,.slice A6 n6 c6,.slice H6 m6 d6,.int .i64 0] 26);go_wp2;go_ret;exact⟨rfl,H⟩
end Go.Proofs.YtgbiagonfbnooaaGreatDoor
set_option linter.all false
set_option maxRecDepth 100000
set_option maxHeartbeats 8000000
namespace Go.Proofs.YtgbiagonfbnooaaGreatDoor.fnDecodeCut
open Go.ChangeShapes Go.WideShapes Go.ChangeAt Go.RowKit Go.Joins
theorem contract(H:Type)(enc:TypeId × Value->H)(W:World)(base:Nat)(args:Array Value)(ds gs:List (DataW H))(before:List MemPlace)
 (hval0:∀(j:Nat) t v,Tryz.f5.params[j]?=some t->args[j]?=some v->Value.okWide Tryz.prog W .any base t v)
 (hW:DataW.Whole enc Tryz.prog Tryz.f5.params.toList Rows.fnDecodeCutSpec.vars false W args.toList ds gs before) (hSh:W.ShapedOpen Tryz.prog) (hL:laidMetH Tryz.prog Rows.fnDecodeCutRow.laid W) :
 Calls Tryz.prog 5 args W fun e W'=>∃ v,e=.returned v/\Rows.fnDecodeCutSpec.post enc Tryz.prog Tryz.f5 false true false false W args v W':=by
 have hL2:laidMet Tryz.prog Rows.fnDecodeCutRow.laid W:=(by rw[MakeChecks.laidMetH_plain _ _ _ (by kernel_rfl)] at hL; exact hL);have hQ:TabsD W:=Ln hL2 hSh (by simp[Rows.fnDecodeCutRow]) (by simp[Rows.fnDecodeCutRow]) (by simp[Rows.fnDecodeCutRow]) (by simp[Rows.fnDecodeCutRow]);have hval:∀(j:Nat) t v,Tryz.f5.params[j]?=some t->args[j]?=some v->Value.okWide Tryz.prog W .any base t v:=hval0;have hW':=hW;obtain⟨p,q,hA0,hV0,rfl,hfz,hnd⟩:=hW;have hA:DataW.TrodAll enc Tryz.prog W 0 (fun _=>true) true Tryz.f5.params.toList args.toList ds p:=hA0
 have hV:DataW.TrodVars enc Tryz.prog W (fun _=>true) ["loop.example/replayverifier/impl.lineWords"] gs q:=hV0;rw[Tryz.params5] at hA hval;obtain⟨v0,vs0,d0,ds0,p0,q0,hargs,rfl,rfl,h0,r0⟩:=trodAll_cons hA;obtain⟨v1,vs1,d1,ds1,p1,q1,rfl,rfl,rfl,h1,r1⟩:=trodAll_cons r0;obtain⟨rfl,rfl,rfl⟩:=trodAll_nil r1;obtain rfl:args=#[v0,v1]:=by cases args; simp_all
 obtain⟨a0,len0,cap0,rfl⟩:=okWide_slice Tryz.underlying22 (hval 0 22 v0 rfl rfl);have k0:=h0;have lt0:∀ x∈p0,x.block<W.heap.size:=by obtain⟨m,hm⟩:=k0; exact DataW.trod_lt m _ _ _ hm
 obtain⟨z0,w0⟩:∃ zs,IsRow .u8 W a0 len0 cap0 zs:=by
  obtain⟨fuel,hf⟩:=h0;rcases open_ints Tryz.underlying22 Tryz.underlying5 (by kernel_rfl) hf with⟨hcs,_⟩ | ⟨x,l,c,zs,hcs,_,hl,hm,hz,_,hcell,hwz⟩
  . simp[Value.cells] at hcs;obtain⟨rfl,rfl,rfl⟩:=hcs;exact⟨[],.inl ⟨rfl,rfl,rfl,rfl⟩⟩
  . simp[Value.cells] at hcs;obtain⟨rfl,rfl,rfl⟩:=hcs;exact⟨zs,.inr ⟨_,rfl,hl,hm,by simpa using hz,hcell,hwz⟩⟩
 obtain⟨a1,len1,cap1,rfl⟩:=okWide_slice Tryz.underlying22 (hval 1 22 v1 rfl rfl);have k1:=h1;have lt1:∀ x∈p1,x.block<W.heap.size:=by obtain⟨m,hm⟩:=k1; exact DataW.trod_lt m _ _ _ hm
 obtain⟨z1,w1⟩:∃ zs,IsRow .u8 W a1 len1 cap1 zs:=by
  obtain⟨fuel,hf⟩:=h1;rcases open_ints Tryz.underlying22 Tryz.underlying5 (by kernel_rfl) hf with⟨hcs,_⟩ | ⟨x,l,c,zs,hcs,_,hl,hm,hz,_,hcell,hwz⟩
  . simp[Value.cells] at hcs;obtain⟨rfl,rfl,rfl⟩:=hcs;exact⟨[],.inl ⟨rfl,rfl,rfl,rfl⟩⟩
  . simp[Value.cells] at hcs;obtain⟨rfl,rfl,rfl⟩:=hcs;exact⟨zs,.inr ⟨_,rfl,hl,hm,by simpa using hz,hcell,hwz⟩⟩
 clear hA0 hV0 hval0;refine(Oi a0 len0 cap0 z0 a1 len1 cap1 z1 W w0 w1 hQ).mono fun e W' ⟨he,bel⟩=>?_;subst he;obtain⟨g,q',rfl,hv'⟩:=Hx hV bel hQ.toTabs;exact⟨_,rfl,_,_,_,[],_,q',hW',trodAll_mk1 (shut_bool Tryz.underlying4 _),(trodAll_cons_mk (Below.trod GU (by kernel_rfl) (of_decide_eq_true (by kernel_rfl)) k0 bel lt0) (trodAll_cons_mk (Below.trod GU (by kernel_rfl) (of_decide_eq_true (by kernel_rfl)) k1 bel lt1) trodAll_mk0)),hv',bel.frame _,fun h=>by cases h⟩
theorem laid_met(os:Os):laidMet Tryz.prog Rows.fnDecodeCutRow.laid ((World.laidAll Tryz.prog os Rows.fnDecodeCutRow.laid).forCall (fun _ _=>0) ⟨#[],#[.slice none 0 0,.slice none 0 0],[]⟩).memory :=
 laidMet_laidAll _ (by kernel_rfl) (by kernel_rfl)
theorem reads(os:Os){H:Type}(enc:TypeId × Value->H):∃ places,DataW.whole enc Tryz.prog ((World.laidAll Tryz.prog os Rows.fnDecodeCutRow.laid).forCall (fun _ _=>0) ⟨#[],#[.slice none 0 0,.slice none 0 0],[]⟩).memory Tryz.f5.params.toList Rows.fnDecodeCutSpec.vars false (#[.slice none 0 0,.slice none 0 0]:Array Value).toList 8=some ([.nil,.nil],[Np],places) :=
 ⟨MemPlace.row ⟨0,0,none⟩ 4,by kernel_rfl⟩
theorem lifted(os:Os)(started:os.Started)(H:Type)(enc:TypeId × Value->H)(F:Stop.Interp) :
 ReturnsInHanded {} Tryz.checked os 5 .any ((OpenSpec.ofChange Rows.fnDecodeCutSpec).preRow enc Tryz.prog Tryz.f5 Rows.fnDecodeCutRow.domain false Rows.fnDecodeCutRow.laid) (((OpenSpec.ofChange Rows.fnDecodeCutSpec).at F).post enc Tryz.prog Tryz.f5 false true false false):=by
 obtain⟨places,hx⟩:=reads os enc;refine returnsInHanded_of_row (C:=Tryz.checked) (s:=OpenSpec.ofChange Rows.fnDecodeCutSpec) NZ started (by kernel_rfl) Tryz.func5
  (witness_row_at (enc:=enc) (C:=Tryz.checked) false (World.laidAll Tryz.prog os Rows.fnDecodeCutRow.laid) #[.slice none 0 0,.slice none 0 0] (World.laidAll_os _ _ _) (by kernel_rfl) (by kernel_rfl) (by kernel_rfl)
   (OpenSpec.preRow_of_cond 8 hx (by kernel_rfl) (fun k hk=>by cases hk) (by kernel_rfl) (laid_met os))) ?_
 intro W base args ds gs before hval hW _ _ _ hL hSh _;exact contract H enc W base args ds gs before hval hW hSh hL
theorem said:Rows.FnDecodeCutSaid :=
 OpenClaim.holds_of_cond 5 Tryz.f5 rfl rfl rfl rfl rfl rfl rfl ⟨rfl,rfl,rfl,rfl,rfl⟩ rfl rfl rfl rfl rfl (by kernel_rfl) Tryz.func5 (by kernel_rfl)
  (of_decide_eq_true (by kernel_rfl)) (by unfold Func.isWrapper; first | (rw[if_pos (by decide +kernel)]; kernel_rfl) | (rw[if_neg (by decide +kernel)]; exact⟨rfl,rfl⟩))
  (fun os started H enc _ F=>by rw[OpenClaim.pre_eq_preRow]; exact lifted os started H enc F)
theorem plain(f:FuncId)(fn:Func)(hf:Tryz.pinned.checked.prog.funcNamed "loop.example/replayverifier/laws.FnDecodeCut" = some f)(hfn:Tryz.pinned.checked.prog.funcs[f]?=some fn) :
 true=Tryz.pinned.checked.prog.looks []/\∀(j:Nat) t,fn.params[j]?=some t->Tryz.pinned.checked.prog.wantsStandIn t=false:=by
 obtain rfl:f=5:=Option.some.inj ((show Tryz.prog.funcNamed "loop.example/replayverifier/laws.FnDecodeCut" = some 5 by kernel_rfl).symm.trans hf) |>.symm;obtain rfl:fn=Tryz.f5:=(Option.some.inj (Tryz.func5.symm.trans hfn)).symm;refine⟨by kernel_rfl,fun j t ht=>?_⟩;rw[Tryz.params5] at ht;obtain rfl:t=22:=by simpa using Array.mem_of_getElem? ht
 exact(show Tryz.prog.wantsStandIn 22=false by kernel_rfl)
theorem proved:Rows.FnDecodeCutCardSaid :=
 Claim7.holds_tied_plain_at .later [] _ _ _ _ said (fun _ h=>by cases h) (by kernel_rfl) (fun _ h=>by cases h) fnDecodeCut_row_tie rfl ⟨rfl,rfl⟩ (by kernel_rfl) rfl plain (by kernel_rfl)
#print axioms proved
end Go.Proofs.YtgbiagonfbnooaaGreatDoor.fnDecodeCut
