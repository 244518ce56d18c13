import Derived.Deep.Cut
import Derived.Test.YtgbiagonfbnooaaGreatDoorZTxD
set_option linter.all false
set_option maxRecDepth 100000
set_option maxHeartbeats 8000000
open Go.Lib
namespace Go.Proofs.YtgbiagonfbnooaaGreatDoor
open Go.RowKit
open M
theorem Ix{P:Program}{code:Code}{Q:Exit->Act->World->Prop}{a:Act}{W:World}(S:World->Prop)(hS:S W)(h:∀ W',S W'->code.wp P Q a W'):code.wp P Q a W:=h W hS
theorem M.flatP_nx{ps:List Pt}{k:Nat}(h:k<ps.length):Aq (ps.take (k+1))=Aq (ps.take k)++[(ps.getD k pz).c,(ps.getD k pz).m]:=by
 rw[List.take_succ_eq_append_getElem h,List.getD_eq_getElem?_getD,List.getElem?_eq_getElem h];unfold Aq;rw[List.flatMap_append];rfl
def NN(w:World)(n:Nat)(ps:List Pt)(ov iv:Value)(W:World):Prop :=
 ∃ k:Nat,k<=n/\iv=.int .i64 k/\W.ownsRow w.heap.size 3 1 ov (Aq (ps.take k)).length ((Aq (ps.take k)).map (Value.int .i64))/\Below w.heap.size w W
theorem DZ(A:Option Addr)(n cap:Nat)(ps:List Pt)(w:World)(Y:Parts w A n ps)(hn:n<=1000000) :
 Calls Tryz.prog 17 #[.slice A n cap] w fun e w'=>∃ v,e=.returned v/\w'.ownsRow w.heap.size 3 1 v (Aq ps).length ((Aq ps).map (Value.int .i64))/\Below w.heap.size w w':=by
 have hl:=hid Y.1;have Y:=hid Y;have O:(w.alloc (.cells #[] 3)).ownsRow w.heap.size 3 1 (.slice (some ⟨w.heap.size,0,none⟩) 0 0) (Aq (ps.take 0)).length ((Aq (ps.take 0)).map (Value.int .i64)):=World.ownsRow_lit w #[] 0 (Nat.le_refl _) (Nat.zero_le _) rfl;have B:=Ab (Ac w) (.cells #[] 3);replace O:=hid O;replace B:=hid B;go_enter Tryz.func17,Tryz.ntmps17;go_wp2
 go_loopw [3,9] (NN w n ps) (fun _ i _=>n-(RowKit.intOf i).toNat)
 case atStart=>exact⟨0,Nat.zero_le _,rfl,O.out,B.out⟩
 case round =>
  clear O B;obtain⟨k,hk,rfl,O,B⟩:=hrel;by_cases hlt:k<n
  rotate_left
  . obtain rfl:k=n:=by omega
    have e1:ps.take k=ps:=List.take_of_length_le (by rw[hl.out]; exact Nat.le_refl _);rw[e1] at O;replace O:=hid O;replace B:=hid B;clear e1;go_wp2;go_ret;exact⟨_,rfl,O.out,B.out⟩
  obtain⟨b,off,rfl,hb,hc⟩:=Y.out.2 (by omega);obtain⟨c0,c1⟩:=(hc k hlt).of (B.block b hb);have hkl:k<ps.length:=by have:=hl.out; omega
  have en:=hid (flatP_nx hkl);have hfl:(Aq (ps.take k)).length=2*k:=by rw[BI,List.length_take]; omega
  clear hc;generalize ps.getD k pz=q at *;obtain⟨c,m⟩:=q;dsimp only at c0 c1 en;obtain⟨A1,ca,hv1,_⟩:=Ints.of_own O;subst hv1;have hob:w.heap.size<=wr.heap.size:=B.size;replace O:=hid O;replace B:=hid B;replace hfl:=hid hfl;go_upto_region 5 with fail;refine Ix (fun W'=>W'.ownsRow w.heap.size 3 1 (.slice A1 (Aq (ps.take k)).length ca) (Aq (ps.take k)).length ((Aq (ps.take k)).map (Value.int .i64))/\CellsAt W' wr.heap.size [.int .i64 c,.int .i64 m]/\Below w.heap.size w W') ⟨O.out.alloc _,CellsAt.new _ _ _ _ rfl,Ab B.out _⟩ ?_;clear O B c0 c1;generalize wr.heap.size=sb at *;rintro w3 ⟨O,X,B⟩;have g0:=X.cell 0 _ rfl;have g1:=X.cell 1 _ rfl
  have g3:=X.lt;have hsz:=B.size;replace O:=hid O;replace B:=hid B;go_wp2_with (go_loud (at_builtin; refine AP _ rfl (.tmp 13) (.tmp 18) rfl w.heap.size (Value.slice A1 (Aq (ps.take k)).length ca) (Aq (ps.take k)).length (Aq (ps.take k)) rfl (O.out.alloc _) (some ⟨w3.heap.size,0,none⟩) 2 2 [c,m] rfl (Ints.two w3 c m _) (by rw[hfl.out]; omega) (by simp; omega) ?_));intro v' w9 O9 G9 hB9;have B9:=(Ab B.out _).grown G9 (by simp; omega) (fun g' e=>by have:=(O.out.lt g' e).1; omega);have O9:=(show w9.ownsRow w.heap.size 3 1 v' (Aq (ps.take (k+1))).length ((Aq (ps.take (k+1))).map (Value.int .i64)) from by
   rw[en.out,List.length_append]; simpa using O9)
  replace O9:=hid O9;replace B9:=hid B9;clear G9 O B hB9 X g0 g1 g3 hfl;go_wp2
  go_roundw
  case rel=>exact⟨k+1,by omega,by go_num,O9.out,B9.out⟩
  case measure=>simp[RowKit.intOf]; omega
open Go.RowKit
open M
def NO(w:World)(base sb:Nat)(ws:List Tx)(ov iv:Value)(W:World):Prop :=
 ∃(k:Nat) (ls:List (List Int)) (vs:List Value),k<=4/\iv=.int .i64 k/\lnsP ws k=some ls/\W.ownsRow base 24 1 ov k vs/\RowsAt w.heap.size W ov.ownBlock vs ls/\Strs W (some ⟨sb,0,none⟩) 5 (ws.map str)/\base<=W.heap.size/\Below w.heap.size w W
theorem M.pcs_le{s:Tx}:∀ w∈FU s,w.length<=s.length:=by
 have key:∀(k:Nat) (s:Tx),∀ w∈Go.Lib.splitK [10] 0 k s,w.length<=s.length:=by
  intro k
  induction k with
  | zero=>intro s w h; rw[Go.Lib.splitK,List.mem_singleton] at h; rw[h]; exact Nat.le_refl _
  | succ k ih =>
   intro s w h;rw[Go.Lib.splitK] at h;split at h
   . rw[List.mem_singleton] at h; rw[h]; exact Nat.le_refl _
   . rcases List.mem_cons.1 h with rfl | h
     . rw[List.length_take]; omega
     . have:=ih _ w h; rw[List.length_drop] at this; omega
 exact key _ _
theorem GG(s:ByteArray)(w:World)(T:TabsD w)(hs:s.size<=2097152) :
 Calls Tryz.prog 21 #[.string s] w (Jd w (linesP (tx s))):=by
 have C:=KT s w T hs;have hle:=@pcs_le (tx s);have e0:linesP (tx s)=if (FU (tx s)).length=5/\(FU (tx s)).getD 4 []=[] then lnsP (FU (tx s)) 4 else none:=rfl;rw[BV] at hle;generalize linesP (tx s)=o at *;generalize FU (tx s)=ws at *;replace C:=hid C;replace e0:=hid e0;replace T:=hid T;replace hle:=hid hle;go_enter Tryz.func21,Tryz.ntmps21;go_wp2_with fail;refine C.out.mono ?_;rintro e w1 ⟨c,rfl,S,B⟩;clear C;have B0:=B;replace B:=hid B;by_cases h5:ws.length=5
 rotate_left
 . have e1:=hid (show o=none by rw[e0.out,if_neg fun x=>h5 x.1]);have hn:((ws.length:Int) != 5)=true:=by rw[bne_iff_ne]; omega
   clear e0 S h5 B0;go_wp2
   go_ret2
   exact⟨_,by rw[e1.out]; rfl,(by rw[e1.out]; intro l h; cases h),B.out⟩
 rw[h5] at S;have S0:=hid S;obtain⟨sb',off',ea,hsb,hcell⟩:=S.2 (by omega);cases ea
 have s4:=hcell 4 (by omega);have ew:(ws.map str).getD 4 ByteArray.empty=str (ws.getD 4 []):=by
  rw[List.getD_eq_getElem?_getD,List.getD_eq_getElem?_getD,List.getElem?_map,List.getElem?_eq_getElem (by omega)]; rfl
 rw[ew] at s4;rw[h5];clear hcell S ew;by_cases hq:ws.getD 4 []=[]
 rotate_left
 . have e1:=hid (show o=none by rw[e0.out,if_neg fun x=>hq x.2]);have hq2:(ws.getD 4 []==([]:List UInt8))=false:=by rw[beq_eq_false_iff_ne]; exact hq
   clear e0 h5 B0 hq S0 hle;generalize ws.getD 4 []=u at *;go_wp2
   go_ret2
   exact⟨_,by rw[e1.out]; rfl,(by rw[e1.out]; intro l h; cases h),B.out⟩
 have e1:=hid (show o=lnsP ws 4 by rw[e0.out,if_pos ⟨h5,hq⟩]);have T1:=hid ((T.out.step B0).alloc (.cells #[] 24));rw[hq] at s4;clear e0 B0 hq;replace h5:=hid h5;have O:(w1.alloc (.cells #[] 24)).ownsRow w1.heap.size 24 1 (.slice (some ⟨w1.heap.size,0,none⟩) 0 0) 0 []:=World.ownsRow_lit w1 #[] 0 (Nat.le_refl _) (Nat.zero_le _) rfl;have B1:=hid (Ab B.out (.cells #[] 24));have S1:=hid (S0.out.alloc (.cells #[] 24));replace O:=hid O;clear B S0;go_upto_region 5 with fail
 refine Ix (fun W=>TabsD W/\W.ownsRow w1.heap.size 24 1 (.slice (some ⟨w1.heap.size,0,none⟩) 0 0) 0 []/\Strs W (some ⟨w.heap.size,0,none⟩) 5 (ws.map str)/\Below w.heap.size w W/\w1.heap.size<=W.heap.size) ⟨T1.out,O.out,S1.out,B1.out,by simp⟩ ?_;clear T1 O S1 B1 s4;generalize w1.heap.size=base at *;rintro w2 ⟨T2,O,S2,B2,hz2⟩;have l0:=T2.l0;have l1:=T2.l1;have l2:=T2.l2;have l3:=T2.l3;replace T2:=hid T2;replace O:=hid O;replace S2:=hid S2;replace B2:=hid B2;go_wp2
 go_loopw [5,23] (NO w base w.heap.size ws) (fun _ i _=>4-(RowKit.intOf i).toNat)
 case atStart=>exact⟨0,[],[],Nat.zero_le _,rfl,rfl,O.out,⟨rfl,fun i hi=>absurd hi (by simp)⟩,S2.out,hz2,B2.out⟩
 case round =>
  clear O S2 B2 hz2 l0 l1 l2 l3;obtain⟨k,ls,vs,hk,rfl,hl,O,R,S,hz,B⟩:=hrel;have hlo0:=hid B.size;obtain⟨A1,ca,hv1⟩:=Jc O;subst hv1;by_cases hlt:k<4
  rotate_left
  . obtain rfl:k=4:=by omega
    have e2:=hid (e1.out.trans hl);have hll:=hid (lnsP_len hl);replace O:=hid O;replace R:=hid R;replace B:=hid B;clear hl S;go_wp2;exact bodyPost_ret (v:=.tuple #[_,.bool true]) (by simp[results,Tryz.results21,go_sem]; rfl) rfl ⟨_,by rw[e2.out]; rfl,(fun ls' h=>by rw[e2.out] at h; cases h; exact⟨base,vs,by rw[hll.out]; exact O.out,R.out⟩),B.out⟩
  obtain⟨b0,off0,ea,hsb2,hcell⟩:=S.2 (by omega);cases ea
  have cc:=hcell k (by omega);have hkl:k<ws.length:=by have:=h5.out; omega
  have ew:(ws.map str).getD k ByteArray.empty=str (ws.getD k []):=by
   rw[List.getD_eq_getElem?_getD,List.getD_eq_getElem?_getD,List.getElem?_map,List.getElem?_eq_getElem hkl]; rfl
  rw[ew,Nat.zero_add] at cc;have hsz:(str (ws.getD k [])).size<=2097152:=by
   have:=hle.out (ws.getD k []) (by rw[List.getD_eq_getElem?_getD,List.getElem?_eq_getElem hkl]; exact List.getElem_mem hkl);rw[<- BV,Cz]; omega
  have C:=fun W TW=>Ff (str (ws.getD k [])) (str (keyW k)) W TW hsz;rw[Cz,Cz] at C;have en:lnsP ws (k+1)=(BE (ws.getD k []) (keyW k)).map (ls++[·]):=by rw[lnsP,hl]
  have bad:BE (ws.getD k []) (keyW k)=none->o=none:=fun h=>by
   rw[e1.out,show 4=(k+1)+(3-k) by omega];exact lnsP_no (by rw[en,h]; rfl) _
  have T3:=hid (T.out.step B);have hob:∀ g,(Value.slice A1 k ca).ownBlock=some g->base<=g/\g<wr.heap.size:=fun g e=>O.lt g e;replace hob:=hid hob;replace en:=hid en;replace bad:=hid bad;replace C:=hid C;replace O:=hid O;replace R:=hid R;replace S:=hid S;replace B:=hid B;clear hcell hl hkl ew hsz hsb2;generalize ws.getD k []=u at *;have i0:∀ w,(Instr.index 37 (.agg #[.string (str kR),.string (str kI),.string (str kH),.string (str kT)]) (.int .i64 0)).run Tryz.prog w=.ok (.string (str kR)) w:=fun _=>by kernel_rfl
  have i1:∀ w,(Instr.index 37 (.agg #[.string (str kR),.string (str kI),.string (str kH),.string (str kT)]) (.int .i64 1)).run Tryz.prog w=.ok (.string (str kI)) w:=fun _=>by kernel_rfl
  have i2:∀ w,(Instr.index 37 (.agg #[.string (str kR),.string (str kI),.string (str kH),.string (str kT)]) (.int .i64 2)).run Tryz.prog w=.ok (.string (str kH)) w:=fun _=>by kernel_rfl
  have i3:∀ w,(Instr.index 37 (.agg #[.string (str kR),.string (str kI),.string (str kH),.string (str kT)]) (.int .i64 3)).run Tryz.prog w=.ok (.string (str kT)) w:=fun _=>by kernel_rfl
  rcases(show k=0\/k=1\/k=2\/k=3 by omega) with rfl | rfl | rfl | rfl
  all_goals
   go_wp2_with fail;refine(C.out _ T3.out).mono ?_;rintro e w3 ⟨v3,rfl,hv3,B3⟩;clear i0 i1 i2 i3 cc C;replace O:=hid (KQ O.out B3);replace R:=hid (R.out.step B3);replace S:=hid (S.out.step B3);have hz3:=Nat.le_trans hz B3.size;replace B:=hid (Aa B.out B3);clear B3 T3;generalize hlp:BE _ _=lp at en bad hv3;cases lp with
   | none =>
    have e2:=hid (bad.out rfl);clear bad en hv3 hlp;go_wp2;exact bodyPost_ret (v:=.tuple #[_,.bool false]) (by simp[results,Tryz.results21,go_sem]; rfl) rfl ⟨_,by rw[e2.out]; rfl,(by rw[e2.out]; intro l h; cases h),B.out⟩
   | some l =>
    have hv3l:=hv3 l rfl;obtain⟨A,c3,rfl,I,hA⟩:=Ints.of_own' hv3l;have hcp:=And.intro (KU hv3l) (fun g off (e:A=some ⟨g,off,none⟩)=>Nat.le_trans hlo0.out (hA g off e).1);clear hv3l;replace hcp:=hid hcp;replace I:=hid I;replace hA:=hid hA;clear bad hv3 hlp;go_wp2_with (go_loud (at_builtin; refine Ho _ rfl (.tmp 38) (.tmp 40) rfl base (Value.slice A1 _ ca) _ vs rfl (O.out.alloc _) w3.heap.size (.slice A l.length c3) rfl (by simp) rfl (by omega) (by simp; omega) ?_));intro v' w9 O9 G9 hB9;have hz4:=B.out.size;have B9:=(Ab B.out _).grown G9 (by simp; omega) (fun g' e=>by have:=(hob.out g' e).1; omega)
    have S9:=(S.out.alloc _).grown' G9 (fun g off e e2=>by cases e; have:=(hob.out _ e2).1; omega);have R9:=RowsAt.next (R.out.step (Ab (Ac _) _)) (c:=c3) hcp.out (I.out.alloc _) (fun g off e=>⟨by have:=(hA.out g off e).2; simp; omega,fun e2=>by have:=(hob.out g e2).2; have:=(hA.out g off e).1; omega⟩) G9 (hB9.imp id fun h=>⟨w3.heap.size+1,h,by simp⟩);have hz9:base<=w9.heap.size:=by have:=G9.size; simp at this; omega
    replace O9:=hid O9;replace B9:=hid B9;replace S9:=hid S9;replace R9:=hid R9;replace hz9:=hid hz9;clear G9 O B S R hB9 I hA hob hz hz3 hz4;go_wp2
    go_roundw
    case rel=>exact⟨_,_,_,by omega,by go_num,en.out,O9.out,R9.out,S9.out,hz9.out,B9.out⟩
    case measure=>simp[RowKit.intOf]
end Go.Proofs.YtgbiagonfbnooaaGreatDoor
