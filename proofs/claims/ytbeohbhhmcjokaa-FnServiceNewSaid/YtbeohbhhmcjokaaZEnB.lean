import Derived.Test.YtbeohbhhmcjokaaZEnV
set_option linter.all false
set_option maxRecDepth 100000
set_option maxHeartbeats 8000000
open Go.Lib
namespace Go.Proofs.Ytbeohbhhmcjokaa
open Go.RowKit
open M
theorem GV(A:Option Addr)(n cap:Nat)(xs:List En)(w:World)(Y:Ents w A n xs)(hn:n<=281474976710656) :
 Calls Try.prog 80 #[.slice A n cap] w fun e w'=>e=.returned (.bool (CF xs))/\Below w.heap.size w w':=by
 have hl:=hid Y.1;have Y:=hid Y;by_cases h4:4<n
 . have g4:decide ((4:Int)<(n:Int))=true:=decide_eq_true (by omega);have E:=hid (show CF xs=false by rw[CF,decide_eq_false (show ¬ xs.length<=4 by have:=hl.out; omega),Bool.and_false]);go_enter Try.func80,Try.ntmps80;go_wp2;go_ret;exact⟨Ad E.out.symm,Ac w⟩
 have g4:decide ((4:Int)<(n:Int))=false:=decide_eq_false (by omega);go_enter Try.func80,Try.ntmps80;go_wp2
 go_loopw [10] (GF w n xs) (fun i _=>n-(RowKit.intOf i).toNat)
 case atStart=>exact⟨0,Nat.zero_le _,rfl,rfl,Ac w⟩
 case round =>
  obtain⟨k,hk,rfl,ha,B⟩:=hrel;by_cases hlt:k<n
  . obtain⟨b,off,hA,hb,hc⟩:=(Y.out.step B).2 (by omega);subst hA;obtain⟨z0,z1⟩:=hc k hlt;have hkl:k<xs.length:=by have:=hl.out; omega
    have hfu:=Cf (xs:=xs) (pl:=(xs.getD k ez).p) hkl rfl;have hfi:Gg xs (xs.getD k ez).p=(AG xs (xs.getD k ez).p:Int):=by rw[Gg,if_pos (by omega)]
    have eb:=fun h=>E7 hkl (h:EZ xs k=false);have et:=Cg xs k;rw[ha,Bool.true_and] at et;have ys1:=hid (show ∀ W:World,Below w.heap.size w W->W.cell? ⟨b,off+(k-1)*2+1,none⟩=some (.int .i64 (xs.getD (k-1) ez).s) from fun W hW=>by
     obtain⟨b',off',e',_,hc'⟩:=(Y.out.step hW).2 (by omega);cases e'
     exact(hc' (k-1) (by omega)).c1)
    have hbe:EZ xs k=(CE (xs.getD k ez)&&(decide (k=0)||decide ((xs.getD (k-1) ez).s<=(xs.getD k ez).s))&&decide (AG xs (xs.getD k ez).p=k)):=rfl;rw[hbe] at eb et;generalize xs.getD k ez=q at *;obtain⟨zp,zs⟩:=q;dsimp only at z0 z1 hfu hfi eb et;generalize (xs.getD (k-1) ez).s=ys at *;have hfi:=hid hfi;have eb:=hid eb;have et:=hid et;clear hc ha hbe;have B:=hid B;have D:CellsAt (wr.alloc (.cells #[.int .i64 zp,.int .i64 zs] 88)) wr.heap.size [.int .i64 zp,.int .i64 zs]:=CellsAt.new wr _ _ _ rfl;have BA:=hid (Ab B.out (.cells #[.int .i64 zp,.int .i64 zs] 88));have D:=hid D;cases hv:CE ⟨zp,zs⟩
    . replace hv:=hid hv;clear et;go_wp2_with fail;refine(Bv zp zs _).mono ?_;rintro e w1 ⟨rfl,B1⟩;rw[hv.out];replace D:=hid (D.out.step B1);replace BA:=hid (Aa BA.out B1);have d0:=D.out.cell 0 _ rfl;have d1:=D.out.cell 1 _ rfl;clear B1 z0 z1;go_wp2;go_ret;exact⟨Ad (eb.out (by rw[hv.out]; first | done | rfl)).symm,BA.out⟩
    replace hv:=hid hv;by_cases hf:AG xs zp=k
    rotate_left
    . have hdf:=hid (show decide (AG xs zp=k)=false from decide_eq_false hf);have hne:((AG xs zp:Int) != (k:Int))=true:=by simp; omega
      have hne2:(AG xs zp != k)=true:=by simp; omega
      clear et;go_wp2_with fail;refine(Bv zp zs _).mono ?_;rintro e w1 ⟨rfl,B1⟩;rw[hv.out];replace D:=hid (D.out.step B1);replace BA:=hid (Aa BA.out B1);have d0:=D.out.cell 0 _ rfl;have d1:=D.out.cell 1 _ rfl;clear B1 z0 z1;go_wp2_with fail;refine(Ba _ n cap xs zp _ (Y.out.step BA.out) hn).mono ?_;rintro e w2 ⟨rfl,B2⟩;rw[hfi.out];replace D:=hid (D.out.step B2);replace BA:=hid (Aa BA.out B2);have d0:=D.out.cell 0 _ rfl;have d1:=D.out.cell 1 _ rfl;have y1:=ys1.out _ BA.out;clear B2;go_wp2;go_ret;exact⟨Ad (eb.out (by rw[hdf.out,Bool.and_false])).symm,BA.out⟩
    have hdf:=hid (show decide (AG xs zp=k)=true from decide_eq_true hf);have hne:((AG xs zp:Int) != (k:Int))=false:=by simp; omega
    have hne2:(AG xs zp != k)=false:=by simp; omega
    by_cases h0:k=0
    . have g0:decide ((0:Int)<(k:Int))=false:=decide_eq_false (by omega);have g1:decide (0<k)=false:=decide_eq_false (by omega);have g2:¬ 0<k:=by omega
      have et:=hid (show E1 xs (k+1)=true from et.out.trans (by rw[hv.out,hdf.out,decide_eq_true h0]; first | done | rfl));replace h0:=hid h0;replace hf:=hid hf;clear eb;go_wp2_with fail;refine(Bv zp zs _).mono ?_;rintro e w1 ⟨rfl,B1⟩;rw[hv.out];replace D:=hid (D.out.step B1);replace BA:=hid (Aa BA.out B1);have d0:=D.out.cell 0 _ rfl;have d1:=D.out.cell 1 _ rfl;clear B1 z0 z1;go_wp2_with fail;refine(Ba _ n cap xs zp _ (Y.out.step BA.out) hn).mono ?_;rintro e w2 ⟨rfl,B2⟩;rw[hfi.out];replace D:=hid (D.out.step B2);replace BA:=hid (Aa BA.out B2);have d0:=D.out.cell 0 _ rfl;have d1:=D.out.cell 1 _ rfl;have y1:=ys1.out _ BA.out
      clear B2;go_wp2_with fail
      go_quiet (fail)
      go_wp2
      go_roundw
      case rel=>exact⟨k+1,by omega,by go_num,et.out,by first | with_reducible exact BA.out | with_reducible exact Ar BA.out _⟩
      case measure=>simp[RowKit.intOf]; omega
    have g0:decide ((0:Int)<(k:Int))=true:=decide_eq_true (by omega);have g1:decide (0<k)=true:=decide_eq_true (by omega);have g2:0<k:=by omega
    have hk1:IntKind.i64.wrap ((k:Int)-1)=((k-1:Nat):Int):=by rw[IntWalk.i64_in _ (by omega)]; omega
    have hk2:(k:Int)-1=((k-1:Nat):Int):=by omega
    have hk3:k-1<n:=by omega
    have hk5:IntKind.i64.wrap ((k-1:Nat):Int)=((k-1:Nat):Int):=IntWalk.i64_in _ (by omega);have d0k:=hid (show decide (k=0)=false from decide_eq_false h0);replace h0:=hid h0;replace hf:=hid hf;by_cases hd:ys<=zs
    . have hdg:decide (zs<ys)=false:=decide_eq_false (by omega);have et:=hid (show E1 xs (k+1)=true from et.out.trans (by rw[hv.out,hdf.out,decide_eq_true hd]; simp));clear eb hd;go_wp2_with fail;refine(Bv zp zs _).mono ?_;rintro e w1 ⟨rfl,B1⟩;rw[hv.out];replace D:=hid (D.out.step B1);replace BA:=hid (Aa BA.out B1);have d0:=D.out.cell 0 _ rfl;have d1:=D.out.cell 1 _ rfl;clear B1 z0 z1;go_wp2_with fail;refine(Ba _ n cap xs zp _ (Y.out.step BA.out) hn).mono ?_;rintro e w2 ⟨rfl,B2⟩;rw[hfi.out];replace D:=hid (D.out.step B2);replace BA:=hid (Aa BA.out B2);have d0:=D.out.cell 0 _ rfl;have d1:=D.out.cell 1 _ rfl
      have y1:=ys1.out _ BA.out;clear B2;go_wp2_with fail
      go_quiet (fail)
      go_wp2
      go_roundw
      case rel=>exact⟨k+1,by omega,by go_num,et.out,by first | with_reducible exact BA.out | with_reducible exact Ar BA.out _⟩
      case measure=>simp[RowKit.intOf]; omega
    . have hdg:decide (zs<ys)=true:=decide_eq_true (by omega);have hdec:=hid (show decide (ys<=zs)=false from decide_eq_false hd);clear et hd;go_wp2_with fail;refine(Bv zp zs _).mono ?_;rintro e w1 ⟨rfl,B1⟩;rw[hv.out];replace D:=hid (D.out.step B1);replace BA:=hid (Aa BA.out B1);have d0:=D.out.cell 0 _ rfl;have d1:=D.out.cell 1 _ rfl;clear B1 z0 z1;go_wp2_with fail;refine(Ba _ n cap xs zp _ (Y.out.step BA.out) hn).mono ?_;rintro e w2 ⟨rfl,B2⟩;rw[hfi.out];replace D:=hid (D.out.step B2);replace BA:=hid (Aa BA.out B2);have d0:=D.out.cell 0 _ rfl;have d1:=D.out.cell 1 _ rfl;have y1:=ys1.out _ BA.out;clear B2;go_wp2_with fail
      go_quiet (fail)
      go_wp2;go_ret;exact⟨Ad (eb.out (by rw[hdec.out,d0k.out]; simp)).symm,by first | with_reducible exact BA.out | with_reducible exact Ar BA.out _⟩
  . obtain rfl:k=n:=by omega
    have B:=hid B;have E:=hid (show CF xs=true by rw[CF,hl.out,ha,Bool.true_and]; exact decide_eq_true (by omega));clear ha;go_wp2;go_ret;exact⟨Ad E.out.symm,B.out⟩
open Go.RowKit
open M
theorem Dk(w:World):(Instr.buildSlice 68 0 #[]).run Try.prog w=.ok (.slice (some ⟨w.heap.size,0,none⟩) 0 0) (w.alloc (.cells #[] 88)):=by
 obtain⟨i0,hi,hz0,hz1,hz2⟩:=info_parts Bt;simp[Instr.buildSlice,run_underlying Try.underlying68,sizeOf,typeInfo,hi,Instr.fill,newRow]
 first | rfl | kernel_rfl | simp[Array.range]
theorem Ck{w:World}{o:Oper}{a:Act}{K:Act->World->Prop}{Q:Exit->Act->World->Prop}(hop:o.op=.buildSlice 68 0 #[])
 (h:∀(g:Nat) (w':World),Below w.heap.size w w'->w.heap.size<=g->w'.ownsRow g 88 2 (.slice (some ⟨g,0,none⟩) 0 0) 0 (BF [])->K (a.put o.dst (.slice (some ⟨g,0,none⟩) 0 0)) w'):o.wp Try.prog a w K Q:=by
 unfold Oper.wp execOp;simp only[hop,Sem.run_bind,List.map_toArray,List.map_nil,Dk,Result.andThen_ok];exact h _ _ (Ab (Ac w) _) (Nat.le_refl _) (Az w _ _ rfl (Nat.le_refl _))
theorem Bs{w:World}{o:Oper}{a:Act}{K:Act->World->Prop}{Q:Exit->Act->World->Prop}(s x:Operand)
 (ho:o.op=.call { callee:=.builtin .append,args:=#[s,x],argTypes:=#[68,68] }) (base:Nat) (v:Value) (n:Nat) (qs:List En) (hs:a.eval s=v) (hown:w.ownsRow base 88 2 v n (BF qs))
 (A:Option Addr) (m c:Nat) (xs:List En) (hx:a.eval x=.slice A m c) (I:Ents w A m xs) (hn:n+m<=10000000) (hb:base<=w.heap.size)
 (h:∀ v' w',w'.ownsRow base 88 2 v' (n+m) (BF (qs++xs))->w.grownBy w' v.ownBlock->K (a.put o.dst v') w'):o.wp Try.prog a w K Q:=by
 obtain⟨v',w',hr,h2,h3,_⟩:=AU w base o.type v n qs hown A m c xs I hn hb;unfold Oper.wp execOp;simp only[ho,resolve,invoke,builtin,Sem.run_bind,Sem.run_pure,Result.andThen_ok,List.map_toArray,List.map_cons,List.map_nil,hs,hx,hr];exact h v' w' h2 h3
theorem CY{W W':World}{base:Nat}{e:TypeId}{sz:Nat}{v:Value}{n:Nat}{xs:List Value}(h:W.ownsRow base e sz v n xs)(B:Below W.heap.size W W'):W'.ownsRow base e sz v n xs:=h.kept (show W.grownBy W' none from⟨B.os,B.tape,B.output,B.size,fun k hk _=>B.block k hk⟩) (by
 cases h':v.ownBlock with
 | none=>exact .inl rfl
 | some g=>exact .inr (by simp))
open Go.RowKit
open M
def Made(w:World)(u:Value)(ys:List En)(e:Ending)(w':World):Prop :=
 ∃ v,e=.returned (.tuple #[v,u])/\w'.ownsRow w.heap.size 88 2 v ys.length (BF ys)/\Below w.heap.size w w'
theorem Ej(A:Option Addr)(n c:Nat)(w:World):(binOp .eql 68 (.slice A n c) (.slice none 0 0)).run Try.prog w=.ok (.bool A.isNone) w:=by
 have u:=Try.underlying68;have m:Op.maxDepth=9999+1:=rfl;cases A
 all_goals
  simp only[binOp,Op.equal,m,Sem.run_bind];rw[Op.equalIn];simp[run_underlying u]
theorem EG(A:Option Addr)(n cap:Nat)(xs:List En)(w:World)(Y:Ents w A n xs)(hn:n<=2000000) :
 Calls Try.prog 77 #[.slice A n cap] w fun e w'=>∃ v,e=.returned v/\w'.ownsRow w.heap.size 88 2 v xs.length (BF xs)/\Below w.heap.size w w':=by
 have hl:=hid Y.1;have Y:=hid Y;cases A with
 | none =>
  have h0:n=0:=by
   rcases Nat.eq_zero_or_pos n with h | h
   . exact h
   . obtain⟨_,_,e,_⟩:=Y.out.2 h;cases e
  subst h0;obtain rfl:xs=[]:=List.eq_nil_of_length_eq_zero hl.out;go_enter Try.func77,Try.ntmps77;have q:=Ej none 0 cap w;go_wp2;go_ret;exact⟨_,rfl,⟨rfl,.inl ⟨rfl,rfl⟩⟩,Ac w⟩
 | some ad =>
  have q:=Ej (some ad) n cap w;go_enter Try.func77,Try.ntmps77;go_wp2_with (at_builtin; refine Dl _ rfl (.tmp 5) (.tmp 6) rfl w.heap.size (.slice (some ⟨w.heap.size,0,none⟩) 0 0) 0 [] rfl (Az w _ _ rfl (Nat.le_refl _)) (some ad) n cap xs rfl (Y.out.alloc _) (by omega) (by simp) ?_);intro v' w9 O9 G9 _;have O9:=hid (show w9.ownsRow w.heap.size 88 2 v' xs.length (BF xs) from(by rw[hl.out]; simpa using O9));have H9:=hid ((Ab (Ac w) _).grown G9 (by simp) (fun g e=>by cases e; exact Nat.le_refl _));clear G9;go_wp2;go_ret;exact⟨_,rfl,O9.out,H9.out⟩
end Go.Proofs.Ytbeohbhhmcjokaa
