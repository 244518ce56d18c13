import Derived.Test.YtgbiagonfbnooaaGreatDoorZRepH
set_option linter.all false
set_option maxRecDepth 100000
set_option maxHeartbeats 8000000
open Go.Lib
namespace Go.Proofs.YtgbiagonfbnooaaGreatDoor
open Go.RowKit
open M
abbrev Bp:List Value:=[.int .i64 0,.int .i64 0,.int .i64 0,.slice none 0 0,.slice none 0 0,.int .i64 0]
def Ot(w:World)(o:Option Rep)(e:Ending)(w':World):Prop :=
 ∃(l p s:Int) (A:Option Addr) (n c:Nat) (H:Option Addr) (m d:Nat) (t:Int) (xs:List In) (hs:List Int),e=.returned (.tuple #[CH l p s A n c H m d t,.bool o.isSome])/\(∀ r,o=some r->r=⟨l,p,s,xs,hs,t⟩)/\(AK w.heap.size A/\AK w.heap.size H)/\Inputs w' A n xs/\Ints w' H m hs/\Below w.heap.size w w'
theorem El{w W:World}{o:Option Rep}(h:o=none)(B:Below w.heap.size w W):Ot w o (.returned (.tuple #[CH 0 0 0 none 0 0 none 0 0 0,.bool false])) W :=
 ⟨0,0,0,none,0,0,none,0,0,0,[],[],by rw[h]; rfl,(fun r e=>by rw[h] at e; cases e),⟨(fun k off e=>by cases e),(fun k off e=>by cases e)⟩,Inputs.nil _ _,Ints.nil _ _,B⟩
theorem Ints.keptX{w w':World}{A:Option Addr}{n r:Nat}{xs:List Int}(h:Ints w A n xs)(K:Kept r w w')(hA:0<n->∀ k off,A=some ⟨k,off,none⟩->k≠r):Ints w' A n xs :=
 ⟨h.1,fun hn=>by
  obtain⟨b,off,e,hb,hc⟩:=h.2 hn;exact⟨b,off,e,Nat.lt_of_lt_of_le hb K.size,fun k hk=>(World.cell?_of_block (a:=⟨b,off+k,none⟩) (K.block b hb (hA hn b off e))).trans (hc k hk)⟩⟩
theorem Oz{w:World}{o:Oper}{a:Act}{K:Act->World->Prop}{Q:Exit->Act->World->Prop}(s x:Operand)
 (ho:o.op=.call { callee:=.builtin .append,args:=#[s,x],argTypes:=#[39,39] }) (base:Nat) (v:Value) (n:Nat) (qs:List Pt) (hs:a.eval s=v) (hown:w.ownsRow base 73 2 v n (Cm qs))
 (A:Option Addr) (m c:Nat) (xs:List Pt) (hx:a.eval x=.slice A m c) (I:Parts w A m xs) (hn:n+m<=10000000) (hb:base<=w.heap.size)
 (h:∀ v' w',w'.ownsRow base 73 2 v' (n+m) (Cm (qs++xs))->w.grownBy w' v.ownBlock->K (a.put o.dst v') w'):o.wp Tryz.prog a w K Q:=by
 obtain⟨v',w',hr,h2,h3,_⟩:=B8 w base o.type v n qs hown A m c xs I hn hb;unfold Oper.wp execOp;simp only[ho,resolve,invoke,builtin,Sem.run_bind,Sem.run_pure,Result.andThen_ok,List.map_toArray,List.map_cons,List.map_nil,hs,hx,hr];exact h v' w' h2 h3
theorem OS{w:World}{o:Oper}{a:Act}{K:Act->World->Prop}{Q:Exit->Act->World->Prop}(x:Operand)(hop:o.op=.buildSlice 39 1 #[(0,x)])(s p:Int)(hx:a.eval x=.agg #[.int .i64 s,.int .i64 p])
 (h:∀(g:Nat) (w':World),Below w.heap.size w w'->w.heap.size<=g->Parts w' (some ⟨g,0,none⟩) 1 [⟨s,p⟩]->K (a.put o.dst (.slice (some ⟨g,0,none⟩) 1 1)) w'):o.wp Tryz.prog a w K Q:=by
 obtain⟨i0,hi,hz0,hz1,hz2⟩:=info_parts Fv;refine wp_buildSlice 39 73 1 _ hop #[.int .i64 s,.int .i64 p] i0 (.agg #[.int .i64 0,.int .i64 0]) Tryz.underlying39 hi hz0 (by rw[hz1]; decide) (by rw[hz1]; decide) ?_ (h _ _ (Ab (Ac w) _) (Nat.le_refl _) (Parts.one w _ s p _ rfl));rw[hz1];simp only[List.map_toArray,List.map_cons,List.map_nil,hx]
 first | kernel_rfl | (simp[Instr.fill,Array.range,Value.cells]; done) | go_simp
theorem AG{w:World}{o:Oper}{a:Act}{K:Act->World->Prop}{Q:Exit->Act->World->Prop}(ho:o.op=.alloc 26)
 (h:∀(g:Nat) (w':World),Below w.heap.size w w'->w.heap.size<=g->CellsAt w' g Bp->K (a.put o.dst (.pointer (some ⟨g,0,none⟩))) w'):o.wp Tryz.prog a w K Q:=by
 have e:(execOp a.eval o).run Tryz.prog w=.ok (.value (.pointer (some ⟨w.heap.size,0,none⟩))) (w.alloc (.cells #[.int .i64 0,.int .i64 0,.int .i64 0,.slice none 0 0,.slice none 0 0,.int .i64 0] 26)):=by
  unfold execOp;simp only[ho];go_simp
 unfold Oper.wp;rw[e];exact h _ _ (Ab (Ac w) _) (Nat.le_refl _) (CellsAt.new w _ _ _ rfl)
theorem M.line_len{s w0:Tx}{l:List Int}(h:BF s w0=some l):l.length<=s.length:=by
 unfold BF at h;split at h
 . obtain rfl:=Option.some.inj h;rw[List.length_map,List.length_tail,FQ];have:=List.count_le_length (a:=(32:UInt8)) (l:=s);omega
 . cases h
def Pe(w wp:World)(B0:Nat)(l:List Int)(ov iv:Value)(W:World):Prop :=
 ∃ k j:Nat,j=2*k/\j<=l.length/\iv=.int .i64 j/\W.ownsRow wp.heap.size 73 2 ov k (Cm ((C6 l).take k))/\CellsAt W B0 Bp/\wp.heap.size<=W.heap.size/\Below wp.heap.size wp W/\Below w.heap.size w W
theorem M.unfP_len:∀ l:List Int,(C6 l).length=l.length / 2
 | []=>rfl
 | [c]=>by simp[C6]
 | c::m::l=>by
  have:=unfP_len l;simp only[C6,List.length_cons,this];omega
theorem M.unfP_at:∀(l:List Int) (k:Nat),2*k+1<l.length->(C6 l).getD k pz=⟨l.getD (2*k) 0,l.getD (2*k+1) 0⟩
 | [],k,h=>absurd h (by simp)
 | [c],k,h=>absurd h (by simp)
 | c::m::l,0,h=>rfl
 | c::m::l,k+1,h=>by
  have:=unfP_at l k (by simp only[List.length_cons] at h; omega);rw[C6,List.getD_cons_succ,this,show 2*(k+1)=2*k+1+1 by omega,show 2*k+1+1+1=(2*k+1)+1+1 by omega];rfl
theorem OT(A:Option Addr)(cap:Nat)(a b c d e:ByteArray)(w:World)(S:Strs w A 5 [a,b,c,d,e])(ha:a.size<=2097152)(hb:b.size<=2097152)(hc:c.size<=2097152)(hd:d.size<=2097152) :
 Calls Tryz.prog 36 #[.slice A 5 cap] w (Ot w (Mt (tx a) (tx b) (tx c) (tx d))):=by
 obtain⟨sb,so,rfl,hsb,hcell⟩:=S.2 (by omega);have s0:=hcell 0 (by omega);have s1:=hcell 1 (by omega);have s2:=hcell 2 (by omega);have s3:=hcell 3 (by omega);rw[Nat.add_zero] at s0;have C1:∀ W,Calls Tryz.prog 62 #[.string a,.string { data:=#[114,101,112,108,97,121] }] W (Of W (BF (tx a) kR)):=fun W=>Og a _ W ha;have C2:∀ W,Calls Tryz.prog 62 #[.string b,.string { data:=#[105,110,112,117,116,115] }] W (Of W (BF (tx b) kI)):=fun W=>Og b _ W hb;have C3:∀ W,Calls Tryz.prog 62 #[.string c,.string { data:=#[104,97,115,104,101,115] }] W (Of W (BF (tx c) kH)):=fun W=>Og c _ W hc
 have C4:∀ W,Calls Tryz.prog 62 #[.string d,.string { data:=#[116,97,103] }] W (Of W (BF (tx d) kT)):=fun W=>Og d _ W hd;have E:Mt (tx a) (tx b) (tx c) (tx d)=match BF (tx a) kR,BF (tx b) kI,BF (tx c) kH,BF (tx d) kT with
 | some h,some l,some hs,some t=>if decide (h.length=3)&&decide (l.length % 2=0)&&decide (t.length=1) then
  match AH (C6 l) with
  | some xs=>if Bq ⟨h.getD 0 0,h.getD 1 0,h.getD 2 0,xs,hs,t.getD 0 0⟩ then some ⟨h.getD 0 0,h.getD 1 0,h.getD 2 0,xs,hs,t.getD 0 0⟩ else none
  | none=>none
  else none
 | _,_,_,_=>none:=rfl
 have hl2:∀ l,BF (tx b) kI=some l->l.length<=2097152:=fun l h=>by have:=line_len h; rw[BV] at this; omega
 replace hl2:=hid hl2;have hl3:∀ l,BF (tx c) kH=some l->l.length<=2097152:=fun l h=>by have:=line_len h; rw[BV] at this; omega
 replace hl3:=hid hl3;generalize BF (tx a) kR=o1 at *;generalize BF (tx b) kI=o2 at *;generalize BF (tx c) kH=o3 at *;generalize BF (tx d) kT=o4 at *;generalize Mt (tx a) (tx b) (tx c) (tx d)=R at *;have D:CellsAt (w.alloc (.cells #[.int .i64 0,.int .i64 0,.int .i64 0,.slice none 0 0,.slice none 0 0,.int .i64 0] 26)) w.heap.size Bp:=CellsAt.new w _ _ _ rfl;have B:=Ab (Ac w) (.cells #[.int .i64 0,.int .i64 0,.int .i64 0,.slice none 0 0,.slice none 0 0,.int .i64 0] 26)
 have T:∀ W,Below w.heap.size w W->W.cell? ⟨sb,so,none⟩=some (.string a)/\W.cell? ⟨sb,so+1,none⟩=some (.string b)/\W.cell? ⟨sb,so+2,none⟩=some (.string c)/\W.cell? ⟨sb,so+3,none⟩=some (.string d):=fun W BB =>
  ⟨(BB.cell (p:=⟨sb,so,none⟩) hsb).trans s0,(BB.cell (p:=⟨sb,so+1,none⟩) hsb).trans s1,(BB.cell (p:=⟨sb,so+2,none⟩) hsb).trans s2,(BB.cell (p:=⟨sb,so+3,none⟩) hsb).trans s3⟩
 clear S hcell s0 s1 s2 s3 ha hb hc hd;replace E:=hid E;replace C1:=hid C1;replace C2:=hid C2;replace C3:=hid C3;replace C4:=hid C4;replace T:=hid T;replace D:=hid D;replace B:=hid B;have t0:=(T.out _ B.out).1;go_enter Tryz.func36,Tryz.ntmps36;go_wp2_with fail;refine(C1.out _).mono ?_;rintro e w1 ⟨v1,n1,rfl,O1,q1,BB⟩;obtain⟨A1,c1,rfl,I1⟩:=Ints.of_own O1;replace I1:=hid I1;replace q1:=hid q1;replace D:=hid (D.out.step BB);replace B:=hid (Aa B.out BB);clear BB O1 t0 C1;have t0:=(T.out _ B.out).2.1;go_wp2_with fail;refine(C2.out _).mono ?_;rintro e w2 ⟨v2,n2,rfl,O2,q2,BB⟩;obtain⟨A2,c2,rfl,I2⟩:=Ints.of_own O2
 replace I1:=hid (I1.out.step BB);replace I2:=hid I2;replace q2:=hid q2;replace D:=hid (D.out.step BB);replace B:=hid (Aa B.out BB);clear BB O2 t0 C2;have t0:=(T.out _ B.out).2.2.1;go_wp2_with fail;refine(C3.out _).mono ?_;rintro e w3 ⟨v3,n3,rfl,O3,q3,BB⟩;obtain⟨A3,c3,rfl,I3⟩:=Ints.of_own O3;have hI3:∀ k off,A3=some ⟨k,off,none⟩->w.heap.size<k:=fun k off e=>by
  subst e;have:=(O3.lt k rfl).1;have:=D.out.lt;omega
 replace I1:=hid (I1.out.step BB);replace I2:=hid (I2.out.step BB);replace I3:=hid I3;replace q3:=hid q3;replace D:=hid (D.out.step BB);replace B:=hid (Aa B.out BB);clear BB O3 t0 C3;have t0:=(T.out _ B.out).2.2.2;go_wp2_with fail;refine(C4.out _).mono ?_;rintro e w4 ⟨v4,n4,rfl,O4,q4,BB⟩;obtain⟨A4,c4,rfl,I4⟩:=Ints.of_own O4;replace I1:=hid (I1.out.step BB);replace I2:=hid (I2.out.step BB);replace I3:=hid (I3.out.step BB);replace I4:=hid I4;replace q4:=hid q4;replace D:=hid (D.out.step BB);replace B:=hid (Aa B.out BB);clear BB O4 t0 C4;cases o1 with
 | none =>
  have eR:=hid (show R=none from E.out.trans rfl);go_upto_region 6 with fail;refine wp_region_lit ?_
  iterate 3 go_step
  refine Av rfl 26 (.tmp 2) (.tmp 75) rfl w.heap.size rfl Bp rfl Bp D.out (by simp) Ae rfl ?_;go_wp2;exact bodyPost_ret (v:=.tuple #[CH 0 0 0 none 0 0 none 0 0 0,.bool false]) (Ay rfl w.heap.size rfl Bp (D.out.all Bp (by simp)) (.bool false) rfl Tryz.underlying26 rfl Ae) rfl (El eR.out (Bj B.out (Nat.le_refl _) _ _))
 | some h =>
 obtain rfl:=(q1.out h rfl).symm;cases o2 with
 | none =>
  have eR:=hid (show R=none from E.out.trans rfl);go_upto_region 6 with fail;refine wp_region_lit ?_
  iterate 3 go_step
  refine Av rfl 26 (.tmp 2) (.tmp 75) rfl w.heap.size rfl Bp rfl Bp D.out (by simp) Ae rfl ?_;go_wp2;exact bodyPost_ret (v:=.tuple #[CH 0 0 0 none 0 0 none 0 0 0,.bool false]) (Ay rfl w.heap.size rfl Bp (D.out.all Bp (by simp)) (.bool false) rfl Tryz.underlying26 rfl Ae) rfl (El eR.out (Bj B.out (Nat.le_refl _) _ _))
 | some l =>
 obtain rfl:=(q2.out l rfl).symm;cases o3 with
 | none =>
  have eR:=hid (show R=none from E.out.trans rfl);go_upto_region 6 with fail;refine wp_region_lit ?_
  iterate 3 go_step
  refine Av rfl 26 (.tmp 2) (.tmp 75) rfl w.heap.size rfl Bp rfl Bp D.out (by simp) Ae rfl ?_;go_wp2;exact bodyPost_ret (v:=.tuple #[CH 0 0 0 none 0 0 none 0 0 0,.bool false]) (Ay rfl w.heap.size rfl Bp (D.out.all Bp (by simp)) (.bool false) rfl Tryz.underlying26 rfl Ae) rfl (El eR.out (Bj B.out (Nat.le_refl _) _ _))
 | some hs =>
 obtain rfl:=(q3.out hs rfl).symm;cases o4 with
 | none =>
  have eR:=hid (show R=none from E.out.trans rfl);go_upto_region 6 with fail;refine wp_region_lit ?_
  iterate 3 go_step
  refine Av rfl 26 (.tmp 2) (.tmp 75) rfl w.heap.size rfl Bp rfl Bp D.out (by simp) Ae rfl ?_;go_wp2;exact bodyPost_ret (v:=.tuple #[CH 0 0 0 none 0 0 none 0 0 0,.bool false]) (Ay rfl w.heap.size rfl Bp (D.out.all Bp (by simp)) (.bool false) rfl Tryz.underlying26 rfl Ae) rfl (El eR.out (Bj B.out (Nat.le_refl _) _ _))
 | some t =>
 obtain rfl:=(q4.out t rfl).symm;replace hl2:=hl2.out l rfl;replace hl3:=hl3.out hs rfl;clear q1 q2 q3 q4;by_cases p1:h.length=3
 rotate_left
 . have u1:((h.length:Int)==3)=false:=by simp only[beq_eq_false_iff_ne,ne_eq]; omega
   have u2:((h.length:Int) != 3)=true:=by rw[bne,u1]; rfl
   have eR:=hid (show R=none from E.out.trans (by simp[p1]));go_upto_region 6 with fail;refine wp_region_lit ?_
   iterate 3 go_step
   refine Av rfl 26 (.tmp 2) (.tmp 75) rfl w.heap.size rfl Bp rfl Bp D.out (by simp) Ae rfl ?_;go_wp2;exact bodyPost_ret (v:=.tuple #[CH 0 0 0 none 0 0 none 0 0 0,.bool false]) (Ay rfl w.heap.size rfl Bp (D.out.all Bp (by simp)) (.bool false) rfl Tryz.underlying26 rfl Ae) rfl (El eR.out (Bj B.out (Nat.le_refl _) _ _))
 obtain⟨x0,x1,x2,rfl⟩:∃ x0 x1 x2,h=[x0,x1,x2]:=by
  match h,p1 with
  | [x0,x1,x2],_=>exact⟨x0,x1,x2,rfl⟩
 by_cases p2:l.length % 2=0
 rotate_left
 . have u1:((l.length:Int) % 2==0)=false:=by simp only[beq_eq_false_iff_ne,ne_eq]; omega
   have u2:((l.length:Int) % 2 != 0)=true:=by rw[bne,u1]; rfl
   have eR:=hid (show R=none from E.out.trans (by simp[p2]));go_upto_region 6 with fail;refine wp_region_lit ?_
   iterate 3 go_step
   refine Av rfl 26 (.tmp 2) (.tmp 75) rfl w.heap.size rfl Bp rfl Bp D.out (by simp) Ae rfl ?_;go_wp2;exact bodyPost_ret (v:=.tuple #[CH 0 0 0 none 0 0 none 0 0 0,.bool false]) (Ay rfl w.heap.size rfl Bp (D.out.all Bp (by simp)) (.bool false) rfl Tryz.underlying26 rfl Ae) rfl (El eR.out (Bj B.out (Nat.le_refl _) _ _))
 by_cases p3:t.length=1
 rotate_left
 . have u1:((t.length:Int)==1)=false:=by simp only[beq_eq_false_iff_ne,ne_eq]; omega
   have u2:((t.length:Int) != 1)=true:=by rw[bne,u1]; rfl
   have u3:((l.length:Int) % 2==0)=true:=by simp only[beq_iff_eq]; omega
   have u4:((l.length:Int) % 2 != 0)=false:=by rw[bne,u3]; rfl
   have eR:=hid (show R=none from E.out.trans (by simp[p3]));go_upto_region 6 with fail;refine wp_region_lit ?_
   iterate 3 go_step
   refine Av rfl 26 (.tmp 2) (.tmp 75) rfl w.heap.size rfl Bp rfl Bp D.out (by simp) Ae rfl ?_;go_wp2;exact bodyPost_ret (v:=.tuple #[CH 0 0 0 none 0 0 none 0 0 0,.bool false]) (Ay rfl w.heap.size rfl Bp (D.out.all Bp (by simp)) (.bool false) rfl Tryz.underlying26 rfl Ae) rfl (El eR.out (Bj B.out (Nat.le_refl _) _ _))
 obtain⟨y,rfl⟩:∃ y,t=[y]:=by
  match t,p3 with
  | [y],_=>exact⟨y,rfl⟩
 have u3:((l.length:Int) % 2==0)=true:=by simp only[beq_iff_eq]; omega
 have u4:((l.length:Int) % 2 != 0)=false:=by rw[bne,u3]; rfl
 have E2:R=match AH (C6 l) with
  | some xs=>if Bq ⟨x0,x1,x2,xs,hs,y⟩ then some ⟨x0,x1,x2,xs,hs,y⟩ else none
  | none=>none:=E.out.trans (by simp[p2])
 replace E2:=hid E2;clear E p1 p3;have O:(w4.alloc (.cells #[] 73)).ownsRow w4.heap.size 73 2 (.slice (some ⟨w4.heap.size,0,none⟩) 0 0) 0 (Cm ((C6 l).take 0)):=Ct w4 _ _ rfl (Nat.le_refl _);have D1:=D.out.alloc (.cells #[] 73);have B1:=Ab B.out (.cells #[] 73);have BW:=Ab (Ac w4) (.cells #[] 73);have hw04:=D.out.lt;clear D B;go_wp2;clear u3 u4
 go_loopw [12,13] (Pe w w4 w.heap.size l) (fun _ i _=>l.length-(RowKit.intOf i).toNat)
 case atStart=>exact⟨0,0,rfl,Nat.zero_le _,rfl,O,D1,by simp,BW,B1⟩
 case round =>
  clear O D1 BW B1;obtain⟨k,j,hj,hk2,rfl,O,D,hW,BW,B⟩:=hrel;obtain⟨A5,c5,hv5,P5,_⟩:=Parts.of_own O;subst hv5;by_cases hlt:j<l.length
  . obtain⟨b2,f2,rfl,hb20,hc2⟩:=I2.out.2 (by omega);have z0:=(BW.cell (p:=⟨b2,f2+j,none⟩) hb20).trans (hc2 j hlt);have z1:=(BW.cell (p:=⟨b2,f2+(j+1),none⟩) hb20).trans (hc2 (j+1) (by omega));have en:(C6 l).take (k+1)=(C6 l).take k++[⟨l.getD j 0,l.getD (j+1) 0⟩]:=by
     have hkl:k<(C6 l).length:=by rw[unfP_len]; omega
     have:=unfP_at l k (by omega);rw[<- hj] at this;rw[List.take_succ_eq_append_getElem hkl,<- this,List.getD_eq_getElem?_getD,List.getElem?_eq_getElem hkl]; rfl
    clear hc2;generalize l.getD j 0=qc at *;generalize l.getD (j+1) 0=qm at *;have hw1:IntKind.i64.wrap ((j:Int)+1)=(j:Int)+1:=IntWalk.i64_in _ (by omega);have hw2:0<=(j:Int)+1:=by omega
    have hw3:((j:Int)+1).toNat=j+1:=by omega
    have hw4:j+1<l.length:=by omega
    have hw5:(j:Int)+1<(l.length:Int):=by omega
    have hb2:=Nat.lt_of_lt_of_le hb20 BW.size;have hp:IntKind.i64.wrap ((j:Int)+2)=(j:Int)+2:=IntWalk.i64_in _ (by omega);replace en:=hid en;replace O:=hid O;replace B:=hid B;replace BW:=hid BW;replace P5:=hid P5;replace hj:=hid hj;go_wp2_with fail;refine wp_region_held_drew (S:=fun w'=>w'.cell? ⟨b2,f2+j,none⟩=some (.int .i64 qc)/\w'.cell? ⟨b2,f2+(j+1),none⟩=some (.int .i64 qm)) (by kernel_rfl) ⟨z0,z1⟩ (fun hHeld=>?_);replace O:=hid O.out.drew;replace D:=D.drew;replace B:=hid (Az B.out);replace BW:=hid (Az BW.out);replace z0:wr.drew.cell? ⟨b2,f2+j,none⟩=some (.int .i64 qc):=z0
    replace z1:wr.drew.cell? ⟨b2,f2+(j+1),none⟩=some (.int .i64 qm):=z1;replace hW:w4.heap.size<=wr.drew.heap.size:=hW;replace hb2:b2<wr.drew.heap.size:=hb2;generalize wr.drew=w5 at *;refine tl 0 ?_ ?_ hHeld ?_;rotate_left
    . intro w hSw
      try dsimp only at hSw
      go_simp
      all_goals with_reducible rfl
    try simp only[Act.put,sx]
    refine tl 1 ?_ ?_ hHeld ?_;rotate_left
    . intro w hSw
      try dsimp only at hSw
      go_simp
      all_goals with_reducible rfl
    try simp only[Act.put,sx]
    refine tl 2 ?_ ?_ hHeld ?_;rotate_left
    . intro w hSw
      try dsimp only at hSw
      go_simp
      all_goals with_reducible rfl
    try simp only[Act.put,sx]
    refine tl 3 ?_ ?_ hHeld ?_;rotate_left
    . intro w hSw
      try dsimp only at hSw
      go_simp
      all_goals with_reducible rfl
    try simp only[Act.put,sx]
    refine tl 4 ?_ ?_ hHeld ?_;rotate_left
    . intro w hSw
      try dsimp only at hSw
      go_simp
      all_goals with_reducible rfl
    try simp only[Act.put,sx]
    refine tl 5 ?_ ?_ hHeld ?_;rotate_left
    . intro w hSw
      try dsimp only at hSw
      go_simp
      all_goals with_reducible rfl
    try simp only[Act.put,sx]
    refine tl 6 ?_ ?_ hHeld ?_;rotate_left
    . intro w hSw
      try dsimp only at hSw
      go_simp
      all_goals with_reducible rfl
    try simp only[Act.put,sx]
    refine tl 7 ?_ ?_ hHeld ?_;rotate_left
    . intro w hSw
      try dsimp only at hSw
      go_simp
      all_goals with_reducible rfl
    try simp only[Act.put,sx]
    refine tl 8 ?_ ?_ hHeld ?_;rotate_left
    . intro w hSw
      try dsimp only at hSw
      go_simp
      all_goals with_reducible rfl
    try simp only[Act.put,sx]
    refine tl 9 ?_ ?_ hHeld ?_;rotate_left
    . intro w hSw
      try dsimp only at hSw
      go_simp
      all_goals with_reducible rfl
    try simp only[Act.put,sx]
    refine tl 10 ?_ ?_ hHeld ?_;rotate_left
    . intro w hSw
      try dsimp only at hSw
      go_simp
      all_goals with_reducible rfl
    try simp only[Act.put,sx]
    refine wpAnyH_ready (rs:=[11]) (by kernel_rfl) (by simp) ?_;apply AllReadyH.cons rfl ?_ AllReadyH.nil;intro K hK;dsimp only[List.getElem_toArray,List.getElem_cons_succ,List.getElem_cons_zero];rw[if_pos (by rfl)];refine OS (.tmp 93) rfl qc qm rfl ?_;intro g w6 B6 hg I6;replace O:=hid (As O.out B6);replace D:=D.step B6;replace B:=hid (Aa B.out B6);replace BW:=hid (Aa BW.out B6);replace z0:=(B6.cell (p:=⟨b2,f2+j,none⟩) hb2).trans z0;replace z1:=(B6.cell (p:=⟨b2,f2+(j+1),none⟩) hb2).trans z1;replace hb2:=Nat.lt_of_lt_of_le hb2 B6.size;replace hW:=Nat.le_trans hW B6.size;clear B6 hHeld;refine hK.out _ _ ⟨z0,z1⟩ (fun hHeld=>?_)
    clear hK K
    try simp only[Act.put,sx]
    refine wpAnyH_ready (rs:=[12]) (by kernel_rfl) (by simp) ?_;apply AllReadyH.cons rfl ?_ AllReadyH.nil;intro K hK;dsimp only[List.getElem_toArray,List.getElem_cons_succ,List.getElem_cons_zero];rw[if_pos (by rfl)];refine Oz (.tmp 83) (.tmp 94) rfl w4.heap.size (Value.slice A5 k c5) k ((C6 l).take k) rfl O.out (some ⟨g,0,none⟩) 1 1 [⟨qc,qm⟩] rfl I6 (by have:=hj.out; omega) hW ?_;intro v9 w9 O9 G9;have B9:=B.out.grown G9 B.out.size (fun g' e=>by have:=(O.out.lt g' e).1; omega);have BW9:=BW.out.grown G9 BW.out.size (fun g' e=>(O.out.lt g' e).1);have D9:=D.grown G9 (fun e=>by have:=(O.out.lt _ e).1; omega);have hW9:=Nat.le_trans hW G9.size
    rw[<- en.out] at O9;replace O9:=hid O9;replace B9:=hid B9;replace BW9:=hid BW9;replace D9:=hid D9;replace z0:=(World.cell?_of_block (a:=⟨b2,f2+j,none⟩) (G9.block b2 hb2 (fun e=>by have:=(O.out.lt _ e.symm).1; omega))).trans z0;replace z1:=(World.cell?_of_block (a:=⟨b2,f2+(j+1),none⟩) (G9.block b2 hb2 (fun e=>by have:=(O.out.lt _ e.symm).1; omega))).trans z1;clear G9 O B BW hW hHeld P5;refine hK.out _ _ ⟨z0,z1⟩ (fun hHeld=>?_);clear hK K
    try simp only[Act.put,sx]
    refine tl 13 ?_ ?_ hHeld ?_;rotate_left
    . intro w hSw
      try dsimp only at hSw
      go_simp
      all_goals with_reducible rfl
    try simp only[Act.put,sx]
    refine wpAnyH_done (by kernel_rfl) ?_ _;clear z0 z1;go_wp2
    go_roundw
    case rel=>exact⟨k+1,j+2,by have:=hj.out; omega,by omega,by go_num,O9.out,D9.out,hW9,BW9.out,B9.out⟩
    case measure=>simp[RowKit.intOf]; omega
  . obtain rfl:j=l.length:=by omega
    have ek:(C6 l).take k=C6 l:=List.take_of_length_le (by rw[unfP_len]; omega);have ekl:(C6 l).length=k:=by rw[unfP_len]; omega
    rw[ek] at P5;replace I1:=hid (I1.out.step BW);replace I3:=hid (I3.out.step BW);replace I4:=hid (I4.out.step BW);replace B:=hid B;replace P5:=hid P5;have hk6:k<=8000000:=by omega
    clear O BW hW hj ek hlt hk2 I2 p2 hl2 ekl;go_wp2_with fail;refine(OE A5 k c5 (C6 l) _ P5.out (by omega)).mono ?_;rintro e w5 ⟨v5,rfl,O5,BB⟩;obtain⟨A6,c6,rfl,I6,hI6b⟩:=Inputs.of_own O5;have hI6:∀ k off,A6=some ⟨k,off,none⟩->w.heap.size<k:=fun k off e=>by
     have:=hI6b k off e;have:=D.lt;omega
    clear hI6b;have hn60:=I6.1;generalize hn6:((AH (C6 l)).getD []).length=n6 at *;replace I1:=hid (I1.out.step BB);replace I3:=hid (I3.out.step BB);replace I4:=hid (I4.out.step BB);replace I6:=hid I6;replace D:=hid (D.step BB);replace B:=hid (Aa B.out BB);clear BB O5 P5;generalize hri:AH (C6 l)=ri at *;obtain⟨b1,f1,rfl,hb1,hc1⟩:=I1.out.2 (by simp);obtain⟨b4,f4,rfl,hb4,hc4⟩:=I4.out.2 (by simp);have y0:w5.cell? ⟨b1,f1,none⟩=some (.int .i64 x0):=hc1 0 (by simp);have y1:w5.cell? ⟨b1,f1+1,none⟩=some (.int .i64 x1):=hc1 1 (by simp);have y2:w5.cell? ⟨b1,f1+2,none⟩=some (.int .i64 x2):=hc1 2 (by simp)
    have y3:w5.cell? ⟨b4,f4,none⟩=some (.int .i64 y):=hc4 0 (by simp);replace hn60:=hid hn60;have hn6b:n6<=60:=by
     cases ri with
     | none=>rw[<- hn6]; simp
     | some xs=>rw[<- hn6]; exact(AO.1 (Dj hri).1).2
    replace hn6:=hid hn6;clear hc1 hc4 hri;go_wp2_with fail;refine wp_region_held_drew (S:=fun w'=>w'.cell? ⟨b1,f1,none⟩=some (.int .i64 x0)/\w'.cell? ⟨b1,f1+1,none⟩=some (.int .i64 x1)/\w'.cell? ⟨b1,f1+2,none⟩=some (.int .i64 x2)/\w'.cell? ⟨b4,f4,none⟩=some (.int .i64 y)) (by kernel_rfl) ⟨y0,y1,y2,y3⟩ (fun hHeld=>?_);replace D:=hid D.out.drew;replace B:=hid (Az B.out);replace I6:=hid (I6.out.step (Ac w5).drew);replace I3:=hid (I3.out.step (Ac w5).drew);replace y0:w5.drew.cell? ⟨b1,f1,none⟩=some (.int .i64 x0):=y0;replace y1:w5.drew.cell? ⟨b1,f1+1,none⟩=some (.int .i64 x1):=y1
    replace y2:w5.drew.cell? ⟨b1,f1+2,none⟩=some (.int .i64 x2):=y2;replace y3:w5.drew.cell? ⟨b4,f4,none⟩=some (.int .i64 y):=y3;replace hb1:b1<w5.drew.heap.size:=hb1;replace hb4:b4<w5.drew.heap.size:=hb4;generalize w5.drew=w6 at *;refine tl 0 ?_ ?_ hHeld ?_;rotate_left
    . intro w hSw
      try dsimp only at hSw
      go_simp
      all_goals with_reducible rfl
    try simp only[Act.put,sx]
    refine tl 1 ?_ ?_ hHeld ?_;rotate_left
    . intro w hSw
      try dsimp only at hSw
      go_simp
      all_goals with_reducible rfl
    try simp only[Act.put,sx]
    refine tl 2 ?_ ?_ hHeld ?_;rotate_left
    . intro w hSw
      try dsimp only at hSw
      go_simp
      all_goals with_reducible rfl
    try simp only[Act.put,sx]
    refine tl 3 ?_ ?_ hHeld ?_;rotate_left
    . intro w hSw
      try dsimp only at hSw
      go_simp
      all_goals with_reducible rfl
    try simp only[Act.put,sx]
    refine tl 4 ?_ ?_ hHeld ?_;rotate_left
    . intro w hSw
      try dsimp only at hSw
      go_simp
      all_goals with_reducible rfl
    try simp only[Act.put,sx]
    refine tl 5 ?_ ?_ hHeld ?_;rotate_left
    . intro w hSw
      try dsimp only at hSw
      go_simp
      all_goals with_reducible rfl
    try simp only[Act.put,sx]
    refine tl 6 ?_ ?_ hHeld ?_;rotate_left
    . intro w hSw
      try dsimp only at hSw
      go_simp
      all_goals with_reducible rfl
    try simp only[Act.put,sx]
    refine tl 7 ?_ ?_ hHeld ?_;rotate_left
    . intro w hSw
      try dsimp only at hSw
      go_simp
      all_goals with_reducible rfl
    try simp only[Act.put,sx]
    refine tl 8 ?_ ?_ hHeld ?_;rotate_left
    . intro w hSw
      try dsimp only at hSw
      go_simp
      all_goals with_reducible rfl
    try simp only[Act.put,sx]
    refine tl 9 ?_ ?_ hHeld ?_;rotate_left
    . intro w hSw
      try dsimp only at hSw
      go_simp
      all_goals with_reducible rfl
    try simp only[Act.put,sx]
    refine tl 10 ?_ ?_ hHeld ?_;rotate_left
    . intro w hSw
      try dsimp only at hSw
      go_simp
      all_goals with_reducible rfl
    try simp only[Act.put,sx]
    refine tl 11 ?_ ?_ hHeld ?_;rotate_left
    . intro w hSw
      try dsimp only at hSw
      go_simp
      all_goals with_reducible rfl
    try simp only[Act.put,sx]
    refine tl 12 ?_ ?_ hHeld ?_;rotate_left
    . intro w hSw
      try dsimp only at hSw
      go_simp
      all_goals with_reducible rfl
    try simp only[Act.put,sx]
    refine tl 13 ?_ ?_ hHeld ?_;rotate_left
    . intro w hSw
      try dsimp only at hSw
      go_simp
      all_goals with_reducible rfl
    try simp only[Act.put,sx]
    refine tl 14 ?_ ?_ hHeld ?_;rotate_left
    . intro w hSw
      try dsimp only at hSw
      go_simp
      all_goals with_reducible rfl
    try simp only[Act.put,sx]
    refine wpAnyH_ready (rs:=[15]) (by kernel_rfl) (by simp) ?_;apply AllReadyH.cons rfl ?_ AllReadyH.nil;intro K hK;dsimp only[List.getElem_toArray,List.getElem_cons_succ,List.getElem_cons_zero];rw[if_pos (by rfl)];refine AG rfl ?_;intro g w7 BB hg X;have hg1:g≠b1:=by omega
    have hg4:g≠b4:=by omega
    have hgw:w.heap.size<=g:=Nat.le_trans B.out.size hg;have hgD:g≠w.heap.size:=by have:=D.out.lt; omega
    replace y0:=(BB.cell (p:=⟨b1,f1,none⟩) hb1).trans y0;replace y1:=(BB.cell (p:=⟨b1,f1+1,none⟩) hb1).trans y1;replace y2:=(BB.cell (p:=⟨b1,f1+2,none⟩) hb1).trans y2;replace y3:=(BB.cell (p:=⟨b4,f4,none⟩) hb4).trans y3;replace hb1:=Nat.lt_of_lt_of_le hb1 BB.size;replace hb4:=Nat.lt_of_lt_of_le hb4 BB.size;have hgI6:=I6.out.lt;have hgI3:=I3.out.2;replace D:=hid (D.out.step BB);replace I6:=hid (I6.out.step BB);replace I3:=hid (I3.out.step BB);replace B:=hid (Aa B.out BB);clear BB hHeld;refine hK.out _ _ ⟨y0,y1,y2,y3⟩ (fun hHeld=>?_);clear hK K
    try simp only[Act.put,sx]
    refine wpAnyH_ready (rs:=[16]) (by kernel_rfl) (by simp) ?_;apply AllReadyH.cons rfl ?_ AllReadyH.nil;intro K hK;dsimp only[List.getElem_toArray,List.getElem_cons_succ,List.getElem_cons_zero];rw[if_pos (by rfl)];refine Ao 26 (.tmp 16) (.tmp 115) rfl g rfl ((AR x0 x1 x2 A6 n6 c6 A3 hs.length c3 y)) rfl _ X (by simp) Ae rfl ?_;intro w8 K8 X8;replace y0:=(World.cell?_of_block (a:=⟨b1,f1,none⟩) (K8.block b1 hb1 (fun e=>hg1 e.symm))).trans y0;replace y1:=(World.cell?_of_block (a:=⟨b1,f1+1,none⟩) (K8.block b1 hb1 (fun e=>hg1 e.symm))).trans y1;replace y2:=(World.cell?_of_block (a:=⟨b1,f1+2,none⟩) (K8.block b1 hb1 (fun e=>hg1 e.symm))).trans y2
    replace y3:=(World.cell?_of_block (a:=⟨b4,f4,none⟩) (K8.block b4 hb4 (fun e=>hg4 e.symm))).trans y3;replace I6:=hid (I6.out.kept K8 (fun hn k off e=>by have:=hgI6 hn k off e; omega));replace I3:=hid (Ints.keptX I3.out K8 (fun hn k off e=>by obtain⟨b,f,e2,h2,_⟩:=hgI3 hn; rw[e2] at e; cases e; omega));replace D:=hid (D.out.kept K8 hgD.symm);replace B:=hid (B.out.trans (K8.below B.out.size hgw));clear K8 X hHeld hgI6 hgI3;refine hK.out _ _ ⟨y0,y1,y2,y3⟩ (fun hHeld=>?_);clear hK K
    try simp only[Act.put,sx]
    refine wpAnyH_done (by kernel_rfl) ?_ _;clear y0 y1 y2 y3 hb1 hb4 I1 I4 hg1 hg4;cases ri with
    | none =>
     have eR:=hid E2.out;go_wp2_with fail;refine wp_region_held_drew (S:=fun w'=>CellsAt w' g (AR x0 x1 x2 A6 n6 c6 A3 hs.length c3 y)) (by kernel_rfl) X8.drew (fun hHeld=>?_);replace X8:=X8.drew;replace D:=hid D.out.drew;replace B:=hid (Az B.out);replace I6:=hid (I6.out.step (Ac w8).drew);replace I3:=hid (I3.out.step (Ac w8).drew);generalize w8.drew=w9 at *
     refine wpAnyH_take (i:=0) (oi:=_) (v:=.agg ((AR x0 x1 x2 A6 n6 c6 A3 hs.length c3 y)).toArray) rfl (by kernel_rfl) (by kernel_rfl) (by kernel_rfl) (fun _ _ _ h=>h) (yieldsIf_load_mid (by rfl) 26 (.tmp 16) rfl g 0 rfl ((AR x0 x1 x2 A6 n6 c6 A3 hs.length c3 y)) _ (fun W hS=>hS.range) Tryz.underlying26 rfl Ae) hHeld ?_
     try simp only[Act.put,sx]
     refine tl 1 ?_ ?_ hHeld ?_;rotate_left
     . intro w hSw
       try dsimp only at hSw
       go_simp
       all_goals with_reducible rfl
     try simp only[Act.put,sx]
     refine tl 2 ?_ ?_ hHeld ?_;rotate_left
     . intro w hSw
       try dsimp only at hSw
       go_simp
       all_goals with_reducible rfl
     try simp only[Act.put,sx]
     refine wpAnyH_take (i:=3) (oi:=_) (v:=undef) rfl (by kernel_rfl) (by kernel_rfl) (by kernel_rfl) (fun _ _ _ h=>h) (Or.inr ⟨by rfl,rfl⟩) hHeld ?_
     try simp only[Act.put,sx]
     refine wpAnyH_take (i:=4) (oi:=_) (v:=undef) rfl (by kernel_rfl) (by kernel_rfl) (by kernel_rfl) (fun _ _ _ h=>h) (Or.inr ⟨by rfl,rfl⟩) hHeld ?_
     try simp only[Act.put,sx]
     refine tl 5 ?_ ?_ hHeld ?_;rotate_left
     . intro w hSw
       try dsimp only at hSw
       go_simp
       all_goals with_reducible rfl
     try simp only[Act.put,sx]
     refine wpAnyH_ready (rs:=[6]) (by kernel_rfl) (by simp) ?_;apply AllReadyH.cons rfl ?_ AllReadyH.nil;intro K hK;dsimp only[List.getElem_toArray,List.getElem_cons_succ,List.getElem_cons_zero];rw[if_pos (by rfl)];refine Ao 26 (.tmp 2) (.tmp 116) rfl w.heap.size rfl ((AR x0 x1 x2 A6 n6 c6 A3 hs.length c3 y)) rfl _ D.out (by simp) Ae rfl ?_;intro wB KB DB;replace X8:=X8.kept KB hgD;replace I6:=hid (I6.out.kept KB (fun hn k off e=>Nat.ne_of_gt (hI6 k off e)));replace I3:=hid (Ints.keptX I3.out KB (fun hn k off e=>Nat.ne_of_gt (hI3 k off e)));replace B:=hid (B.out.trans (KB.below B.out.size (Nat.le_refl _)));clear KB hHeld
     refine hK.out _ _ X8 (fun hHeld=>?_);clear hK K
     try simp only[Act.put,sx]
     refine tl 7 ?_ ?_ hHeld ?_;rotate_left
     . intro w hSw
       try dsimp only at hSw
       go_simp
       all_goals with_reducible rfl
     try simp only[Act.put,sx]
     refine wpAnyH_done (by kernel_rfl) ?_ _;go_wp2;exact bodyPost_ret (v:=.tuple #[CH x0 x1 x2 A6 n6 c6 A3 hs.length c3 y,.bool false]) (Ay rfl w.heap.size rfl (AR x0 x1 x2 A6 n6 c6 A3 hs.length c3 y) DB (.bool false) rfl Tryz.underlying26 rfl Ae) rfl ⟨x0,x1,x2,A6,n6,c6,A3,hs.length,c3,y,[],hs,by rw[eR.out]; rfl,(fun r e=>by rw[eR.out] at e; cases e),⟨(fun k off e=>Nat.le_of_lt (hI6 k off e)),(fun k off e=>Nat.le_of_lt (hI3 k off e))⟩,I6.out,I3.out,B.out⟩
    | some xs =>
     go_wp2_with fail;refine wp_region_held_drew (S:=fun w'=>CellsAt w' g (AR x0 x1 x2 A6 n6 c6 A3 hs.length c3 y)) (by kernel_rfl) X8.drew (fun hHeld=>?_);replace X8:=X8.drew;replace D:=hid D.out.drew;replace B:=hid (Az B.out);replace I6:=hid (I6.out.step (Ac w8).drew);replace I3:=hid (I3.out.step (Ac w8).drew);generalize w8.drew=w9 at *
     refine wpAnyH_take (i:=0) (oi:=_) (v:=.agg ((AR x0 x1 x2 A6 n6 c6 A3 hs.length c3 y)).toArray) rfl (by kernel_rfl) (by kernel_rfl) (by kernel_rfl) (fun _ _ _ h=>h) (yieldsIf_load_mid (by rfl) 26 (.tmp 16) rfl g 0 rfl ((AR x0 x1 x2 A6 n6 c6 A3 hs.length c3 y)) _ (fun W hS=>hS.range) Tryz.underlying26 rfl Ae) hHeld ?_
     try simp only[Act.put,sx]
     refine tl 1 ?_ ?_ hHeld ?_;rotate_left
     . intro w hSw
       try dsimp only at hSw
       go_simp
       all_goals with_reducible rfl
     try simp only[Act.put,sx]
     refine tl 2 ?_ ?_ hHeld ?_;rotate_left
     . intro w hSw
       try dsimp only at hSw
       go_simp
       all_goals with_reducible rfl
     try simp only[Act.put,sx]
     refine wpAnyH_take (i:=3) (oi:=_) (v:=.agg ((AR x0 x1 x2 A6 n6 c6 A3 hs.length c3 y)).toArray) rfl (by kernel_rfl) (by kernel_rfl) (by kernel_rfl) (fun _ _ _ h=>h) (yieldsIf_load_mid (by rfl) 26 (.tmp 16) rfl g 0 rfl ((AR x0 x1 x2 A6 n6 c6 A3 hs.length c3 y)) _ (fun W hS=>hS.range) Tryz.underlying26 rfl Ae) hHeld ?_
     try simp only[Act.put,sx]
     refine wpAnyH_ready (rs:=[4]) (by kernel_rfl) (by simp) ?_;apply AllReadyH.cons rfl ?_ AllReadyH.nil;intro K hK;go_simp
     go_at_call 19
     refine(Ic x0 x1 x2 A6 n6 c6 A3 hs.length c3 y xs hs _ I6.out I3.out (by omega) (by omega)).mono ?_;rintro e wA ⟨rfl,BB⟩;replace X8:=X8.step BB;replace D:=hid (D.out.step BB);replace I6:=hid (I6.out.step BB);replace I3:=hid (I3.out.step BB);replace B:=hid (Aa B.out BB);clear BB;clear hHeld;go_wp2_with fail;refine hK.out _ _ X8 (fun hHeld=>?_);clear hK K
     try simp only[Act.put,sx]
     refine tl 5 ?_ ?_ hHeld ?_;rotate_left
     . intro w hSw
       try dsimp only at hSw
       go_simp
       all_goals with_reducible rfl
     try simp only[Act.put,sx]
     refine wpAnyH_ready (rs:=[6]) (by kernel_rfl) (by simp) ?_;apply AllReadyH.cons rfl ?_ AllReadyH.nil;intro K hK;dsimp only[List.getElem_toArray,List.getElem_cons_succ,List.getElem_cons_zero];rw[if_pos (by rfl)];refine Ao 26 (.tmp 2) (.tmp 116) rfl w.heap.size rfl ((AR x0 x1 x2 A6 n6 c6 A3 hs.length c3 y)) rfl _ D.out (by simp) Ae rfl ?_;intro wB KB DB;replace X8:=X8.kept KB hgD;replace I6:=hid (I6.out.kept KB (fun hn k off e=>Nat.ne_of_gt (hI6 k off e)));replace I3:=hid (Ints.keptX I3.out KB (fun hn k off e=>Nat.ne_of_gt (hI3 k off e)));replace B:=hid (B.out.trans (KB.below B.out.size (Nat.le_refl _)));clear KB hHeld
     refine hK.out _ _ X8 (fun hHeld=>?_);clear hK K
     try simp only[Act.put,sx]
     refine tl 7 ?_ ?_ hHeld ?_;rotate_left
     . intro w hSw
       try dsimp only at hSw
       go_simp
       all_goals with_reducible rfl
     try simp only[Act.put,sx]
     refine wpAnyH_done (by kernel_rfl) ?_ _;go_wp2;have eR:R=if Bq ⟨x0,x1,x2,xs,hs,y⟩ then some ⟨x0,x1,x2,xs,hs,y⟩ else none:=E2.out;refine bodyPost_ret (v:=.tuple #[CH x0 x1 x2 A6 n6 c6 A3 hs.length c3 y,.bool (Bq ⟨x0,x1,x2,xs,hs,y⟩)]) (Ay rfl w.heap.size rfl (AR x0 x1 x2 A6 n6 c6 A3 hs.length c3 y) DB (.bool (Bq ⟨x0,x1,x2,xs,hs,y⟩)) rfl Tryz.underlying26 rfl Ae) rfl ⟨x0,x1,x2,A6,n6,c6,A3,hs.length,c3,y,xs,hs,?_,(fun r e=>?_),⟨(fun k off e=>Nat.le_of_lt (hI6 k off e)),(fun k off e=>Nat.le_of_lt (hI3 k off e))⟩,I6.out,I3.out,B.out⟩
     . rw[eR];cases Bq ⟨x0,x1,x2,xs,hs,y⟩<;>rfl
     . rw[eR] at e;split at e
       . exact(Option.some.inj e).symm
       . cases e
end Go.Proofs.YtgbiagonfbnooaaGreatDoor
