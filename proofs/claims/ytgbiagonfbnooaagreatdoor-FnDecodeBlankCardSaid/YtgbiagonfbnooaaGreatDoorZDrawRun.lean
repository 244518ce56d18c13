import Derived.Test.YtgbiagonfbnooaaGreatDoorZLeg
import Derived.Test.YtgbiagonfbnooaaGreatDoorZEngC
import Derived.Test.YtgbiagonfbnooaaGreatDoorZDrawLev
import Derived.Deep.CutRange
set_option linter.all false
set_option maxRecDepth 100000
set_option maxHeartbeats 8000000
open Go.Lib
namespace Go.Proofs.YtgbiagonfbnooaaGreatDoor
open Go.RowKit
open M
theorem M.lg_last(t b:Int):∀(xs:List In) (q:In) (i ps s0:Int),0<=i->F8 t b (xs++[q]) i ps s0=-1->Bm q.s q.p q.z=true
 | [],q,i,ps,s0,hi,h=>by
  cases g:Co t b i ps s0 q
  . exact FY (La g).2.2
  . rw[List.nil_append,Bz g] at h;omega
 | a::xs,q,i,ps,s0,hi,h=>by
  cases g:Co t b i ps s0 a
  . rw[List.cons_append,E3 g] at h;exact lg_last t b xs q _ _ _ (by omega) h
  . rw[List.cons_append,Bz g] at h;omega
theorem below_grown{W W':World}(B:Below W.heap.size W W'):W.grownBy W' none:=⟨B.os,B.tape,B.output,B.size,fun k hk _=>B.block k hk⟩
theorem As{W W':World}{base:Nat}{e:TypeId}{sz:Nat}{v:Value}{n:Nat}{xs:List Value}(h:W.ownsRow base e sz v n xs)(B:Below W.heap.size W W'):W'.ownsRow base e sz v n xs:=h.kept (below_grown B) (by
 cases h':v.ownBlock with
 | none=>exact .inl rfl
 | some g=>exact .inr (by simp))
structure RW(B r:Nat)(w:World)(sb U:Nat)(l q s:List Value)(ov:Value)(j:Nat)(xs:List In)(k:Int)(W:World):Prop where
 L:CellsAt W w.heap.size l
 Q:CellsAt W (w.heap.size+1+1) q
 S:CellsAt W sb s
 O:W.ownsRow (w.heap.size+1) 89 3 ov j (AZ xs)
 nq:ov.ownBlock≠some (w.heap.size+1+1)
 ns:ov.ownBlock≠some sb
 up:∀ g,ov.ownBlock=some g->g<U
 us:sb<U
 uw:U<=W.heap.size
 R:RdU B W r k
 K:Kept r w W
 lo:w.heap.size+1+1<sb
 bw:B<=w.heap.size
 rB:r<B
theorem RW.grown{B r:Nat}{w:World}{sb U:Nat}{l q s:List Value}{ov:Value}{j:Nat}{xs:List In}{k:Int}{W:World}{W':World}{row:Option Nat}(h:RW B r w sb U l q s ov j xs k W)(hg:W.grownBy W' row)(hr:∀ g,row=some g->U<=g):RW B r w sb U l q s ov j xs k W':=by
 have h1:=h.lo; have h2:=h.bw; have h3:=h.rB; have h4:=h.us;refine⟨h.L.grown hg (fun e=>by have:=hr _ e; omega),h.Q.grown hg (fun e=>by have:=hr _ e; omega),h.S.grown hg (fun e=>by have:=hr _ e; omega),h.O.kept hg ?_,h.nq,h.ns,h.up,h4,Nat.le_trans h.uw hg.size,h.R.grown hg (fun g e=>by have:=hr _ e; omega),h.K.grown hg (fun g e=>by have:=hr _ e; omega),h1,h2,h3⟩;cases h':ov.ownBlock with
 | none=>exact .inl rfl
 | some g=>exact .inr (fun e=>by have:=hr g e.symm; have:=h.up g h'; omega)
theorem RW.step{B r:Nat}{w:World}{sb U:Nat}{l q s:List Value}{ov:Value}{j:Nat}{xs:List In}{k:Int}{W:World}{W':World}(h:RW B r w sb U l q s ov j xs k W)(S:Below W.heap.size W W'):RW B r w sb U l q s ov j xs k W':=h.grown (below_grown S) (fun g e=>by cases e)
theorem RW.kept{B r:Nat}{w:World}{sb U:Nat}{l q s:List Value}{ov:Value}{j:Nat}{xs:List In}{k:Int}{W:World}{k':Int}{W':World}(h:RW B r w sb U l q s ov j xs k W)(K:Kept r W W')(R:RdU B W' r k'):RW B r w sb U l q s ov j xs k' W':=by
 have h1:=h.lo; have h2:=h.bw; have h3:=h.rB; have h4:=h.us;exact⟨h.L.kept K (by omega),h.Q.kept K (by omega),h.S.kept K (by omega),h.O.kept K.grows (.inr fun he=>by have:=(h.O.lt r he).1; omega),h.nq,h.ns,h.up,h4,Nat.le_trans h.uw K.size,R,h.K.trans K,h1,h2,h3⟩
theorem RW.var{B r:Nat}{w:World}{sb U:Nat}{l q s:List Value}{ov:Value}{j:Nat}{xs:List In}{k:Int}{W:World}(h:RW B r w sb U l q s ov j xs k W)(ob:Obj):RW B r w sb W.heap.size l q s ov j xs k (W.alloc ob):=by
 have t:=h.step (Ab (Ac W) ob);exact⟨t.L,t.Q,t.S,t.O,t.nq,t.ns,fun g e=>by have:=h.up g e; have:=h.uw; omega,by have:=h.us; have:=h.uw; omega,by simp,t.R,t.K,t.lo,t.bw,t.rB⟩
theorem RW.far{B r:Nat}{w:World}{sb U:Nat}{l q s:List Value}{ov:Value}{j:Nat}{xs:List In}{k:Int}{W:World}(h:RW B r w sb U l q s ov j xs k W){g:Nat}(hg:U<=g)(o:Nat)(v:Value):RW B r w sb U l q s ov j xs k (W.setCell ⟨g,o,none⟩ v):=h.grown (Gb (Kept.refl g W) o v).grows (fun g' e=>by cases e; exact hg)
theorem RW.put{B r:Nat}{w:World}{sb U:Nat}{l q s:List Value}{ov:Value}{j:Nat}{xs:List In}{k:Int}{W:World}{v:Value}{i g0:Nat}{ys:List In}(h:RW B r w sb U l q s ov j xs k W)(O:W.ownsRow g0 89 3 v i (AZ ys))(hg:U<=g0):RW B r w sb W.heap.size l q s v i ys k W:=by
 have h1:=h.lo; have h4:=h.us; have h5:=h.uw;exact⟨h.L,h.Q,h.S,Ds O (by omega),fun e=>by have:=(O.lt _ e).1; omega,fun e=>by have:=(O.lt _ e).1; omega,fun g e=>(O.lt g e).2,by omega,Nat.le_refl _,h.R,h.K,h.lo,h.bw,h.rB⟩
theorem RW.ahead{B r:Nat}{w:World}{sb U:Nat}{l q s:List Value}{ov:Value}{j:Nat}{xs:List In}{k:Int}{W:World}(h:RW B r w sb U l q s ov j xs k W)(o:Nat)(ho:o<q.length)(v:Value):RW B r w sb U l (q.set o v) s ov j xs k (W.setCell ⟨w.heap.size+1+1,o,none⟩ v):=by
 have h1:=h.lo; have h2:=h.bw; have h3:=h.rB; have h4:=h.us;exact⟨h.L.far (by omega) _ _,h.Q.set o ho v,h.S.far (by omega) _ _,ownsRow_setCell_other h.O (by exact h.nq) _,h.nq,h.ns,h.up,h4,by rw[World.size_setCell]; exact h.uw,h.R.set _ _ _ (by omega),h.K.set _ _ _ (by omega),h1,h2,h3⟩
theorem RW.state{B r:Nat}{w:World}{sb U:Nat}{l q s:List Value}{ov:Value}{j:Nat}{xs:List In}{k:Int}{W:World}{y:List Value}{W':World}(h:RW B r w sb U l q s ov j xs k W)(K:Kept sb W W')(N:CellsAt W' sb y):RW B r w sb U l q y ov j xs k W':=by
 have h1:=h.lo; have h2:=h.bw; have h3:=h.rB; have h4:=h.us; have h5:=h.K.size;refine⟨h.L.kept K (by omega),h.Q.kept K (by omega),N,h.O.kept K.grows ?_,h.nq,h.ns,h.up,h4,Nat.le_trans h.uw K.size,h.R.below (K.below (by omega) (by omega)),⟨K.os.trans h.K.os,K.tape.trans h.K.tape,K.output.trans h.K.output,Nat.le_trans h5 K.size,fun j hj hr=>(K.block j (by omega) (by omega)).trans (h.K.block j hj hr)⟩,h1,h2,h3⟩;cases h':ov.ownBlock with
 | none=>exact .inl rfl
 | some g=>exact .inr (by rw[<- h']; exact h.ns)
theorem RW.mono{B r:Nat}{w:World}{sb U:Nat}{l q s:List Value}{ov:Value}{j:Nat}{xs:List In}{k:Int}{W:World}{k':Int}(h:RW B r w sb U l q s ov j xs k W)(hk:k<=k'):RW B r w sb U l q s ov j xs k' W:={ h with R:=h.R.mono hk }
theorem HE{m:Nat}{x y:Int}(hx:-1000000<=x/\x<=1000000)(hy:-1000000<=y/\y<=1000000):StB m ⟨0,x,y,0,0,0,0,false,false⟩ :=
 ⟨⟨hx,hy⟩,⟨⟨by show(-2000:Int)<=0; omega,by show(0:Int)<=2000; omega⟩,by show(-2000:Int)<=0; omega,by show(0:Int)<=2000; omega⟩,⟨by show(0:Int)<=0; omega,by show(0:Int)<=15; omega⟩,⟨by show(0:Int)<=0; omega,by show(0:Int)<=m; omega⟩,by show(0:Int)<=0; omega,by show(0:Int)<=1000000; omega⟩
def VIn(xs:List In):Prop:=∀ q∈xs,Bm q.s q.p q.z=true
theorem VIn.nil:VIn []:=fun _ h=>by cases h
theorem VIn.snoc{xs:List In}(h:VIn xs){q:In}(hq:Bm q.s q.p q.z=true):VIn (xs++[q]):=fun x hx=>by
 rcases List.mem_append.1 hx with g | g
 . exact h x g
 . rw[List.mem_singleton.1 g]; exact hq
def JA(B:Nat)(r:Nat)(k:Int)(w:World)(e:Ending)(w':World):Prop :=
 ∃(v:Value) (n:Nat) (xs:List In),e=.returned v/\n<=60/\VIn xs/\w'.ownsRow (w.heap.size+1) 89 3 v n (AZ xs)/\RdU B w' r (k+200)/\Kept r w w'
def Mm(B r:Nat)(w:World)(sb xb:Nat)(l q s:List Value)(ov:Value)(j:Nat)(xs:List In)(k:Int)(v:Value)(W:World):Prop :=
 ∃(a p:Int) (z:Bool) (g0:Nat),RW B r w sb xb l q s ov j xs k W/\CellsAt W xb (AF a p z)/\xb+1<=g0/\W.ownsRow g0 89 3 v (j+1) (AZ (xs++[⟨a,p,z⟩]))
def MK(B r:Nat)(k:Int)(w:World)(sb N m:Nat)(l:List Value)(_t _b:Int)(ov iv:Value)(W:World):Prop :=
 ∃(j U:Nat) (xs:List In) (s0 p0:Int) (z0:Bool) (st:St),j<=N/\iv=.int .i64 j/\VIn xs/\(-1<=s0/\s0<=1)/\StB m st/\st.k<=j/\RW B r w sb U l (AF s0 p0 z0) (AE st.k st.ax st.ay st.fx st.fy st.u st.g st.d st.o) ov j xs (k+2+3*j) W
theorem Dv{B:Nat}(r:Nat)(k:Int)(i t x y:Int)(A:Option Addr)(n c:Nat)(G:Option Addr)(m kk:Nat)(fp fq fs fz b:Int)(ws gs:List Bx)(w:World)(R:RdU B w r k)(k0:0<=k)(hk:k<=60000)(I:Boxes w A n ws)(J:Boxes w G m gs)(MA:AK B A)(MG:AK B G)(ok:C8 ws=true)(hn:n<=10)(hm:m<=10)(hL:FF t x y b) :
 Calls Tryz.prog 56 #[.pointer (some ⟨r,0,none⟩),Fq i t x y A n c G m kk fp fq fs fz b] w (JA B r k w):=by
 have hr:=R.here;have hB:=R.base;obtain⟨⟨t1,t2⟩,⟨x1,x2⟩,⟨y1,y2⟩,b0,b3⟩:=hL;have I:=hid I;have J:=hid J;have MA:=hid MA;have MG:=hid MG;have ok:=hid ok;have L:CellsAt (((w.alloc (.cells #[.int .i64 i,.int .i64 t,.int .i64 x,.int .i64 y,.slice A n c,.slice G m kk,.int .i64 fp,.int .i64 fq,.int .i64 fs,.int .i64 fz,.int .i64 b] 62)).alloc (.cells #[] 89)).alloc (.cells #[.int .i64 0,.int .i64 0,.bool false] 89)) w.heap.size (AW i t x y A n c G m kk fp fq fs fz b):=((CellsAt.new w _ _ _ rfl).alloc _).alloc _
 have Q:CellsAt (((w.alloc (.cells #[.int .i64 i,.int .i64 t,.int .i64 x,.int .i64 y,.slice A n c,.slice G m kk,.int .i64 fp,.int .i64 fq,.int .i64 fs,.int .i64 fz,.int .i64 b] 62)).alloc (.cells #[] 89)).alloc (.cells #[.int .i64 0,.int .i64 0,.bool false] 89)) (w.heap.size+1+1) (AF 0 0 false):=CellsAt.new _ _ _ _ (by simp);have O:=hid ((Bl (w.alloc (.cells #[.int .i64 i,.int .i64 t,.int .i64 x,.int .i64 y,.slice A n c,.slice G m kk,.int .i64 fp,.int .i64 fq,.int .i64 fs,.int .i64 fz,.int .i64 b] 62)) (w.heap.size+1) (w.heap.size+1) (by simp) (by simp)).alloc (.cells #[.int .i64 0,.int .i64 0,.bool false] 89))
 have K:=hid ((((Kept.refl r w).alloc (.cells #[.int .i64 i,.int .i64 t,.int .i64 x,.int .i64 y,.slice A n c,.slice G m kk,.int .i64 fp,.int .i64 fq,.int .i64 fs,.int .i64 fz,.int .i64 b] 62)).alloc (.cells #[] 89)).alloc (.cells #[.int .i64 0,.int .i64 0,.bool false] 89));have R:=hid (((R.alloc (.cells #[.int .i64 i,.int .i64 t,.int .i64 x,.int .i64 y,.slice A n c,.slice G m kk,.int .i64 fp,.int .i64 fq,.int .i64 fs,.int .i64 fz,.int .i64 b] 62)).alloc (.cells #[] 89)).alloc (.cells #[.int .i64 0,.int .i64 0,.bool false] 89));go_enter Tryz.func56,Tryz.ntmps56;go_wp2_with fail;refine(Aj r 40 _ _ R.out (by omega) (by omega) (by omega)).mono ?_
 rintro e w1 ⟨a,⟨a0,a1⟩,rfl,R1,K1⟩;replace L:=L.kept K1 (by omega);replace Q:=Q.kept K1 (by omega);replace O:=hid (O.out.kept K1.grows (.inr fun he=>by have:=(O.out.lt r he).1; omega));replace K:=hid (K.out.trans K1);replace R:=hid R1;clear K1 R1;go_wp2_with fail;refine(Aj r 3 _ _ R.out (by omega) (by omega) (by omega)).mono ?_;rintro e w2 ⟨c3,⟨c30,c31⟩,rfl,R1,K1⟩;replace L:=L.kept K1 (by omega);replace Q:=Q.kept K1 (by omega);replace O:=hid (O.out.kept K1.grows (.inr fun he=>by have:=(O.out.lt r he).1; omega));replace K:=hid (K.out.trans K1);replace R:=hid R1;clear K1 R1
 go_upto_if 18 with fail
 go_cut [7] (fun v W'=>∃ N:Nat,N<=60/\v=.int .i64 N/\W'=w2)
 case first =>
  by_cases h3:0<c3
  . go_wp2_with fail
    go_meet
    exact⟨60,by omega,rfl,rfl⟩
  . have h3d:decide (0<c3)=false:=decide_eq_false h3;obtain⟨N,rfl⟩:=Int.eq_ofNat_of_zero_le a0;go_wp2_with fail
    go_meet
    exact⟨N,by omega,rfl,rfl⟩
 obtain⟨N,hN,rfl,rfl⟩:=hcut;obtain⟨Lc0,Lc1,Lc2,Lc3,Lc4,Lc5,Lc6,Lc7,Lc8,Lc9,Lc10⟩:=Bb L;have Ll:=L.lt;go_wp2_with fail;refine(Fl i t x y A n c G m kk fp fq fs fz b _).mono ?_;rintro e w3 ⟨rfl,S3⟩;clear Lc0 Lc1 Lc2 Lc3 Lc4 Lc5 Lc6 Lc7 Lc8 Lc9 Lc10 Ll;have z3:=S3.size;have lq:=Q.lt;have H:RW B r w w3.heap.size (w3.heap.size+1) (AW i t x y A n c G m kk fp fq fs fz b) (AF 0 0 false) (AE 0 x y 0 0 0 0 false false) (.slice (some ⟨w.heap.size+1,0,none⟩) 0 0) 0 [] (k+2) (w3.alloc (.cells #[.int .i64 0,.int .i64 x,.int .i64 y,.int .i64 0,.int .i64 0,.int .i64 0,.int .i64 0,.bool false,.bool false] 132)) :=
  ⟨(L.step S3).alloc _,(Q.step S3).alloc _,CellsAt.new _ _ _ _ rfl,(As O.out S3).alloc _,by simp[Value.ownBlock],by simp[Value.ownBlock]; omega,fun g e=>by simp[Value.ownBlock] at e; omega,by omega,by simp,((R.out.mono (by omega)).below (S3.mono R.out.base)).alloc _,(K.out.trans (Kept.of_below S3)).alloc _,by omega,hB,hr⟩
 have H:=hid H;clear L Q O K R S3;go_upto_region 7 with fail;obtain⟨sb,hsb⟩:∃ sb,w3.heap.size=sb:=⟨_,rfl⟩;rw[hsb] at H z3 ⊢;have hsb:=hid hsb;go_wp2
 go_loopw [5,9] (MK B r k w sb N m (AW i t x y A n c G m kk fp fq fs fz b) t b) (fun _ i _=>N-(RowKit.intOf i).toNat)
 case atStart=>exact⟨0,sb+1,[],0,0,false,⟨0,x,y,0,0,0,0,false,false⟩,Nat.zero_le _,rfl,VIn.nil,by omega,HE (by omega) (by omega),by show(0:Int)<=((0:Nat):Int); omega,H.out.mono (by omega)⟩
 case round =>
  clear H;obtain⟨j,U,xs,s0,p0,z0,⟨sk,sax,say,sfx,sfy,su,sg,sd,so⟩,hj,rfl,vx,⟨s1,s2⟩,hS,hsk,H⟩:=hrel;have vx:=hid vx;have hSg:=hS.g.1;simp only at hSg hsk;obtain⟨gn,rfl⟩:=Int.eq_ofNat_of_zero_le hSg;obtain⟨A1,c1,hov,_,_⟩:=Inputs.of_own H.O;subst hov;simp only at H;have H:=hid H;have L1:=H.out.L.cell 1 _ rfl;have Ll:=H.out.L.lt;by_cases hlt:j<N
  rotate_left
  . have hd:decide (j<N)=false:=decide_eq_false hlt;go_wp2;go_ret;exact⟨.slice A1 j c1,j,xs,rfl,by omega,vx.out,H.out.O,H.out.R.mono (by omega),H.out.K⟩
  by_cases ht:(j:Int)<t
  rotate_left
  . have hd:decide ((j:Int)<t)=false:=decide_eq_false ht;go_wp2;go_ret;exact⟨.slice A1 j c1,j,xs,rfl,by omega,vx.out,H.out.O,H.out.R.mono (by omega),H.out.K⟩
  clear L1 Ll;obtain⟨Lc0,Lc1,Lc2,Lc3,Lc4,Lc5,Lc6,Lc7,Lc8,Lc9,Lc10⟩:=Bb H.out.L;have Ll:=H.out.L.lt;obtain⟨Qc0,Qc1,Qc2⟩:=BL H.out.Q;have Ql:=H.out.Q.lt;go_wp2_with fail;refine(GX r _ i t x y A n c G m kk fp fq fs fz b s0 p0 z0 _ H.out.R (by omega) b0 b3 s1 s2).mono ?_;rintro e w4 ⟨a,p,z,rfl,R1,K1⟩;clear Lc0 Lc1 Lc2 Lc3 Lc4 Lc5 Lc6 Lc7 Lc8 Lc9 Lc10 Ll Qc0 Qc1 Qc2 Ql;replace H:=hid ((H.out.kept K1 R1).var (.cells #[.int .i64 a,.int .i64 p,.bool z] 89));have X:CellsAt (w4.alloc (.cells #[.int .i64 a,.int .i64 p,.bool z] 89)) w4.heap.size (AF a p z):=CellsAt.new _ _ _ _ rfl;clear K1 R1;go_upto_region 11 with fail
  refine BR (fun W'=>RW B r w sb w4.heap.size (AW i t x y A n c G m kk fp fq fs fz b) (AF s0 p0 z0) (AE sk sax say sfx sfy su gn sd so) (.slice A1 j c1) j xs (k+2+3*j+3) W'/\CellsAt W' w4.heap.size (AF a p z)) ⟨H.out,X⟩ ?_;clear H X;rintro w5 ⟨H,X⟩;generalize w4.heap.size=xb at *;replace H:=hid H
  go_cut [11] from 21 to 66 (Mm B r w sb xb (AW i t x y A n c G m kk fp fq fs fz b) (AF s0 p0 z0) (AE sk sax say sfx sfy su gn sd so) (.slice A1 j c1) j xs (k+2+3*j+3))
  case first =>
   refine wp_region_held_drew (S:=fun w'=>CellsAt w' xb (AF a p z)) (by kernel_rfl) X.drew (fun hHeld=>?_);replace X:=X.drew;replace H:=hid (H.out.step (Ac _).drew);refine tl 1 ?_ ?_ hHeld ?_;rotate_left
   . intro w hSw
     try dsimp only at hSw
     go_simp
     all_goals with_reducible rfl
   try simp only[Act.put,sx]
   refine wpAnyH_take (i:=3) (oi:=_) (v:=.agg (AF a p z).toArray) rfl (by kernel_rfl) (by kernel_rfl) (by kernel_rfl) (fun _ _ _ h=>h) (yieldsIf_load_mid (by rfl) 89 (.tmp 10) rfl xb 0 rfl (AF a p z) _ (fun W hS=>hS.range) Tryz.underlying89 rfl Af) hHeld ?_
   try simp only[Act.put,sx]
   refine wpAnyH_ready (rs:=[0,4]) (by kernel_rfl) (by simp) ?_;refine(AllReadyH.cons (o:=_) rfl (fun K hK=>?_) (AllReadyH.cons (o:=_) rfl (fun K hK=>?_) AllReadyH.nil))
   . skip
     dsimp only[List.getElem_toArray,List.getElem_cons_succ,List.getElem_cons_zero];rw[if_pos (by rfl)];refine Bc rfl ?_;intro g0 wn S hg0 E;have hU:xb+1<=g0:=Nat.le_trans X.lt hg0;have hz:=Nat.le_of_lt (E.lt g0 rfl).2;replace X:=X.step S;replace H:=hid (H.out.step S);clear S hg0 hHeld;refine hK.out _ _ X (fun hHeld=>?_);clear hK K
     try simp only[Act.put,List.setIfInBounds_toArray,List.set_cons_zero,List.set_cons_succ]
     refine wpAnyH_ready (rs:=[2,4]) (by kernel_rfl) (by simp) ?_;refine(AllReadyH.cons (o:=_) rfl (fun K hK=>?_) (AllReadyH.cons (o:=_) rfl (fun K hK=>?_) AllReadyH.nil))
     . skip
       dsimp only[List.getElem_toArray,List.getElem_cons_succ,List.getElem_cons_zero];rw[if_pos (by rfl)];refine AA (.tmp 36) (.tmp 37) rfl g0 _ 0 [] rfl E A1 j c1 xs rfl (by obtain⟨_,_,e,I,_⟩:=Inputs.of_own H.out.O; cases e; exact I) (by omega) hz ?_;intro v1 wn E1 GN;replace E:=E1;replace hz:=Nat.le_trans hz GN.size;replace X:=X.grown GN (fun e=>by have e2:g0=xb:=Option.some.inj e; omega);replace H:=hid (H.out.grown GN (fun g e=>by have e2:g0=g:=Option.some.inj e; omega));clear GN E1 hHeld;refine hK.out _ _ X (fun hHeld=>?_);clear hK K
       try simp only[Act.put,List.setIfInBounds_toArray,List.set_cons_zero,List.set_cons_succ]
       refine wpAnyH_ready (rs:=[4]) (by kernel_rfl) (by simp) ?_;apply AllReadyH.cons rfl ?_ AllReadyH.nil;intro K hK;dsimp only[List.getElem_toArray,List.getElem_cons_succ,List.getElem_cons_zero];rw[if_pos (by rfl)];refine BJ (.tmp 39) rfl a p z rfl ?_;intro g1 wn S hg1 I1;replace E:=As E S;replace hz:=Nat.le_trans hz S.size;replace X:=X.step S;replace H:=hid (H.out.step S);clear S hg1 hHeld;refine hK.out _ _ X (fun hHeld=>?_);clear hK K
       try simp only[Act.put,List.setIfInBounds_toArray,List.set_cons_zero,List.set_cons_succ]
       refine wpAnyH_ready (rs:=[5]) (by kernel_rfl) (by simp) ?_;apply AllReadyH.cons rfl ?_ AllReadyH.nil;intro K hK;dsimp only[List.getElem_toArray,List.getElem_cons_succ,List.getElem_cons_zero];rw[if_pos (by rfl)];refine AA (.tmp 38) (.tmp 40) rfl g0 _ (0+j) ([]++xs) rfl E _ 1 1 [⟨a,p,z⟩] rfl I1 (by omega) hz ?_;intro v2 wn E2 GN;replace X:=X.grown GN (fun e=>by have:=(E.lt xb e).1; omega);replace H:=hid (H.out.grown GN (fun g e=>by have:=(E.lt g e).1; omega));replace E:=E2;clear GN E2 I1 hHeld;refine hK.out _ _ X (fun hHeld=>?_);clear hK K
       try simp only[Act.put,List.setIfInBounds_toArray,List.set_cons_zero,List.set_cons_succ]
       refine tl 6 ?_ ?_ hHeld ?_;rotate_left
       . intro w hSw
         try dsimp only at hSw
         go_simp
         all_goals with_reducible rfl
       try simp only[Act.put,sx]
       refine wpAnyH_done (by kernel_rfl) ?_ _;replace E:=hid (show World.ownsRow _ _ _ _ _ _ _ from(by simpa using E));go_wp2_with fail
       go_meet
       case rel=>exact⟨a,p,z,g0,H.out,X,hU,E.out⟩
     . skip
       dsimp only[List.getElem_toArray,List.getElem_cons_succ,List.getElem_cons_zero];rw[if_pos (by rfl)];refine BJ (.tmp 39) rfl a p z rfl ?_;intro g1 wn S hg1 I1;have hne:g1≠g0:=by have:=(E.lt g0 rfl).2; omega
       replace E:=As E S;replace hz:=Nat.le_trans hz S.size;replace X:=X.step S;replace H:=hid (H.out.step S);clear S hg1 hHeld;refine hK.out _ _ X (fun hHeld=>?_);clear hK K
       try simp only[Act.put,List.setIfInBounds_toArray,List.set_cons_zero,List.set_cons_succ]
       refine wpAnyH_ready (rs:=[2]) (by kernel_rfl) (by simp) ?_;apply AllReadyH.cons rfl ?_ AllReadyH.nil;intro K hK;dsimp only[List.getElem_toArray,List.getElem_cons_succ,List.getElem_cons_zero];rw[if_pos (by rfl)];refine AA (.tmp 36) (.tmp 37) rfl g0 _ 0 [] rfl E A1 j c1 xs rfl (by obtain⟨_,_,e,I,_⟩:=Inputs.of_own H.out.O; cases e; exact I) (by omega) hz ?_;intro v1 wn E1 GN;replace E:=E1;replace hz:=Nat.le_trans hz GN.size;replace X:=X.grown GN (fun e=>by have e2:g0=xb:=Option.some.inj e; omega);replace H:=hid (H.out.grown GN (fun g e=>by have e2:g0=g:=Option.some.inj e; omega))
       replace I1:=I1.grown GN (fun _ k off e e2=>by cases e; have e3:g0=g1:=Option.some.inj e2; omega);clear GN E1 hHeld;refine hK.out _ _ X (fun hHeld=>?_);clear hK K
       try simp only[Act.put,List.setIfInBounds_toArray,List.set_cons_zero,List.set_cons_succ]
       refine wpAnyH_ready (rs:=[5]) (by kernel_rfl) (by simp) ?_;apply AllReadyH.cons rfl ?_ AllReadyH.nil;intro K hK;dsimp only[List.getElem_toArray,List.getElem_cons_succ,List.getElem_cons_zero];rw[if_pos (by rfl)];refine AA (.tmp 38) (.tmp 40) rfl g0 _ (0+j) ([]++xs) rfl E _ 1 1 [⟨a,p,z⟩] rfl I1 (by omega) hz ?_;intro v2 wn E2 GN;replace X:=X.grown GN (fun e=>by have:=(E.lt xb e).1; omega);replace H:=hid (H.out.grown GN (fun g e=>by have:=(E.lt g e).1; omega));replace E:=E2;clear GN E2 I1 hHeld;refine hK.out _ _ X (fun hHeld=>?_);clear hK K
       try simp only[Act.put,List.setIfInBounds_toArray,List.set_cons_zero,List.set_cons_succ]
       refine tl 6 ?_ ?_ hHeld ?_;rotate_left
       . intro w hSw
         try dsimp only at hSw
         go_simp
         all_goals with_reducible rfl
       try simp only[Act.put,sx]
       refine wpAnyH_done (by kernel_rfl) ?_ _;replace E:=hid (show World.ownsRow _ _ _ _ _ _ _ from(by simpa using E));go_wp2_with fail
       go_meet
       case rel=>exact⟨a,p,z,g0,H.out,X,hU,E.out⟩
   . skip
     dsimp only[List.getElem_toArray,List.getElem_cons_succ,List.getElem_cons_zero];rw[if_pos (by rfl)];refine BJ (.tmp 39) rfl a p z rfl ?_;intro g1 wn S hg1 I1;replace X:=X.step S;replace H:=hid (H.out.step S);clear S hg1 hHeld;refine hK.out _ _ X (fun hHeld=>?_);clear hK K
     try simp only[Act.put,List.setIfInBounds_toArray,List.set_cons_zero,List.set_cons_succ]
     refine wpAnyH_ready (rs:=[0]) (by kernel_rfl) (by simp) ?_;apply AllReadyH.cons rfl ?_ AllReadyH.nil;intro K hK;dsimp only[List.getElem_toArray,List.getElem_cons_succ,List.getElem_cons_zero];rw[if_pos (by rfl)];refine Bc rfl ?_;intro g0 wn S hg0 E;have hU:xb+1<=g0:=Nat.le_trans X.lt hg0;have hz:=Nat.le_of_lt (E.lt g0 rfl).2;have hne:g1≠g0:=by have:=I1.lt (by omega) _ _ rfl; omega
     replace I1:=I1.step S;replace X:=X.step S;replace H:=hid (H.out.step S);clear S hg0 hHeld;refine hK.out _ _ X (fun hHeld=>?_);clear hK K
     try simp only[Act.put,List.setIfInBounds_toArray,List.set_cons_zero,List.set_cons_succ]
     refine wpAnyH_ready (rs:=[2]) (by kernel_rfl) (by simp) ?_;apply AllReadyH.cons rfl ?_ AllReadyH.nil;intro K hK;dsimp only[List.getElem_toArray,List.getElem_cons_succ,List.getElem_cons_zero];rw[if_pos (by rfl)];refine AA (.tmp 36) (.tmp 37) rfl g0 _ 0 [] rfl E A1 j c1 xs rfl (by obtain⟨_,_,e,I,_⟩:=Inputs.of_own H.out.O; cases e; exact I) (by omega) hz ?_;intro v1 wn E1 GN;replace E:=E1;replace hz:=Nat.le_trans hz GN.size;replace X:=X.grown GN (fun e=>by have e2:g0=xb:=Option.some.inj e; omega);replace H:=hid (H.out.grown GN (fun g e=>by have e2:g0=g:=Option.some.inj e; omega))
     replace I1:=I1.grown GN (fun _ k off e e2=>by cases e; have e3:g0=g1:=Option.some.inj e2; omega);clear GN E1 hHeld;refine hK.out _ _ X (fun hHeld=>?_);clear hK K
     try simp only[Act.put,List.setIfInBounds_toArray,List.set_cons_zero,List.set_cons_succ]
     refine wpAnyH_ready (rs:=[5]) (by kernel_rfl) (by simp) ?_;apply AllReadyH.cons rfl ?_ AllReadyH.nil;intro K hK;dsimp only[List.getElem_toArray,List.getElem_cons_succ,List.getElem_cons_zero];rw[if_pos (by rfl)];refine AA (.tmp 38) (.tmp 40) rfl g0 _ (0+j) ([]++xs) rfl E _ 1 1 [⟨a,p,z⟩] rfl I1 (by omega) hz ?_;intro v2 wn E2 GN;replace X:=X.grown GN (fun e=>by have:=(E.lt xb e).1; omega);replace H:=hid (H.out.grown GN (fun g e=>by have:=(E.lt g e).1; omega));replace E:=E2;clear GN E2 I1 hHeld;refine hK.out _ _ X (fun hHeld=>?_);clear hK K
     try simp only[Act.put,List.setIfInBounds_toArray,List.set_cons_zero,List.set_cons_succ]
     refine tl 6 ?_ ?_ hHeld ?_;rotate_left
     . intro w hSw
       try dsimp only at hSw
       go_simp
       all_goals with_reducible rfl
     try simp only[Act.put,sx]
     refine wpAnyH_done (by kernel_rfl) ?_ _;replace E:=hid (show World.ownsRow _ _ _ _ _ _ _ from(by simpa using E));go_wp2_with fail
     go_meet
     case rel=>exact⟨a,p,z,g0,H.out,X,hU,E.out⟩
  clear H X a p z;obtain⟨a,p,z,g0,H,X,hU,E⟩:=hcut;replace H:=hid H;obtain⟨A2,c2,rfl,Y2,_⟩:=Inputs.of_own E;replace E:=hid E;have C:=hid (fun(W:World) (Z:Inputs W A2 (j+1) (xs++[⟨a,p,z⟩]))=>CX i t x y A n c G m kk fp fq fs fz b A2 (j+1) c2 (xs++[⟨a,p,z⟩]) W Z (by omega) b0 b3);obtain⟨Lc0,Lc1,Lc2,Lc3,Lc4,Lc5,Lc6,Lc7,Lc8,Lc9,Lc10⟩:=Bb H.out.L;have Ll:=H.out.L.lt;go_wp2_with fail;refine(C.out _ Y2).mono ?_;rintro e w6 ⟨rfl,S6⟩;replace H:=hid (H.out.step S6);replace X:=X.step S6;replace E:=hid (As E.out S6);clear S6 Y2 C Lc0 Lc1 Lc2 Lc3 Lc4 Lc5 Lc6 Lc7 Lc8 Lc9 Lc10 Ll
  go_upto_if 45 with fail
  go_cut [11] from 21 to 66 (Mm B r w sb xb (AW i t x y A n c G m kk fp fq fs fz b) (AF s0 p0 z0) (AE sk sax say sfx sfy su gn sd so) (.slice A1 j c1) j xs (k+2+3*j+3))
  case first =>
   by_cases hg:0<=GW t b (xs++[⟨a,p,z⟩])
   . have hgd:decide (0<=GW t b (xs++[⟨a,p,z⟩]))=true:=decide_eq_true hg;clear E hU;have Xc0:=X.cell 0 _ rfl;have Xf0:=X.fr 0;have Xc1:=X.cell 1 _ rfl;have Xf1:=X.fr 1;have Xc2:=X.cell 2 _ rfl;have Xf2:=X.fr 2;have Xl:=X.lt;go_upto_region 14 with fail;refine BR (fun W'=>RW B r w sb xb (AW i t x y A n c G m kk fp fq fs fz b) (AF s0 p0 z0) (AE sk sax say sfx sfy su gn sd so) (.slice A1 j c1) j xs (k+2+3*j+3) W'/\CellsAt W' xb (AF 0 0 false)) ⟨((H.out.far (Nat.le_refl _) _ _).far (Nat.le_refl _) _ _).far (Nat.le_refl _) _ _,((X.set 0 (by simp) _).set 1 (by simp) _).set 2 (by simp) _⟩ ?_;clear H X Xc0 Xf0 Xc1 Xf1 Xc2 Xf2 Xl;rintro w7 ⟨H,X⟩
     replace H:=hid H;clear hg hgd;refine wp_region_held_drew (S:=fun w'=>CellsAt w' xb (AF 0 0 false)) (by kernel_rfl) X.drew (fun hHeld=>?_);replace X:=X.drew;replace H:=hid (H.out.step (Ac _).drew);refine tl 1 ?_ ?_ hHeld ?_;rotate_left
     . intro w hSw
       try dsimp only at hSw
       go_simp
       all_goals with_reducible rfl
     try simp only[Act.put,sx]
     refine wpAnyH_take (i:=3) (oi:=_) (v:=.agg (AF 0 0 false).toArray) rfl (by kernel_rfl) (by kernel_rfl) (by kernel_rfl) (fun _ _ _ h=>h) (yieldsIf_load_mid (by rfl) 89 (.tmp 10) rfl xb 0 rfl (AF 0 0 false) _ (fun W hS=>hS.range) Tryz.underlying89 rfl Af) hHeld ?_
     try simp only[Act.put,sx]
     refine wpAnyH_ready (rs:=[0,4]) (by kernel_rfl) (by simp) ?_;refine(AllReadyH.cons (o:=_) rfl (fun K hK=>?_) (AllReadyH.cons (o:=_) rfl (fun K hK=>?_) AllReadyH.nil))
     . skip
       dsimp only[List.getElem_toArray,List.getElem_cons_succ,List.getElem_cons_zero];rw[if_pos (by rfl)];refine Bc rfl ?_;intro g0 wn S hg0 E;have hU:xb+1<=g0:=Nat.le_trans X.lt hg0;have hz:=Nat.le_of_lt (E.lt g0 rfl).2;replace X:=X.step S;replace H:=hid (H.out.step S);clear S hg0 hHeld;refine hK.out _ _ X (fun hHeld=>?_);clear hK K
       try simp only[Act.put,List.setIfInBounds_toArray,List.set_cons_zero,List.set_cons_succ]
       refine wpAnyH_ready (rs:=[2,4]) (by kernel_rfl) (by simp) ?_;refine(AllReadyH.cons (o:=_) rfl (fun K hK=>?_) (AllReadyH.cons (o:=_) rfl (fun K hK=>?_) AllReadyH.nil))
       . skip
         dsimp only[List.getElem_toArray,List.getElem_cons_succ,List.getElem_cons_zero];rw[if_pos (by rfl)];refine AA (.tmp 47) (.tmp 48) rfl g0 _ 0 [] rfl E A1 j c1 xs rfl (by obtain⟨_,_,e,I,_⟩:=Inputs.of_own H.out.O; cases e; exact I) (by omega) hz ?_;intro v1 wn E1 GN;replace E:=E1;replace hz:=Nat.le_trans hz GN.size;replace X:=X.grown GN (fun e=>by have e2:g0=xb:=Option.some.inj e; omega);replace H:=hid (H.out.grown GN (fun g e=>by have e2:g0=g:=Option.some.inj e; omega));clear GN E1 hHeld;refine hK.out _ _ X (fun hHeld=>?_);clear hK K
         try simp only[Act.put,List.setIfInBounds_toArray,List.set_cons_zero,List.set_cons_succ]
         refine wpAnyH_ready (rs:=[4]) (by kernel_rfl) (by simp) ?_;apply AllReadyH.cons rfl ?_ AllReadyH.nil;intro K hK;dsimp only[List.getElem_toArray,List.getElem_cons_succ,List.getElem_cons_zero];rw[if_pos (by rfl)];refine BJ (.tmp 50) rfl 0 0 false rfl ?_;intro g1 wn S hg1 I1;replace E:=As E S;replace hz:=Nat.le_trans hz S.size;replace X:=X.step S;replace H:=hid (H.out.step S);clear S hg1 hHeld;refine hK.out _ _ X (fun hHeld=>?_);clear hK K
         try simp only[Act.put,List.setIfInBounds_toArray,List.set_cons_zero,List.set_cons_succ]
         refine wpAnyH_ready (rs:=[5]) (by kernel_rfl) (by simp) ?_;apply AllReadyH.cons rfl ?_ AllReadyH.nil;intro K hK;dsimp only[List.getElem_toArray,List.getElem_cons_succ,List.getElem_cons_zero];rw[if_pos (by rfl)];refine AA (.tmp 49) (.tmp 51) rfl g0 _ (0+j) ([]++xs) rfl E _ 1 1 [⟨0,0,false⟩] rfl I1 (by omega) hz ?_;intro v2 wn E2 GN;replace X:=X.grown GN (fun e=>by have:=(E.lt xb e).1; omega);replace H:=hid (H.out.grown GN (fun g e=>by have:=(E.lt g e).1; omega));replace E:=E2;clear GN E2 I1 hHeld;refine hK.out _ _ X (fun hHeld=>?_);clear hK K
         try simp only[Act.put,List.setIfInBounds_toArray,List.set_cons_zero,List.set_cons_succ]
         refine tl 6 ?_ ?_ hHeld ?_;rotate_left
         . intro w hSw
           try dsimp only at hSw
           go_simp
           all_goals with_reducible rfl
         try simp only[Act.put,sx]
         refine wpAnyH_done (by kernel_rfl) ?_ _;replace E:=hid (show World.ownsRow _ _ _ _ _ _ _ from(by simpa using E));go_wp2_with fail
         go_meet
         case rel=>exact⟨0,0,false,g0,H.out,X,hU,E.out⟩
       . skip
         dsimp only[List.getElem_toArray,List.getElem_cons_succ,List.getElem_cons_zero];rw[if_pos (by rfl)];refine BJ (.tmp 50) rfl 0 0 false rfl ?_;intro g1 wn S hg1 I1;have hne:g1≠g0:=by have:=(E.lt g0 rfl).2; omega
         replace E:=As E S;replace hz:=Nat.le_trans hz S.size;replace X:=X.step S;replace H:=hid (H.out.step S);clear S hg1 hHeld;refine hK.out _ _ X (fun hHeld=>?_);clear hK K
         try simp only[Act.put,List.setIfInBounds_toArray,List.set_cons_zero,List.set_cons_succ]
         refine wpAnyH_ready (rs:=[2]) (by kernel_rfl) (by simp) ?_;apply AllReadyH.cons rfl ?_ AllReadyH.nil;intro K hK;dsimp only[List.getElem_toArray,List.getElem_cons_succ,List.getElem_cons_zero];rw[if_pos (by rfl)];refine AA (.tmp 47) (.tmp 48) rfl g0 _ 0 [] rfl E A1 j c1 xs rfl (by obtain⟨_,_,e,I,_⟩:=Inputs.of_own H.out.O; cases e; exact I) (by omega) hz ?_;intro v1 wn E1 GN;replace E:=E1;replace hz:=Nat.le_trans hz GN.size;replace X:=X.grown GN (fun e=>by have e2:g0=xb:=Option.some.inj e; omega);replace H:=hid (H.out.grown GN (fun g e=>by have e2:g0=g:=Option.some.inj e; omega))
         replace I1:=I1.grown GN (fun _ k off e e2=>by cases e; have e3:g0=g1:=Option.some.inj e2; omega);clear GN E1 hHeld;refine hK.out _ _ X (fun hHeld=>?_);clear hK K
         try simp only[Act.put,List.setIfInBounds_toArray,List.set_cons_zero,List.set_cons_succ]
         refine wpAnyH_ready (rs:=[5]) (by kernel_rfl) (by simp) ?_;apply AllReadyH.cons rfl ?_ AllReadyH.nil;intro K hK;dsimp only[List.getElem_toArray,List.getElem_cons_succ,List.getElem_cons_zero];rw[if_pos (by rfl)];refine AA (.tmp 49) (.tmp 51) rfl g0 _ (0+j) ([]++xs) rfl E _ 1 1 [⟨0,0,false⟩] rfl I1 (by omega) hz ?_;intro v2 wn E2 GN;replace X:=X.grown GN (fun e=>by have:=(E.lt xb e).1; omega);replace H:=hid (H.out.grown GN (fun g e=>by have:=(E.lt g e).1; omega));replace E:=E2;clear GN E2 I1 hHeld;refine hK.out _ _ X (fun hHeld=>?_);clear hK K
         try simp only[Act.put,List.setIfInBounds_toArray,List.set_cons_zero,List.set_cons_succ]
         refine tl 6 ?_ ?_ hHeld ?_;rotate_left
         . intro w hSw
           try dsimp only at hSw
           go_simp
           all_goals with_reducible rfl
         try simp only[Act.put,sx]
         refine wpAnyH_done (by kernel_rfl) ?_ _;replace E:=hid (show World.ownsRow _ _ _ _ _ _ _ from(by simpa using E));go_wp2_with fail
         go_meet
         case rel=>exact⟨0,0,false,g0,H.out,X,hU,E.out⟩
     . skip
       dsimp only[List.getElem_toArray,List.getElem_cons_succ,List.getElem_cons_zero];rw[if_pos (by rfl)];refine BJ (.tmp 50) rfl 0 0 false rfl ?_;intro g1 wn S hg1 I1;replace X:=X.step S;replace H:=hid (H.out.step S);clear S hg1 hHeld;refine hK.out _ _ X (fun hHeld=>?_);clear hK K
       try simp only[Act.put,List.setIfInBounds_toArray,List.set_cons_zero,List.set_cons_succ]
       refine wpAnyH_ready (rs:=[0]) (by kernel_rfl) (by simp) ?_;apply AllReadyH.cons rfl ?_ AllReadyH.nil;intro K hK;dsimp only[List.getElem_toArray,List.getElem_cons_succ,List.getElem_cons_zero];rw[if_pos (by rfl)];refine Bc rfl ?_;intro g0 wn S hg0 E;have hU:xb+1<=g0:=Nat.le_trans X.lt hg0;have hz:=Nat.le_of_lt (E.lt g0 rfl).2;have hne:g1≠g0:=by have:=I1.lt (by omega) _ _ rfl; omega
       replace I1:=I1.step S;replace X:=X.step S;replace H:=hid (H.out.step S);clear S hg0 hHeld;refine hK.out _ _ X (fun hHeld=>?_);clear hK K
       try simp only[Act.put,List.setIfInBounds_toArray,List.set_cons_zero,List.set_cons_succ]
       refine wpAnyH_ready (rs:=[2]) (by kernel_rfl) (by simp) ?_;apply AllReadyH.cons rfl ?_ AllReadyH.nil;intro K hK;dsimp only[List.getElem_toArray,List.getElem_cons_succ,List.getElem_cons_zero];rw[if_pos (by rfl)];refine AA (.tmp 47) (.tmp 48) rfl g0 _ 0 [] rfl E A1 j c1 xs rfl (by obtain⟨_,_,e,I,_⟩:=Inputs.of_own H.out.O; cases e; exact I) (by omega) hz ?_;intro v1 wn E1 GN;replace E:=E1;replace hz:=Nat.le_trans hz GN.size;replace X:=X.grown GN (fun e=>by have e2:g0=xb:=Option.some.inj e; omega);replace H:=hid (H.out.grown GN (fun g e=>by have e2:g0=g:=Option.some.inj e; omega))
       replace I1:=I1.grown GN (fun _ k off e e2=>by cases e; have e3:g0=g1:=Option.some.inj e2; omega);clear GN E1 hHeld;refine hK.out _ _ X (fun hHeld=>?_);clear hK K
       try simp only[Act.put,List.setIfInBounds_toArray,List.set_cons_zero,List.set_cons_succ]
       refine wpAnyH_ready (rs:=[5]) (by kernel_rfl) (by simp) ?_;apply AllReadyH.cons rfl ?_ AllReadyH.nil;intro K hK;dsimp only[List.getElem_toArray,List.getElem_cons_succ,List.getElem_cons_zero];rw[if_pos (by rfl)];refine AA (.tmp 49) (.tmp 51) rfl g0 _ (0+j) ([]++xs) rfl E _ 1 1 [⟨0,0,false⟩] rfl I1 (by omega) hz ?_;intro v2 wn E2 GN;replace X:=X.grown GN (fun e=>by have:=(E.lt xb e).1; omega);replace H:=hid (H.out.grown GN (fun g e=>by have:=(E.lt g e).1; omega));replace E:=E2;clear GN E2 I1 hHeld;refine hK.out _ _ X (fun hHeld=>?_);clear hK K
       try simp only[Act.put,List.setIfInBounds_toArray,List.set_cons_zero,List.set_cons_succ]
       refine tl 6 ?_ ?_ hHeld ?_;rotate_left
       . intro w hSw
         try dsimp only at hSw
         go_simp
         all_goals with_reducible rfl
       try simp only[Act.put,sx]
       refine wpAnyH_done (by kernel_rfl) ?_ _;replace E:=hid (show World.ownsRow _ _ _ _ _ _ _ from(by simpa using E));go_wp2_with fail
       go_meet
       case rel=>exact⟨0,0,false,g0,H.out,X,hU,E.out⟩
   . have hgd:decide (0<=GW t b (xs++[⟨a,p,z⟩]))=false:=decide_eq_false hg;go_wp2_with fail
     go_meet
     case rel=>exact⟨a,p,z,g0,H.out,X,hU,E.out⟩
  clear H X E hU a p z;obtain⟨a,p,z,g0,H,X,hU,E⟩:=hcut;replace H:=hid H;obtain⟨A2,c2,rfl,Y2,_⟩:=Inputs.of_own E;replace E:=hid E;have C:=hid (fun(W:World) (Z:Inputs W A2 (j+1) (xs++[⟨a,p,z⟩]))=>CX i t x y A n c G m kk fp fq fs fz b A2 (j+1) c2 (xs++[⟨a,p,z⟩]) W Z (by omega) b0 b3);obtain⟨Lc0,Lc1,Lc2,Lc3,Lc4,Lc5,Lc6,Lc7,Lc8,Lc9,Lc10⟩:=Bb H.out.L;have Ll:=H.out.L.lt;go_wp2_with fail;refine(C.out _ Y2).mono ?_;rintro e w6 ⟨rfl,S6⟩;replace H:=hid (H.out.step S6);replace X:=X.step S6;replace E:=hid (As E.out S6);clear S6 Y2 C Lc0 Lc1 Lc2 Lc3 Lc4 Lc5 Lc6 Lc7 Lc8 Lc9 Lc10 Ll
  by_cases hg:0<=GW t b (xs++[⟨a,p,z⟩])
  . have hgd:decide (0<=GW t b (xs++[⟨a,p,z⟩]))=true:=decide_eq_true hg;go_wp2;go_ret;exact⟨.slice A1 j c1,j,xs,rfl,by omega,vx.out,H.out.O,H.out.R.mono (by omega),H.out.K⟩
  have hgd:decide (0<=GW t b (xs++[⟨a,p,z⟩]))=false:=decide_eq_false hg;have hlg:GW t b (xs++[⟨a,p,z⟩])=-1:=by
   rcases Lc t b (xs++[⟨a,p,z⟩]) 0 0 0 with e | e
   . exact e
   . exact(hg e.1).elim
  have hiv:=lg_last t b xs ⟨a,p,z⟩ 0 0 0 (by omega) hlg;have hv:=(Dc hiv).1;have vx2:=hid (vx.out.snoc (q:=⟨a,p,z⟩) hiv);clear hiv;clear hlg;obtain⟨Qc0,Qc1,Qc2⟩:=BL H.out.Q;have Ql:=H.out.Q.lt;have Qf0:=H.out.Q.fr 0;have Qf1:=H.out.Q.fr 1;have Qf2:=H.out.Q.fr 2;have Xc0:=X.cell 0 _ rfl;have Xf0:=X.fr 0;have Xc1:=X.cell 1 _ rfl;have Xf1:=X.fr 1;have Xc2:=X.cell 2 _ rfl;have Xf2:=X.fr 2;have Xl:=X.lt;go_upto_region 19 with fail
  refine BR (fun W'=>∃ U',RW B r w sb U' (AW i t x y A n c G m kk fp fq fs fz b) (AF a p z) (AE sk sax say sfx sfy su gn sd so) (.slice A2 (j+1) c2) (j+1) (xs++[⟨a,p,z⟩]) (k+2+3*j+3) W'/\CellsAt W' xb (AF a p z)) ⟨_,RW.put (((H.out.ahead 0 (by simp) _).ahead 1 (by simp) _).ahead 2 (by simp) _) (ownsRow_setCell_other (ownsRow_setCell_other (ownsRow_setCell_other E.out (fun e=>by have h9:g0<=w.heap.size+1+1:=(E.out.lt _ e).1; have:=H.out.lo; have:=H.out.us; omega) _) (fun e=>by have h9:g0<=w.heap.size+1+1:=(E.out.lt _ e).1; have:=H.out.lo; have:=H.out.us; omega) _) (fun e=>by have h9:g0<=w.heap.size+1+1:=(E.out.lt _ e).1; have:=H.out.lo; have:=H.out.us; omega) _) (by omega),((X.far (by have:=H.out.lo; have:=H.out.us; omega) _ _).far (by have:=H.out.lo; have:=H.out.us; omega) _ _).far (by have:=H.out.lo; have:=H.out.us; omega) _ _⟩ ?_
  clear H X E Qc0 Qc1 Qc2 Ql Qf0 Qf1 Qf2 Xc0 Xf0 Xc1 Xf1 Xc2 Xf2 Xl hg hgd;rintro w7 ⟨U',H,X⟩;replace H:=hid H;have hv1:=hv.1;have hv2:=hv.2;have C:=hid (fun(W:World) (Z:Boxes W A n ws) (Y:Boxes W G m gs)=>Eo i t x y A n c G m kk fp fq fs fz b ws gs sk sax say sfx sfy su gn sd so a p z W Z Y ok.out (by omega) (by omega) hS (by omega) hv1 hv2);have ks:=HI (ws:=ws) (gs:=gs) (p:=fp) (q:=fq) (r:=fs) (z:=fz) (x:=⟨a,p,z⟩) hS (by show sk<1000000; omega) J.out.1 hv1 hv2;obtain⟨Lc0,Lc1,Lc2,Lc3,Lc4,Lc5,Lc6,Lc7,Lc8,Lc9,Lc10⟩:=Bb H.out.L;have Ll:=H.out.L.lt;obtain⟨Sc0,Sc1,Sc2,Sc3,Sc4,Sc5,Sc6,Sc7,Sc8⟩:=CG H.out.S
  have Sl:=H.out.S.lt;have Xc0:=X.cell 0 _ rfl;have Xf0:=X.fr 0;have Xc1:=X.cell 1 _ rfl;have Xf1:=X.fr 1;have Xc2:=X.cell 2 _ rfl;have Xf2:=X.fr 2;have Xl:=X.lt;go_wp2_with fail;refine(C.out _ (I.out.kept H.out.K (fun _ g off e=>by have:=MA.out g off e; omega)) (J.out.kept H.out.K (fun _ g off e=>by have:=MG.out g off e; omega))).mono ?_;rintro e w8 ⟨⟨nk,nx,ny,nf,ng,nu,nv,nd,no,eM,rfl⟩,S8⟩;replace H:=hid (H.out.step S8);clear S8 C X Lc0 Lc1 Lc2 Lc3 Lc4 Lc5 Lc6 Lc7 Lc8 Lc9 Lc10 Ll Sc0 Sc1 Sc2 Sc3 Sc4 Sc5 Sc6 Sc7 Sc8 Sl Xc0 Xf0 Xc1 Xf1 Xc2 Xf2 Xl;rw[eM] at ks;obtain⟨ks1,ks2⟩:=ks;simp only at ks2;replace ks1:=hid ks1;clear eM
  go_wp2_with (refine Ah rfl 132 (.tmp 8) (.tmp 63) rfl sb rfl (AE nk nx ny nf ng nu nv nd no) rfl _ H.out.S (by simp) Ad rfl ?_);intro w9 K9 N9;replace H:=hid (H.out.state K9 N9);clear K9 N9;have S7:=H.out.S.cell 7 _ rfl;have Sl:=H.out.S.lt;cases nd
  . go_wp2
    go_roundw
    case rel=>exact⟨j+1,U',xs++[⟨a,p,z⟩],a,p,z,⟨nk,nx,ny,nf,ng,nu,nv,false,no⟩,by omega,by go_num,vx2.out,⟨hv1,hv2⟩,ks1.out,by show nk<=((j+1:Nat):Int); omega,H.out.mono (by omega)⟩
    case measure=>simp[RowKit.intOf]; omega
  . go_wp2;go_ret;exact⟨.slice A2 (j+1) c2,j+1,xs++[⟨a,p,z⟩],rfl,by omega,vx2.out,H.out.O,H.out.R.mono (by omega),H.out.K⟩
end Go.Proofs.YtgbiagonfbnooaaGreatDoor
