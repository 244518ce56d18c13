import Derived.Test.YtgbiagonfbnooaaGreatDoorZLinkPt
import Derived.Test.YtgbiagonfbnooaaGreatDoorZRepTxt
import Derived.RangeFuncBox
import Derived.RangeFuncWrites
set_option linter.all false
set_option maxRecDepth 100000
set_option maxHeartbeats 8000000
open Go.Lib
namespace Go.Proofs.YtgbiagonfbnooaaGreatDoor
open Go.RowKit Go.Shelf
open M
attribute [local go_sem] Oper.semAt_some
structure KpC(m r:Nat)(A B:World):Prop where
 os:B.os=A.os
 tape:B.tape=A.tape
 output:B.output=A.output
 size:A.heap.size<=B.heap.size
 block:∀ k,k<m->k<A.heap.size->k≠r->k+1≠r->B.heap[k]?=A.heap[k]?
theorem KpC.trans{m r:Nat}{A B C:World}(h:KpC m r A B)(k:KpC m r B C):KpC m r A C :=
 ⟨k.os.trans h.os,k.tape.trans h.tape,k.output.trans h.output,Nat.le_trans h.size k.size,fun i hi hs hr hq=>(k.block i hi (Nat.lt_of_lt_of_le hs h.size) hr hq).trans (h.block i hi hs hr hq)⟩
theorem KpC.grown{m r:Nat}{A B:World}{row:Option Nat}(hg:A.grownBy B row)(hr:∀ g,row=some g->m<=g\/g=r\/g+1=r):KpC m r A B :=
 ⟨hg.os,hg.tape,hg.output,hg.size,fun k hk hs hne hq=>hg.block k hs (fun e=>by rcases hr k e.symm with h | h | h<;>omega)⟩
theorem KpC.put{m r:Nat}{w:World}(hm:m<=w.heap.size)(W:World)(l:Nat)(o o':Obj)(hl:w.heap.size<=l)(_:W.heap[l]?=some o)(_:o.isCells=false)(_:o.isWalk=false):KpC m r W (W.putObj l o') :=
 KpC.grown (grownBy_putObj' W l o') (fun g e=>by cases e; exact .inl (by omega))
theorem KpC.below{m r:Nat}{A B:World}(B':Below A.heap.size A B):KpC m r A B:=⟨B'.os,B'.tape,B'.output,B'.size,fun k _ hs _ _=>B'.block k hs⟩
theorem KpC.set{m r:Nat}{A B:World}(h:KpC m r A B)(o:Nat)(v:Value):KpC m r A (B.setCell ⟨r,o,none⟩ v) :=
 ⟨h.os,h.tape,h.output,by simpa[World.setCell] using h.size,fun k hk hs hne hq=>(Below.heap_setCell B ⟨r,o,none⟩ v k hne).trans (h.block k hk hs hne hq)⟩
def SrcC(r:Nat)(A:Option Addr)(n c:Nat)(xs:List Int)(W:World):Prop :=
 r+2<W.heap.size/\W.cell? ⟨r+1,0,none⟩=some (.slice A n c)/\W.cell? ⟨r+2,0,none⟩=some (.int .i64 2)/\xs.length=n/\(0<n->∃ b off,A=some ⟨b,off,none⟩/\b+1<r/\∀ k,k<n->W.cell? ⟨b,off+k,none⟩=some (.int .i64 (xs.getD k 0)))
theorem SrcC.kp{r:Nat}{A:Option Addr}{n c:Nat}{xs:List Int}{W W':World}(h:SrcC r A n c xs W)(K:KpC (r+3) r W W'):SrcC r A n c xs W' :=
 ⟨Nat.lt_of_lt_of_le h.1 K.size,(World.cell?_of_block (a:=⟨r+1,0,none⟩) (K.block (r+1) (by omega) (by have:=h.1; omega) (by omega) (by omega))).trans h.2.1,(World.cell?_of_block (a:=⟨r+2,0,none⟩) (K.block (r+2) (by omega) h.1 (by omega) (by omega))).trans h.2.2.1,h.2.2.2.1,fun hn=>by
  obtain⟨b,off,e,hb,hc⟩:=h.2.2.2.2 hn;exact⟨b,off,e,hb,fun k hk=>(World.cell?_of_block (a:=⟨b,off+k,none⟩) (K.block b (by omega) (by have:=h.1; omega) (by omega) (by omega))).trans (hc k hk)⟩⟩
theorem KW(A:Option Addr)(n c:Nat)(w:World):Calls Tryz.prog 47 #[.slice A n c,.int .i64 2] w fun e w'=>e=.returned (.func (.func 74) #[] #[.pointer (some ⟨w.heap.size,0,none⟩),.pointer (some ⟨w.heap.size+1,0,none⟩)])/\(w.alloc (.cells #[.slice A n c] 24)).alloc (.cells #[.int .i64 2] 3)=w':=by
 have hmf:∀(fn:Fn) (first cap:Array Value) (w:World),(Instr.makeFunc fn first cap).run Tryz.prog w=.ok (.func fn first cap) w:=fun _ _ _ _=>rfl;go_enter Tryz.func47,Tryz.ntmps47;go_wp2;go_ret;exact⟨by simp,rfl⟩
abbrev Mw(A:Option Addr)(j:Nat):Array Value:=#[.slice (A.map fun a=>⟨a.block,a.off+2*j,none⟩) 2 2]
theorem GI(nn r:Nat)(hnn:1<=nn)(A:Option Addr)(n m c:Nat)(hmn:2*m=n)(xs:List Int)(w:World)(hs:r+3<=w.heap.size)(hc:n<=c)(hQ:SrcC r A n c xs w)(hn:n<=4000000) :
 SeqStopsK Fence.wide nn Tryz.prog 74 #[.pointer (some ⟨r+1,0,none⟩),.pointer (some ⟨r+2,0,none⟩)] (fun x:Fin m=>Mw A x.val) (KpC (r+3) r) (fun xs=>xs=List.finRange m) (fun _=>True) m w:=fun l J Jx W hW hJ hJx hY h0=>by
 have hQW:=hQ.kp (KpC.below hW);have s1:=hQW.2.1;have s2:=hQW.2.2.1;have s0:=hQW.1;refine callsIn_of_wp Tryz.func74 rfl trivial ?_ rfl;simp only[Tryz.ntmps74,List.size_toArray,List.length_cons,List.length_nil,Nat.reduceAdd,Nat.reduceSub,Array.replicate_succ,Array.replicate_zero,List.push_toArray,List.append_toArray,List.nil_append,List.cons_append]
 gi_wp2
 gi_loopw [4] (fun p wr=>∃ j:Nat,j<=m/\p=.int .i64 ((2*j:Nat):Int)/\J ((List.finRange m).take j) wr/\SrcC r A n c xs wr) (fun p _=>n-(RowKit.intOf p).toNat)
 case atStart=>exact⟨0,Nat.zero_le _,rfl,h0,hQW⟩
 case round =>
  obtain⟨j,hj,rfl,hJr,hS⟩:=hrel;clear s0 s1 s2;have s1:=hS.2.1;have s2:=hS.2.2.1;have s0:=hS.1;by_cases hz:j=m
  . subst hz;rw[hmn]
    gi_wp2
    go_end0
    rw[List.take_of_length_le (by simp)] at hJr;exact⟨⟨_,rfl⟩,.inl ⟨_,rfl,hJr⟩⟩
  have hjm:j<m:=by omega
  obtain⟨b,off,rfl,hb,hcell⟩:=hS.2.2.2.2 (by omega);clear hcell;have Bd:=(Ac wr).drew;have hJd:J ((List.finRange m).take j) wr.drew:=hJ _ _ _ none hJr ⟨Bd.os,Bd.tape,Bd.output,Bd.size,fun k hk _=>Bd.block k hk⟩ (fun r e=>by cases e);obtain⟨fn,tmps,assign,body,hy,hR⟩:=hY ((List.finRange m).take j) ⟨j,hjm⟩ wr.drew hJd (by rw[List.length_take,List.length_finRange]; omega);dsimp only[Mw,Option.map_some] at hy;obtain⟨i,hi⟩:∃ i,2*j=i:=⟨_,rfl⟩;rw[hi] at hy;rw[hi];have hin:i+2<=n:=by omega
  have i0:(0:Int)<=(i:Int):=by omega
  have i1:(i:Int)<(n:Int):=by omega
  have i2:(i:Int)<=(n:Int):=by omega
  have i3:(i:Int)<=(c:Int):=by omega
  have i4:(i:Int)+2<=(c:Int):=by omega
  have i5:(i:Int)<=(i:Int)+2:=by omega
  have i6:((i:Int)+2).toNat=i+2:=by omega
  have i7:IntKind.i64.wrap ((i:Int)+2)=(i:Int)+2:=IntWalk.i64_in _ (by omega);have i8:(0:Int)<=(i:Int)+2:=by omega
  have i9:i+2-i=2:=by omega
  have ia:min (2:Int) ((n-i:Nat):Int)=2:=by omega
  have ib:=HA;have ic:¬ ((n-i:Nat):Int)<2:=by omega
  have id1:¬ (n-i<2):=by omega
  replace hi:=hid hi;replace hmn:=hid hmn
  gi_wp2
  gi_region
  gi_wp2
  refine hR.mono ?_;rintro e W3 (⟨rfl,hJ3,hk3⟩ | ⟨rfl,hJx3⟩)
  . have t2:=(hS.kp ((KpC.below Bd).trans hk3)).2.2.1
    gi_wp2
    go_roundw
    case rel=>exact⟨j+1,by omega,by have:=hi.out; go_num,by rw[List.take_succ_eq_append_getElem (by rw[List.length_finRange]; exact hjm),List.getElem_finRange]; exact hJ3,hS.kp ((KpC.below Bd).trans hk3)⟩
    case measure=>first | (simp[RowKit.intOf]; done) | (simp[RowKit.intOf]; omega)
  . gi_wp2
    refine bodyPost_ret (results_none rfl _ _ _) rfl ?_;exact⟨⟨_,rfl⟩,.inr ⟨_,trivial,hJx3⟩⟩
theorem Je{F:Fence}{n:Nat}{P:Program}{o:Oper}{a:Act}{w:World}{K:Act->World->Prop}{Q:Exit->Act->World->Prop}(l:Nat)(hd:∀ c,o.op≠.defer c)(h:o.wpIn F n P a w K Q):o.wpIn (F.inRound l) n P a w K Q:=by
 unfold Oper.wpIn at h ⊢;refine⟨h.1,?_⟩;have h2:=h.2;rw[Oper.semAt_plain F _ _ hd] at h2;rw[Oper.semAt_plain (F.inRound l) _ _ hd];generalize (execOp a.eval o).run P w=r at h2 ⊢;cases r with
 | halt x y=>exact h2
 | ok v w' =>
  cases v with
  | enter f args=>exact⟨h2.1,h2.2.inRound l⟩
  | _=>exact h2
theorem Ci{F:Fence}{n:Nat}{P:Program}{md:Region.Mode}{ops:Array Oper}{Q:Exit->Act->World->Prop}(l:Nat)(hd:∀ o∈ops,∀ c,o.op≠.defer c):∀{fuel:Nat} {listed:Array Bool} {a:Act} {w:World},wpAnyIn F n P md ops Q fuel listed a w->wpAnyIn (F.inRound l) n P md ops Q fuel listed a w
 | 0,_,_,_,h=>h
 | fuel+1,listed,a,w,h=>by
  refine⟨h.1,fun i hi=>?_⟩;have t:=h.2 i hi;unfold wpOpIn at t ⊢;cases ho:ops[i]? with
  | none=>rw[ho] at t; exact Ci l hd t
  | some o =>
   rw[ho] at t;simp only at t ⊢;split
   . next hw =>
     rw[if_pos hw] at t;exact Je l (hd o (Array.mem_of_getElem? ho)) (Oper.wpIn_mono (fun a w h=>Ci l hd h) t)
   . next hw =>
     rw[if_neg hw] at t;exact⟨t.1,Ci l hd t.2⟩
theorem BQ{F:Fence}{n:Nat}{P:Program}{o:Oper}{a:Act}{w:World}{K:Act->World->Prop}{Q:Exit->Act->World->Prop}{s x:Operand}{t:TypeId}(ho:o.op=.call { callee:=.builtin .append,args:=#[s,x],argTypes:=#[t,t] }){v':Value}{w':World}(hr:(Builtin.append_ #[t,t] o.type #[a.eval s,a.eval x]).run P w=.ok v' w')(h:K (a.put o.dst v') w'):o.wpIn F n P a w K Q:=by
 unfold Oper.wpIn;refine⟨?_,?_⟩
 . simp[Oper.about,ho,resolve,Target.leads,Sem.run_pure]
 . rw[Oper.semAt_plain F _ _ (by rw[ho]; intro c hc'; cases hc')];simp[execOp,ho,resolve,invoke,builtin,hr,Result.andThen];exact h
def Me(w:World)(o:Option (List Pt))(e:Ending)(w':World):Prop :=
 ∃ v,e=.returned (.tuple #[v,.bool o.isSome])/\(∀ ps,o=some ps->∃ A c,v=.slice A ps.length c/\Parts w' A ps.length ps)/\Below w.heap.size w w'
def M.pairsP(xs:List Int):Option (List Pt):=if xs.length % 2=0 then some (C6 xs) else none
theorem Hr:(Tryz.prog.info? 73).map (fun i=>(i.zero,i.size,i.bytes))=some (some (.agg #[.int .i64 0,.int .i64 0]),2,16):=by kernel_rfl
theorem GJ(A:Option Addr)(n c:Nat)(xs:List Int)(w:World)(I:Ints w A n xs)(hc:n<=c)(hn:n<=4000000) :
 Calls Tryz.prog 22 #[.slice A n c] w (Me w (pairsP xs)):=by
 have hl:=I.1;by_cases h2:n % 2=0
 rotate_left
 . have E:=hid (show pairsP xs=none by unfold pairsP; rw[hl,if_neg h2]);have h3:((n:Int) % 2 != 0)=true:=by rw[bne_iff_ne]; omega
   have h4:(n:Int) % 2=1:=by omega
   go_enter Tryz.func22,Tryz.ntmps22;go_wp2
   go_ret2
   exact⟨_,by rw[E.out]; rfl,(by rw[E.out]; intro l h; cases h),Ac _⟩
 obtain⟨m,hm⟩:∃ m,2*m=n:=⟨n / 2,by omega⟩;have E:=hid (show pairsP xs=some (C6 xs) by unfold pairsP; rw[hl,if_pos h2]);have ER:=hid (DF m xs (by omega));have h4:(n:Int) % 2=0:=by omega
 obtain⟨i0,hi,hz0,hz1,hz2⟩:=info_parts Hr;clear h2;refine(callsIn_wide (n:=5)).1 ?_;have hf:Fence.wide.fn 47:=trivial;refine callsIn_of_wp_marks Tryz.func22 rfl trivial ?_ rfl;simp only[Tryz.ntmps22,List.size_toArray,List.length_cons,List.length_nil,Nat.reduceAdd,Nat.reduceSub,Array.replicate_succ,Array.replicate_zero,List.push_toArray,List.append_toArray,List.nil_append,List.cons_append]
 gi_wp2_with (gi_at_call 47; refine(callsIn_wide.2 (KW _ _ _ _)).mono ?_; rintro e w' ⟨rfl,rfl⟩)
 have F0:Boxed ((((w.alloc (.cells #[] 73)).alloc (.cells #[.slice (some ⟨w.heap.size,0,none⟩) 0 0] 39)).alloc (.cells #[.slice A n c] 24)).alloc (.cells #[.int .i64 2] 3)) (w.heap.size+1) 39 (.slice (some ⟨w.heap.size,0,none⟩) 0 0):=by
  have t:=Boxed.new (w.alloc (.cells #[] 73)) 39 (.slice (some ⟨w.heap.size,0,none⟩) 0 0);rw[World.size_alloc] at t;exact(t.alloc _).alloc _
 have O0:((((w.alloc (.cells #[] 73)).alloc (.cells #[.slice (some ⟨w.heap.size,0,none⟩) 0 0] 39)).alloc (.cells #[.slice A n c] 24)).alloc (.cells #[.int .i64 2] 3)).ownsRow w.heap.size 73 2 (.slice (some ⟨w.heap.size,0,none⟩) 0 0) 0 (Cm []):=by
  have t:(w.alloc (.cells #[] 73)).ownsRow w.heap.size 73 2 (.slice (some ⟨w.heap.size,0,none⟩) 0 0) 0 []:=World.ownsRow_lit w #[] 0 (Nat.le_refl _) (Nat.zero_le _) rfl;exact((t.alloc _).alloc _).alloc _
 have hB0:Below w.heap.size w ((((w.alloc (.cells #[] 73)).alloc (.cells #[.slice (some ⟨w.heap.size,0,none⟩) 0 0] 39)).alloc (.cells #[.slice A n c] 24)).alloc (.cells #[.int .i64 2] 3)):=Ab (Ab (Ab (Ab (Ac w) _) _) _) _;have hQ:SrcC (w.heap.size+1) A n c xs ((((w.alloc (.cells #[] 73)).alloc (.cells #[.slice (some ⟨w.heap.size,0,none⟩) 0 0] 39)).alloc (.cells #[.slice A n c] 24)).alloc (.cells #[.int .i64 2] 3)):=by
  have D1:CellsAt ((((w.alloc (.cells #[] 73)).alloc (.cells #[.slice (some ⟨w.heap.size,0,none⟩) 0 0] 39)).alloc (.cells #[.slice A n c] 24)).alloc (.cells #[.int .i64 2] 3)) (w.heap.size+1+1) [.slice A n c]:=(CellsAt.new _ _ _ _ (by simp)).alloc _;have D2:CellsAt ((((w.alloc (.cells #[] 73)).alloc (.cells #[.slice (some ⟨w.heap.size,0,none⟩) 0 0] 39)).alloc (.cells #[.slice A n c] 24)).alloc (.cells #[.int .i64 2] 3)) (w.heap.size+1+2) [.int .i64 2]:=CellsAt.new _ _ _ _ (by simp);refine⟨by simp,D1.cell 0 _ rfl,D2.cell 0 _ rfl,hl,fun h0=>?_⟩;obtain⟨b,off,e,hb,hcell⟩:=I.2 h0
  exact⟨b,off,e,by omega,fun k hk=>(hB0.cell (p:=⟨b,off+k,none⟩) hb).trans (hcell k hk)⟩
 refine wpIn_rangeFunc_ownH rfl (by omega) (gf:=74) (lb:=#[.pointer (some ⟨w.heap.size+1+1,0,none⟩),.pointer (some ⟨w.heap.size+1+1+1,0,none⟩)]) rfl trivial (enters_of Tryz.func74 (by kernel_rfl) rfl)
  (GI _ (w.heap.size+1) (by omega) A n m c hm xs _ (by simp) hc hQ hn) KpC.trans (KpC.put (by simp)) (Below.refl _ _) (fun _=>rfl)
  (fun pre W=>(∃ v,Boxed W (w.heap.size+1) 39 v/\W.ownsRow w.heap.size 73 2 v pre.length (Cm (pre.map fun x=>Hk xs x.val))/\(∀ g,v.ownBlock=some g->g=w.heap.size\/w.heap.size+4<=g))/\Below w.heap.size w W/\w.heap.size+4<=W.heap.size) (fun _ _ _=>False)
  (fun s X Y row hs hg hr=>⟨holdsRow_own w.heap.size (w.heap.size+1) 39 73 2 (fun pre:List (Fin m)=>pre.length) (fun pre=>Cm (pre.map fun x=>Hk xs x.val)) (fun _ v=>∀ g,v.ownBlock=some g->g=w.heap.size\/w.heap.size+4<=g) s X Y row hs.1 hg (fun r e=>(hr r e).2),ownFrom_below (Nat.le_refl _) (by simp; omega) () X Y row hs.2.1 hg hr,Nat.le_trans hs.2.2 hg.size⟩)
  (fun c s X Y row hs hg hr=>hs)
  ⟨⟨_,F0,O0,fun g e=>by cases e; exact .inl rfl⟩,hB0,by simp⟩
  (fun x a' W=>a'={ tmps:=#[.slice A n c,undef,.slice none 0 0,.bool false,.pointer (some ⟨w.heap.size+1,0,none⟩),(.slice (A.map fun a=>⟨a.block,a.off+2*x.val,none⟩) 2 2),.slice A n c,.int .i64 (n:Int),.int .i64 0,.bool false,.slice (some ⟨w.heap.size,0,none⟩) 0 0,.slice A n c,.func (.func 74) #[] #[.pointer (some ⟨w.heap.size+1+1,0,none⟩),.pointer (some ⟨w.heap.size+1+1+1,0,none⟩)],(.slice (A.map fun a=>⟨a.block,a.off+2*x.val,none⟩) 2 2),undef,undef,undef,undef,undef,undef,undef,undef,undef,undef,undef],defers:=[] })
  (fun x a' _ X Y row hs hg hr=>hs) ?assign ?body ?done ?stop
 case assign =>
  rintro l pre x W K hI hK
  gi_wp2
  exact hK _ _ (KeepsFrom.refl _ _) (KpC.below (Ac _)) hI rfl
 case body =>
  rintro l pre x a' W hl2 ⟨rr,hr⟩ ⟨⟨v,hv,hrow,hg9⟩,hB,hsz⟩ rfl hlt;have hx:=x.isLt;obtain⟨b,off,rfl,hb,hcell⟩:=(I.step hB).2 (by omega);have c0:=hcell (2*x.val) (by omega);have c1:=hcell (2*x.val+1) (by omega);rw[<- Nat.add_assoc] at c1;change W.cell? _=some (.int .i64 (Hk xs x.val).c) at c0;change W.cell? _=some (.int .i64 (Hk xs x.val).m) at c1;clear hcell;have ex:(pre++[x]).map (fun x=>Hk xs x.val)=pre.map (fun x=>Hk xs x.val)++[Hk xs x.val]:=by simp
  have hpl:(pre.map fun x=>Hk xs x.val).length=pre.length:=by simp
  replace ex:=hid ex;generalize Hk xs x.val=z at *;obtain⟨vc,vm⟩:=z;simp only at c0 c1;dsimp only[Option.map_some];generalize off+2*x.val=o2 at *;have hrow0:=hrow;obtain⟨A1,ca,e1,_⟩:=Parts.of_own hrow0;subst e1;have X:CellsAt (W.drew.alloc (.cells #[.int .i64 vc,.int .i64 vm] 73)) W.drew.heap.size [.int .i64 vc,.int .i64 vm]:=CellsAt.new _ _ _ _ rfl;have J:Parts (W.drew.alloc (.cells #[.int .i64 vc,.int .i64 vm] 73)) (some ⟨W.drew.heap.size,0,none⟩) 1 [⟨vc,vm⟩]:=⟨rfl,fun _=>⟨_,0,rfl,by simp,fun k hk=>by
   match k,hk with
   | 0,_=>exact⟨X.cell 0 _ rfl,X.cell 1 _ rfl⟩⟩⟩
  obtain⟨v',w',hrun,O9,G9,hO9⟩:=B8 (W.drew.alloc (.cells #[.int .i64 vc,.int .i64 vm] 73)) w.heap.size 39 (.slice A1 pre.length ca) pre.length _ (World.ownsRow.alloc (World.ownsRow.drew hrow) _) _ 1 1 _ J (by omega) (by simp; omega);obtain⟨A9,c9,e9,_⟩:=Parts.of_own O9;subst e9;have f4:=hv.lt;have hap:=Boxed.appended (tmp:=.cells #[.int .i64 vc,.int .i64 vm] 73) (W:=W.drew) (v':=.slice A9 (pre.length+1) c9) (show Boxed W.drew (w.heap.size+1) 39 _ from hv) (by decide) (World.ownsRow.drew hrow) (by simp; omega) (Nat.le_succ _) O9 G9;obtain⟨b1,b2,b3,b4,b5⟩:=hap
  have hrun2:(Builtin.append_ #[39,39] 39 #[.slice A1 pre.length ca,.slice (some ⟨W.heap.size,0,none⟩) 1 1]).run Tryz.prog (W.drew.alloc (.cells #[.int .i64 vc,.int .i64 vm] 73))=.ok (.slice A9 (pre.length+1) c9) w':=hrun;clear hrun;have hrun3:=hrun2;clear hrun2;have f0:=hv.cell;have f1:=b1.cell;have f2:=b1.frozen;have f3:=b1.lt;have hkp:KpC (w.heap.size+1+3) (w.heap.size+1) W (w'.setCell ⟨w.heap.size+1,0,none⟩ (.slice A9 (pre.length+1) c9)):=by
   refine KpC.set ?_ _ _;refine KpC.trans (KpC.below ((Ac W).drew)) (KpC.trans (KpC.below (Ab (Ac W.drew) (.cells #[.int .i64 vc,.int .i64 vm] 73))) (KpC.grown G9 (fun g e=>?_)));have:=hg9 g e;omega
  have hg8:=hid (show ∀ g,(Value.slice A9 (pre.length+1) c9).ownBlock=some g->g=w.heap.size\/w.heap.size+4<=g from fun g e=>by
   rcases hO9 with h | h
   . exact hg9 g (h▸e)
   . rw[h] at e; cases e; right; simp; omega)
  have hlen1:pre.length+1=(pre++[x]).length:=by simp
  replace hlen1:=hid hlen1;clear hg9;clear X J hrow0 O9 G9 hO9 hrow O0 F0 hQ hB0
  have LEAF:=hid (show ∀ aa:Act,ownPostG (((((w.alloc (.cells #[] 73)).alloc (.cells #[.slice (some ⟨w.heap.size,0,none⟩) 0 0] 39)).alloc (.cells #[.slice (some ⟨b,off,none⟩) n c] 24)).alloc (.cells #[.int .i64 2] 3)).heap.size) (KpC (w.heap.size+1+3) (w.heap.size+1)) (fun(pre:List (Fin m)) W=>(∃ v,Boxed W (w.heap.size+1) 39 v/\W.ownsRow w.heap.size 73 2 v pre.length (Cm (pre.map fun x=>Hk xs x.val))/\(∀ g,v.ownBlock=some g->g=w.heap.size\/w.heap.size+4<=g))/\Below w.heap.size w W/\w.heap.size+4<=W.heap.size) (fun _ _ _=>False) (pre++[x]) W .normal aa (w'.setCell ⟨w.heap.size+1,0,none⟩ (.slice A9 (pre.length+1) c9)) from
   fun _=>⟨((KeepsOthers.drew W).trans b4).from _,hkp,⟨_,b2,by rw[ex.out,<- hlen1.out]; exact b3,hg8.out⟩,hB.trans ((((Ac W).drew).mono hB.size).trans b5),by have:=b5.size; simp at this ⊢; omega⟩)
  replace b2:=hid b2;replace b3:=hid b3;replace b4:=hid b4;replace b5:=hid b5;replace hkp:=hid hkp
  gi_wp2
  refine wpIn_region_any (by kernel_rfl) ?_;change wpAnyIn _ _ _ _ _ _ _ _ _ (World.drew _);refine Ci (F:=Fence.wide) l (fun o ho c=>by simp only[List.mem_toArray,List.mem_cons,List.not_mem_nil,or_false] at ho; rcases ho with rfl | rfl | rfl | rfl | rfl | rfl | rfl | rfl | rfl | rfl | rfl<;>simp) ?_;refine wpAnyIn_take (i:=1) (v:=?_) rfl rfl (by kernel_rfl) (by kernel_rfl) (by kernel_rfl) (fun _ _ _ h=>h) ⟨Or.inl ⟨by rfl,fun w=>by go_simp<;>with_reducible rfl⟩,fun _=>rfl⟩ ?_
  refine wpAnyIn_take (i:=2) (v:=?_) rfl rfl (by kernel_rfl) (by kernel_rfl) (by kernel_rfl) (fun _ _ _ h=>h) ⟨Or.inl ⟨by rfl,fun w=>by go_simp<;>with_reducible rfl⟩,fun _=>rfl⟩ ?_;refine wpAnyIn_take (i:=4) (v:=?_) rfl rfl (by kernel_rfl) (by kernel_rfl) (by kernel_rfl) (fun _ _ _ h=>h) ⟨Or.inl ⟨by rfl,fun w=>by go_simp<;>with_reducible rfl⟩,fun _=>rfl⟩ ?_;refine wpAnyIn_take (i:=5) (v:=?_) rfl rfl (by kernel_rfl) (by kernel_rfl) (by kernel_rfl) (fun _ _ _ h=>h) ⟨Or.inl ⟨by rfl,fun w=>by go_simp<;>with_reducible rfl⟩,fun _=>rfl⟩ ?_;refine wpAnyIn_ready (rs:=[0,3,6]) (by kernel_rfl) (by simp) ?_;refine AllReadyIn.cons rfl (fun K hK=>?_) ?_
  . go_simp;refine hK _ _ ?_;clear hK K;refine wpAnyIn_ready (rs:=[3,6]) (by kernel_rfl) (by simp) ?_;refine AllReadyIn.cons rfl (fun K hK=>?_) ?_
    . go_simp;refine hK _ _ ?_;clear hK K;refine wpAnyIn_ready (rs:=[6]) (by kernel_rfl) (by simp) ?_;refine AllReadyIn.cons rfl (fun K hK=>?_) ?_
      . go_simp;refine hK _ _ ?_;clear hK K;refine wpAnyIn_take (i:=7) (v:=?_) rfl rfl (by kernel_rfl) (by kernel_rfl) (by kernel_rfl) (fun _ _ _ h=>h) ⟨Or.inl ⟨by rfl,fun w=>by go_simp<;>with_reducible rfl⟩,fun _=>rfl⟩ ?_;refine wpAnyIn_ready (rs:=[8]) (by kernel_rfl) (by simp) ?_;refine AllReadyIn.cons rfl (fun K hK=>?_) ?_
        . go_simp;refine hK _ _ ?_;clear hK K;refine wpAnyIn_ready (rs:=[9]) (by kernel_rfl) (by simp) ?_;refine AllReadyIn.cons rfl (fun K hK=>?_) ?_
          . rw[if_pos (by rfl)];refine BQ rfl hrun3 ?_;simp only[Act.put,List.setIfInBounds_toArray,List.set_cons_zero,List.set_cons_succ];refine hK _ _ ?_;clear hK K;refine wpAnyIn_ready (rs:=[10]) (by kernel_rfl) (by simp) ?_;refine AllReadyIn.cons rfl (fun K hK=>?_) ?_
            . go_simp;refine hK _ _ ?_;clear hK K;refine wpAnyIn_done (by kernel_rfl) ?_ _;exact LEAF.out ⟨#[],[]⟩
            exact AllReadyIn.nil
          exact AllReadyIn.nil
        exact AllReadyIn.nil
      exact AllReadyIn.nil
    refine AllReadyIn.cons rfl (fun K hK=>?_) ?_
    . go_simp;refine hK _ _ ?_;clear hK K;refine wpAnyIn_ready (rs:=[3]) (by kernel_rfl) (by simp) ?_;refine AllReadyIn.cons rfl (fun K hK=>?_) ?_
      . go_simp;refine hK _ _ ?_;clear hK K;refine wpAnyIn_take (i:=7) (v:=?_) rfl rfl (by kernel_rfl) (by kernel_rfl) (by kernel_rfl) (fun _ _ _ h=>h) ⟨Or.inl ⟨by rfl,fun w=>by go_simp<;>with_reducible rfl⟩,fun _=>rfl⟩ ?_;refine wpAnyIn_ready (rs:=[8]) (by kernel_rfl) (by simp) ?_;refine AllReadyIn.cons rfl (fun K hK=>?_) ?_
        . go_simp;refine hK _ _ ?_;clear hK K;refine wpAnyIn_ready (rs:=[9]) (by kernel_rfl) (by simp) ?_;refine AllReadyIn.cons rfl (fun K hK=>?_) ?_
          . rw[if_pos (by rfl)];refine BQ rfl hrun3 ?_;simp only[Act.put,List.setIfInBounds_toArray,List.set_cons_zero,List.set_cons_succ];refine hK _ _ ?_;clear hK K;refine wpAnyIn_ready (rs:=[10]) (by kernel_rfl) (by simp) ?_;refine AllReadyIn.cons rfl (fun K hK=>?_) ?_
            . go_simp;refine hK _ _ ?_;clear hK K;refine wpAnyIn_done (by kernel_rfl) ?_ _;exact LEAF.out ⟨#[],[]⟩
            exact AllReadyIn.nil
          exact AllReadyIn.nil
        exact AllReadyIn.nil
      exact AllReadyIn.nil
    exact AllReadyIn.nil
  refine AllReadyIn.cons rfl (fun K hK=>?_) ?_
  . go_simp;refine hK _ _ ?_;clear hK K;refine wpAnyIn_ready (rs:=[0,6]) (by kernel_rfl) (by simp) ?_;refine AllReadyIn.cons rfl (fun K hK=>?_) ?_
    . go_simp;refine hK _ _ ?_;clear hK K;refine wpAnyIn_ready (rs:=[6]) (by kernel_rfl) (by simp) ?_;refine AllReadyIn.cons rfl (fun K hK=>?_) ?_
      . go_simp;refine hK _ _ ?_;clear hK K;refine wpAnyIn_take (i:=7) (v:=?_) rfl rfl (by kernel_rfl) (by kernel_rfl) (by kernel_rfl) (fun _ _ _ h=>h) ⟨Or.inl ⟨by rfl,fun w=>by go_simp<;>with_reducible rfl⟩,fun _=>rfl⟩ ?_;refine wpAnyIn_ready (rs:=[8]) (by kernel_rfl) (by simp) ?_;refine AllReadyIn.cons rfl (fun K hK=>?_) ?_
        . go_simp;refine hK _ _ ?_;clear hK K;refine wpAnyIn_ready (rs:=[9]) (by kernel_rfl) (by simp) ?_;refine AllReadyIn.cons rfl (fun K hK=>?_) ?_
          . rw[if_pos (by rfl)];refine BQ rfl hrun3 ?_;simp only[Act.put,List.setIfInBounds_toArray,List.set_cons_zero,List.set_cons_succ];refine hK _ _ ?_;clear hK K;refine wpAnyIn_ready (rs:=[10]) (by kernel_rfl) (by simp) ?_;refine AllReadyIn.cons rfl (fun K hK=>?_) ?_
            . go_simp;refine hK _ _ ?_;clear hK K;refine wpAnyIn_done (by kernel_rfl) ?_ _;exact LEAF.out ⟨#[],[]⟩
            exact AllReadyIn.nil
          exact AllReadyIn.nil
        exact AllReadyIn.nil
      exact AllReadyIn.nil
    refine AllReadyIn.cons rfl (fun K hK=>?_) ?_
    . go_simp;refine hK _ _ ?_;clear hK K;refine wpAnyIn_take (i:=7) (v:=?_) rfl rfl (by kernel_rfl) (by kernel_rfl) (by kernel_rfl) (fun _ _ _ h=>h) ⟨Or.inl ⟨by rfl,fun w=>by go_simp<;>with_reducible rfl⟩,fun _=>rfl⟩ ?_;refine wpAnyIn_ready (rs:=[0,8]) (by kernel_rfl) (by simp) ?_;refine AllReadyIn.cons rfl (fun K hK=>?_) ?_
      . go_simp;refine hK _ _ ?_;clear hK K;refine wpAnyIn_ready (rs:=[8]) (by kernel_rfl) (by simp) ?_;refine AllReadyIn.cons rfl (fun K hK=>?_) ?_
        . go_simp;refine hK _ _ ?_;clear hK K;refine wpAnyIn_ready (rs:=[9]) (by kernel_rfl) (by simp) ?_;refine AllReadyIn.cons rfl (fun K hK=>?_) ?_
          . rw[if_pos (by rfl)];refine BQ rfl hrun3 ?_;simp only[Act.put,List.setIfInBounds_toArray,List.set_cons_zero,List.set_cons_succ];refine hK _ _ ?_;clear hK K;refine wpAnyIn_ready (rs:=[10]) (by kernel_rfl) (by simp) ?_;refine AllReadyIn.cons rfl (fun K hK=>?_) ?_
            . go_simp;refine hK _ _ ?_;clear hK K;refine wpAnyIn_done (by kernel_rfl) ?_ _;exact LEAF.out ⟨#[],[]⟩
            exact AllReadyIn.nil
          exact AllReadyIn.nil
        exact AllReadyIn.nil
      refine AllReadyIn.cons rfl (fun K hK=>?_) ?_
      . go_simp;refine hK _ _ ?_;clear hK K;refine wpAnyIn_ready (rs:=[0]) (by kernel_rfl) (by simp) ?_;refine AllReadyIn.cons rfl (fun K hK=>?_) ?_
        . go_simp;refine hK _ _ ?_;clear hK K;refine wpAnyIn_ready (rs:=[9]) (by kernel_rfl) (by simp) ?_;refine AllReadyIn.cons rfl (fun K hK=>?_) ?_
          . rw[if_pos (by rfl)];refine BQ rfl hrun3 ?_;simp only[Act.put,List.setIfInBounds_toArray,List.set_cons_zero,List.set_cons_succ];refine hK _ _ ?_;clear hK K;refine wpAnyIn_ready (rs:=[10]) (by kernel_rfl) (by simp) ?_;refine AllReadyIn.cons rfl (fun K hK=>?_) ?_
            . go_simp;refine hK _ _ ?_;clear hK K;refine wpAnyIn_done (by kernel_rfl) ?_ _;exact LEAF.out ⟨#[],[]⟩
            exact AllReadyIn.nil
          exact AllReadyIn.nil
        exact AllReadyIn.nil
      exact AllReadyIn.nil
    exact AllReadyIn.nil
  refine AllReadyIn.cons rfl (fun K hK=>?_) ?_
  . go_simp;refine hK _ _ ?_;clear hK K;refine wpAnyIn_ready (rs:=[0,3]) (by kernel_rfl) (by simp) ?_;refine AllReadyIn.cons rfl (fun K hK=>?_) ?_
    . go_simp;refine hK _ _ ?_;clear hK K;refine wpAnyIn_ready (rs:=[3]) (by kernel_rfl) (by simp) ?_;refine AllReadyIn.cons rfl (fun K hK=>?_) ?_
      . go_simp;refine hK _ _ ?_;clear hK K;refine wpAnyIn_take (i:=7) (v:=?_) rfl rfl (by kernel_rfl) (by kernel_rfl) (by kernel_rfl) (fun _ _ _ h=>h) ⟨Or.inl ⟨by rfl,fun w=>by go_simp<;>with_reducible rfl⟩,fun _=>rfl⟩ ?_;refine wpAnyIn_ready (rs:=[8]) (by kernel_rfl) (by simp) ?_;refine AllReadyIn.cons rfl (fun K hK=>?_) ?_
        . go_simp;refine hK _ _ ?_;clear hK K;refine wpAnyIn_ready (rs:=[9]) (by kernel_rfl) (by simp) ?_;refine AllReadyIn.cons rfl (fun K hK=>?_) ?_
          . rw[if_pos (by rfl)];refine BQ rfl hrun3 ?_;simp only[Act.put,List.setIfInBounds_toArray,List.set_cons_zero,List.set_cons_succ];refine hK _ _ ?_;clear hK K;refine wpAnyIn_ready (rs:=[10]) (by kernel_rfl) (by simp) ?_;refine AllReadyIn.cons rfl (fun K hK=>?_) ?_
            . go_simp;refine hK _ _ ?_;clear hK K;refine wpAnyIn_done (by kernel_rfl) ?_ _;exact LEAF.out ⟨#[],[]⟩
            exact AllReadyIn.nil
          exact AllReadyIn.nil
        exact AllReadyIn.nil
      exact AllReadyIn.nil
    refine AllReadyIn.cons rfl (fun K hK=>?_) ?_
    . go_simp;refine hK _ _ ?_;clear hK K;refine wpAnyIn_take (i:=7) (v:=?_) rfl rfl (by kernel_rfl) (by kernel_rfl) (by kernel_rfl) (fun _ _ _ h=>h) ⟨Or.inl ⟨by rfl,fun w=>by go_simp<;>with_reducible rfl⟩,fun _=>rfl⟩ ?_;refine wpAnyIn_ready (rs:=[0,8]) (by kernel_rfl) (by simp) ?_;refine AllReadyIn.cons rfl (fun K hK=>?_) ?_
      . go_simp;refine hK _ _ ?_;clear hK K;refine wpAnyIn_ready (rs:=[8]) (by kernel_rfl) (by simp) ?_;refine AllReadyIn.cons rfl (fun K hK=>?_) ?_
        . go_simp;refine hK _ _ ?_;clear hK K;refine wpAnyIn_ready (rs:=[9]) (by kernel_rfl) (by simp) ?_;refine AllReadyIn.cons rfl (fun K hK=>?_) ?_
          . rw[if_pos (by rfl)];refine BQ rfl hrun3 ?_;simp only[Act.put,List.setIfInBounds_toArray,List.set_cons_zero,List.set_cons_succ];refine hK _ _ ?_;clear hK K;refine wpAnyIn_ready (rs:=[10]) (by kernel_rfl) (by simp) ?_;refine AllReadyIn.cons rfl (fun K hK=>?_) ?_
            . go_simp;refine hK _ _ ?_;clear hK K;refine wpAnyIn_done (by kernel_rfl) ?_ _;exact LEAF.out ⟨#[],[]⟩
            exact AllReadyIn.nil
          exact AllReadyIn.nil
        exact AllReadyIn.nil
      refine AllReadyIn.cons rfl (fun K hK=>?_) ?_
      . go_simp;refine hK _ _ ?_;clear hK K;refine wpAnyIn_ready (rs:=[0]) (by kernel_rfl) (by simp) ?_;refine AllReadyIn.cons rfl (fun K hK=>?_) ?_
        . go_simp;refine hK _ _ ?_;clear hK K;refine wpAnyIn_ready (rs:=[9]) (by kernel_rfl) (by simp) ?_;refine AllReadyIn.cons rfl (fun K hK=>?_) ?_
          . rw[if_pos (by rfl)];refine BQ rfl hrun3 ?_;simp only[Act.put,List.setIfInBounds_toArray,List.set_cons_zero,List.set_cons_succ];refine hK _ _ ?_;clear hK K;refine wpAnyIn_ready (rs:=[10]) (by kernel_rfl) (by simp) ?_;refine AllReadyIn.cons rfl (fun K hK=>?_) ?_
            . go_simp;refine hK _ _ ?_;clear hK K;refine wpAnyIn_done (by kernel_rfl) ?_ _;exact LEAF.out ⟨#[],[]⟩
            exact AllReadyIn.nil
          exact AllReadyIn.nil
        exact AllReadyIn.nil
      exact AllReadyIn.nil
    exact AllReadyIn.nil
  exact AllReadyIn.nil
 case done =>
  rintro D ys W hD rfl ⟨⟨v,hv,hrow,_⟩,hB,hsz⟩ hK;rw[List.length_finRange] at hrow;have hcl:=hv.cell
  gi_wp2
  refine⟨by simp,.inl ⟨_,_,rfl,run_takeDeferred hK,?_⟩⟩;have ha:D>=w.heap.size:=by simp at hD; omega
  have ef:(List.finRange m).map (fun x=>Hk xs x.val)=C6 xs:=by
   rw[<- ER.out];apply List.ext_getElem
   . simp
   . intro i h1 h2;simp
  rw[ef] at hrow;have hul:(C6 xs).length=m:=by rw[<- ER.out]; simp
  obtain⟨A2,c2,e2,J2,_⟩:=Parts.of_own (ownsRow_putObj hrow (.deferred none) hK rfl);subst e2;refine⟨.tuple #[.slice A2 m c2,.bool true],?_,?_⟩
  . simp[results,Tryz.results22,Tryz.f22,go_sem]
  . exact⟨_,by rw[E.out]; rfl,fun ps e=>by rw[E.out] at e; cases e; exact⟨A2,c2,by rw[hul],by rw[hul]; exact J2⟩,hB.trans (belowK_b (w:=w) (Nat.le_refl _) W D _ _ ha hK rfl rfl)⟩
 case stop =>
  rintro D c pre W hD _ hx hK;exact hx.elim
end Go.Proofs.YtgbiagonfbnooaaGreatDoor
