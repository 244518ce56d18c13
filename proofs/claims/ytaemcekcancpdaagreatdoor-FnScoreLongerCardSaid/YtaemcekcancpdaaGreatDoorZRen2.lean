import Derived.Test.YtaemcekcancpdaaGreatDoorZRen1
import Derived.KernelRfl
import Derived.Calls
import Derived.Conc.TokenWalk
import Derived.Conc.SmallLaws
import Derived.Orders
set_option linter.all false
set_option maxRecDepth 100000
set_option maxHeartbeats 8000000
namespace Go.Proofs.YtaemcekcancpdaaGreatDoor.Ren
open Go.Conc Go.RowKit
open Go.ConcN (sumTo upd sumTo_upd upd_ne upd_same)
section
variable {P:Program} {c k cap N:Nat} {W:World} {RO:Nat->Prop} {Fin:(Nat->Prop)->Goroutine->World->Prop} {n:Nat}
variable {OM OP:Nat->Prop} {vsC vsP:List Value} {buf:Array Value} {closed:Bool} {gs:Array Goroutine} {w:World} {t:Trace} {q:Nat->Nat} {a b:Goroutine} {PB:World->Prop}
theorem J.partners0(h:J P c k cap N W RO OM OP vsC buf vsP closed gs w t q)(hb:gs[c]?=some b)(hbb:b.status≠.blocked)(send:Bool):partners (gs.setIfInBounds 0 ph) k send=[]:=by
 refine partners_nil fun j g hj=>?_;rcases getElem?_stand gs 0 j g hj with⟨_,rfl⟩ | ⟨hne,hj'⟩
 . exact offersAt_ph _ _
 . by_cases hjc:j=c
   . subst hjc;rw[hb] at hj';obtain rfl:=Option.some.inj hj';exact offersAt_of_not_blocked hbb _ _
   . exact h.noOffer hj' hne hjc send
theorem J.partners0_one(h:J P c k cap N W RO OM OP vsC buf vsP closed gs w t q){g:Goroutine}{v z:Value}(hb:gs[c]?=some (parked g #[scase k v z] .send)):partners (gs.setIfInBounds 0 ph) k true=[(c,0)]:=by
 have hc0:c≠0:=Nat.ne_of_gt h.c0;rw[partners_one (stand_get (i:=0) hc0 hb) fun j x hjc hx=>?_]
 . simp[offersAt_parked_send]
 . rcases getElem?_stand gs 0 j x hx with⟨_,rfl⟩ | ⟨hne,hj'⟩
   . exact offersAt_ph _ _
   . exact h.noOffer hj' hne hjc true
theorem J.partnersC(h:J P c k cap N W RO OM OP vsC buf vsP closed gs w t q)(h0:gs[0]?=some a)(haa:a.status≠.blocked)(send:Bool):partners (gs.setIfInBounds c ph) k send=[]:=by
 refine partners_nil fun j g hj=>?_;rcases getElem?_stand gs c j g hj with⟨_,rfl⟩ | ⟨hne,hj'⟩
 . exact offersAt_ph _ _
 . by_cases hj0:j=0
   . subst hj0;rw[h0] at hj';obtain rfl:=Option.some.inj hj';exact offersAt_of_not_blocked haa _ _
   . exact h.noOffer hj' hj0 hne send
theorem J.partnersC_one(h:J P c k cap N W RO OM OP vsC buf vsP closed gs w t q){g:Goroutine}{z:Value}(h0:gs[0]?=some (parked g #[rcase k z] (.recv true))):partners (gs.setIfInBounds c ph) k false=[(0,0)]:=by
 have hc0:0≠c:=Nat.ne_of_lt h.c0;rw[partners_one (stand_get (i:=c) hc0 h0) fun j x hj0 hx=>?_]
 . simp[offersAt_parked_recv]
 . rcases getElem?_stand gs c j x hx with⟨_,rfl⟩ | ⟨hne,hj'⟩
   . exact offersAt_ph _ _
   . exact h.noOffer hj' hj0 hne false
theorem J.leave(h:J P c k cap N W RO OM OP vsC buf vsP closed gs w t q)(x b':Goroutine):J P c k cap N W RO OM OP vsC buf vsP closed ((gs.map (woken P x b' w)).setIfInBounds c b') w t q:=by
 refine⟨h.c0,by rw[Bq]; exact h.clt,h.chan,h.total,h.ap,h.ml,h.pl,h.two,h.sh,fun i y hi0 hic hy=>?_,fun j hj=>?_,h.lo,h.nk,h.nm,h.np,h.nw⟩
 . obtain⟨z,hz,rfl⟩:=Dp _ (Ne.symm hic) hy;have hq:=h.rest i z hi0 hic hz;rw[woken_quitsD hq];exact hq
 . rw[Bq] at hj;exact h.above j hj
theorem Bd{i j:Nat}(hij:i≠j)(x:Goroutine):(gs.setIfInBounds i x)[j]?=gs[j]?:=Array.getElem?_setIfInBounds_ne hij
theorem get_set_same{i:Nat}(hi:i<gs.size)(x:Goroutine):(gs.setIfInBounds i x)[i]?=some x:=Array.getElem?_setIfInBounds_self_of_lt hi
theorem Js(hcap:0<cap)(hPB:∀ w w1,PB w->Kp RO OP w w1->PB w1)(H:Em P c k cap N W RO Fin n OP vsP closed b PB){sl:Option (Nat × Nat)}(h:St P c k cap N W RO n OP vsP closed b PB OM vsC buf gs w t q a)
 (hc:closed=false) (hbuf:buf=#[]) (hstop:∀ w1,Kp RO OM w w1->CStop P k RO Fin vsC OM a w1) (m:Machine) (hm:stepT P m=runT P (crowd gs w sl) 0):Goal P Fin n N W m t:=by
 subst hc hbuf;obtain⟨z,h1⟩:=(hstop w (Kp.refl w)).comm;obtain⟨s,r,hch⟩:=h.j.chan;have hbb:b.status≠.blocked:=by
  cases h.bst with
  | run h=>rw[h]; intro x; cases x
  | fin _ h=>cases h
  | park _ _ _ _ _ h=>simp at h; omega
 have hlt0:0<gs.size:=Nat.lt_of_le_of_lt (Nat.zero_le _) h.j.clt;have hrun:=crowd_waits (P:=P) (sl:=sl) (i:=0) h.main (show stepG P (0==0) a w=_ from h1) (fun cc hcc=>by
  obtain rfl:cc=rcase k z:=by simpa using hcc
  exact ways_recv_none hch (h.j.partners0 h.prod hbb true))
 have hops:MemOp.ofEvents 0 a.frame.fn a.frame.place #[]=#[]:=by simp[MemOp.ofEvents]
 rw[hops] at hrun;refine Goal.head (hm.trans hrun) ?_;rw[Array.append_empty];refine Jr (vsC:=vsC) (OM:=OM) hcap hPB H (sumTo (gs.setIfInBounds 0 (parked (core a) #[rcase k z] (.recv true))).size q) (buf:=#[]) ⟨?_,(by rw[Array.size_setIfInBounds]; exact h.size),get_set_same hlt0 _,(Bd (Nat.ne_of_lt h.j.c0) _).trans h.prod,h.bst,h.pb⟩ rfl rfl hstop (Nat.le_refl _);refine⟨h.j.c0,by rw[Array.size_setIfInBounds]; exact h.j.clt,h.j.chan,h.j.total,h.j.ap,h.j.ml,h.j.pl,h.j.two,h.j.sh,fun i y hi0 hic hy=>?_,fun j hj=>?_,h.j.lo,h.j.nk,h.j.nm,h.j.np,h.j.nw⟩
 . rw[Bd (Ne.symm hi0)] at hy;exact h.j.rest i y hi0 hic hy
 . rw[Array.size_setIfInBounds] at hj;exact h.j.above j hj
theorem EW(hcap:0<cap)(hPB:∀ w w1,PB w->Kp RO OP w w1->PB w1)(H:Em P c k cap N W RO Fin n OP vsP closed b PB)(hbb:b.status≠.blocked)(hvs:closed=true->vsP=[])(hgone:closed=true->∃ m,QuitsD P m 0 b) :
 ∀ vsC,P4 P c k cap N W RO Fin n OP vsP closed b PB vsC:=by
 intro vsC
 induction vsC with
 | nil =>
  intro OM buf gs w sl t q a h hstop m hm;have htot:=h.j.total;have hbuf:buf=#[]:=by
   have:buf.toList=[]:=(List.append_eq_nil_iff.1 htot.symm).1;simpa using this
  cases hc:closed with
  | false=>exact Js hcap hPB H h hc hbuf hstop m hm
  | true =>
   subst hc hbuf;obtain⟨_,z,h1,h2⟩:=hstop w (Kp.refl w);obtain⟨s,r,hch⟩:=h.j.chan;obtain⟨md,hq⟩:=hgone rfl;obtain⟨ms,hs⟩:=h.j.sh rfl;have hlt0:0<gs.size:=Nat.lt_of_le_of_lt (Nat.zero_le _) h.j.clt;have hrun:=crowd_recv_closed (P:=P) (sl:=sl) (i:=0) h.main (show stepG P (0==0) a w=_ from h1) hch (h.j.partners0 h.prod hbb true);have hops:MemOp.ofEvents 0 a.frame.fn a.frame.place #[]=#[]:=by simp[MemOp.ofEvents]
   rw[hops,Array.empty_append] at hrun;refine Goal.head (hm.trans hrun) (Goal.now ⟨_,_,w,sl,upd q c md,OM,rfl,(by rw[Array.size_setIfInBounds]; exact h.size),get_set_same hlt0 _,by rw[finishComm_recv]; exact h2 w (Kp.refl w),⟨fun i g hi hg=>?_,fun j hj=>?_⟩,h.j.two.joined hs h.j.klt _ _,h.j.lo⟩)
   all_goals
    have hdq:∀ j,Deaf (t++#[{ g:=0,fn:=(core a).frame.fn,pos:=(core a).frame.place,act:=.recvClosed k }]) j=Deaf t j:=fun j=>Deaf_quiet fun op hop d=>by
     obtain rfl:op=_:=by simpa using hop
     rfl
   . rw[Bd (Nat.ne_of_lt hi)] at hg;rw[hdq];by_cases hic:i=c
     . subst hic;rw[h.prod] at hg;obtain rfl:=Option.some.inj hg;rw[upd_same,h.j.two.hy];exact hq
     . rw[upd_ne q md hic];exact h.j.rest i g (Nat.ne_of_gt hi) hic hg
   . rw[Array.size_setIfInBounds] at hj;rw[hdq];exact h.j.above j hj
 | cons v vs ih =>
  intro OM buf gs w sl t q a h hstop m hm;have htot:=h.j.total;by_cases hbuf:buf=#[]
  . have hc:closed=false:=by
     cases hc:closed with
     | false=>rfl
     | true=>rw[hbuf,hvs hc] at htot; cases htot
    exact Js hcap hPB H h hc hbuf hstop m hm
  . obtain⟨_,⟨z,h1⟩,h2⟩:=hstop w (Kp.refl w);obtain⟨s,r,hch⟩:=h.j.chan;obtain⟨bl⟩:=buf;cases bl with
    | nil=>exact absurd rfl hbuf
    | cons x xs =>
     simp only[List.cons_append,List.cons.injEq] at htot;obtain⟨rfl,htot⟩:=htot;have hlt0:0<gs.size:=Nat.lt_of_le_of_lt (Nat.zero_le _) h.j.clt;have hrun:=crowd_recv_buf (P:=P) (sl:=sl) (i:=0) h.main (show stepG P (0==0) a w=_ from h1) hch (by simp) (h.j.partners0 h.prod hbb true);have hops:MemOp.ofEvents 0 a.frame.fn a.frame.place #[]=#[]:=by simp[MemOp.ofEvents]
     rw[hops,Array.empty_append,finishComm_recv] at hrun;have hkp:∀{O:Nat->Prop},¬ O k->Kp RO O w (w.setChan k cap ((⟨v::xs⟩:Array Value).extract 1 (⟨v::xs⟩:Array Value).size) closed s (r+1) false):=fun ho=>Kp.chan hch ho h.j.ap.kr _ _ _ _ _ _;obtain⟨o1,o2,o3⟩:=Lo (k:=k) (acts:=[.recv k r cap,.recvDone k r]) (g:=0) (fn:=(core a).frame.fn) (pos:=(core a).frame.place) (fun x hx=>by
      simp only[List.mem_cons,List.not_mem_nil,or_false] at hx;rcases hx with rfl | rfl
      . exact .inr (.inr (.inl ⟨_,_,rfl⟩))
      . exact .inr (.inr (.inr ⟨_,rfl⟩))) h.j.klt (u:=#[{ g:=0,fn:=(core a).frame.fn,pos:=(core a).frame.place,act:=.recv k r cap },{ g:=0,fn:=(core a).frame.fn,pos:=(core a).frame.place,act:=.recvDone k r }]) (fun op hop=>by
      simp only[List.mem_toArray,List.mem_cons,List.not_mem_nil,or_false] at hop;rcases hop with rfl | rfl<;>simp)
     refine Goal.head (hm.trans hrun) ?_;refine Nk hPB H ih (h2.rely (hkp h.j.ap.kx)) _ (Kp.refl _) ⟨h.j.comm (vsC':=vs) (vsP':=vsP) (by rw[Array.size_setIfInBounds]) (fun i hi0 _=>Bd (Ne.symm hi0) _) (by simpa using htot) o1 o2 o3,(by rw[Array.size_setIfInBounds]; exact h.size),get_set_same hlt0 _,(Bd (Nat.ne_of_lt h.j.c0) _).trans h.prod,?_,hPB _ _ h.pb (hkp h.j.ap.ky)⟩ (Nat.le_refl _);cases h.bst with
     | run h=>exact .run h
     | fin h hc=>exact .fin h hc
     | park g v z e hc hf=>subst e; exact absurd rfl hbb
def Ov(P:Program)(c k cap N:Nat)(W:World)(RO:Nat->Prop)(Fin:(Nat->Prop)->Goroutine->World->Prop)(n:Nat)(OP:Nat->Prop)(vsP:List Value)(closed:Bool)(b:Goroutine)(PB:World->Prop):Prop :=
 ∀ ⦃OM:Nat->Prop⦄ ⦃vsC:List Value⦄ ⦃buf:Array Value⦄ ⦃gs:Array Goroutine⦄ ⦃w:World⦄ ⦃sl:Option (Nat × Nat)⦄ ⦃t:Trace⦄ ⦃q:Nat->Nat⦄ ⦃a:Goroutine⦄,St P c k cap N W RO n OP vsP closed b PB OM vsC buf gs w t q a ->
  MS P k RO Fin closed buf vsC OM a w->Goal P Fin n N W (crowd gs w sl) t
theorem Iz(hcap:0<cap)(hPB:∀ w w1,PB w->Kp RO OP w w1->PB w1)(H:Em P c k cap N W RO Fin n OP vsP closed b PB)(HM:∀ vsC,P4 P c k cap N W RO Fin n OP vsP closed b PB vsC):Ov P c k cap N W RO Fin n OP vsP closed b PB:=by
 intro OM vsC buf gs w sl t q a h hms;rcases hms with co | ⟨g,z,rfl,hc,hbuf,hg⟩
 . exact Nk hPB H (HM vsC) co _ (Kp.refl w) h (Nat.le_refl _)
 . exact Jr hcap hPB H _ h hc hbuf hg (Nat.le_refl _)
theorem UY(hcap:0<cap):∀(m:Nat) {OP:Nat->Prop} {b:Goroutine},QuitsIn P m b->Ov P c k cap N W RO Fin n OP [] true b fun _=>True:=by
 have fin:∀{m:Nat} {OP:Nat->Prop} {b:Goroutine},QuitsIn P m b->b.status=.finished->Ov P c k cap N W RO Fin n OP [] true b fun _=>True:=by
  intro m OP b hq hb;have H:Em P c k cap N W RO Fin n OP [] true b fun _=>True:=fun _ _ hr=>by rw[hb] at hr; cases hr
  exact Iz hcap (fun _ _ _ _=>trivial) H (EW hcap (fun _ _ _ _=>trivial) H (by rw[hb]; intro x; cases x) (fun _=>rfl) fun _=>⟨m,QuitsD.of_quitsIn hq⟩)
 intro m
 induction m with
 | zero=>intro OP b hq; exact fin (m:=0) hq hq
 | succ m ih =>
  intro OP b hq;rcases hq with hb | ⟨hb,g',hst,hq'⟩
  . exact fin (m:=m+1) (.inl hb) hb
  . have H:Em P c k cap N W RO Fin n OP [] true b fun _=>True:=by
     intro OM vsC buf gs w sl t q a h hms hr m' hm;have hc0:(c==0)=false:=by simpa using Nat.ne_of_gt h.j.c0
     have hrun:=runT_crowd_go (P:=P) (w:=w) (sl:=sl) (i:=c) h.prod (by rw[hc0]; exact hst w);have hops:MemOp.ofEvents c b.frame.fn b.frame.place #[]=#[]:=by simp[MemOp.ofEvents]
     rw[hops] at hrun;refine Goal.head (hm.trans hrun) ?_;rw[Array.append_empty];have har:a.status=.running:=by
      rcases hms with co | ⟨g,z,rfl,hc,_⟩
      . exact co.running fun _ _ _ h=>h.running
      . cases hc
     refine ih hq' ⟨h.j.leave b g',(Bq _ _ _).trans h.size,CO _ (Nat.ne_of_gt h.j.c0) h.main (woken_run har),?_,?_,trivial⟩ hms
     . rw[Array.getElem?_setIfInBounds_self_of_lt (by rw[Array.size_map]; exact h.j.clt)]
     . cases m with
       | zero=>exact .fin hq' rfl
       | succ m =>
        rcases hq' with x | ⟨x,_⟩
        . exact .fin x rfl
        . exact .run x
    exact Iz hcap (fun _ _ _ _=>trivial) H (EW hcap (fun _ _ _ _=>trivial) H (by rw[hb]; intro x; cases x) (fun _=>rfl) fun _=>⟨m+1,QuitsD.of_quitsIn (.inr ⟨hb,g',hst,hq'⟩)⟩)
theorem RP(hcap:0<cap){v:Value}{vs:List Value}(ih:∀{OP:Nat->Prop} {b:Goroutine} {w0:World},Co P false RO (PStop P k RO vs) OP b w0->Ov P c k cap N W RO Fin n OP vs false b (Kp RO OP w0))
 {OP:Nat->Prop} {b:Goroutine} {w0:World} (z:Value) (hco:Co P false RO (PStop P k RO vs) OP (Conc.served (core b) undef) w0):Ov P c k cap N W RO Fin n OP (v::vs) false (parked (core b) #[scase k v z] .send) (Kp RO OP w0):=by
 have hPB:∀ w w1,Kp RO OP w0 w->Kp RO OP w w1->Kp RO OP w0 w1:=fun _ _ h k=>h.trans k;have H:Em P c k cap N W RO Fin n OP (v::vs) false (parked (core b) #[scase k v z] .send) (Kp RO OP w0):=fun _ _ hr=>by cases hr
 refine Iz hcap hPB H fun vsC=>?_;intro OM buf gs w sl t q a h hstop m hm;have hfull:cap<=buf.size:=by
  cases h.bst with
  | run h=>cases h
  | fin h _=>cases h
  | park g v z e hc hf=>exact hf
 have htot:=h.j.total;obtain⟨s,r,hch⟩:=h.j.chan;have hc0:c≠0:=Nat.ne_of_gt h.j.c0;have hlt0:0<gs.size:=Nat.lt_of_le_of_lt (Nat.zero_le _) h.j.clt;have hops:MemOp.ofEvents 0 a.frame.fn a.frame.place #[]=#[]:=by simp[MemOp.ofEvents]
 obtain⟨bl⟩:=buf;cases bl with
 | nil=>simp at hfull; omega
 | cons x xs =>
  cases vsC with
  | nil=>cases htot
  | cons y ys =>
   simp only[List.cons_append,List.cons.injEq] at htot;obtain⟨rfl,htot⟩:=htot;obtain⟨_,⟨zz,h1⟩,h2⟩:=hstop w (Kp.refl w);have hrun:=GJ (P:=P) (sl:=sl) (i:=0) h.main (show stepG P (0==0) a w=_ from h1) hch (by simp) hc0 h.prod (h.j.partners0_one h.prod);rw[hops,Array.empty_append,finishComm_send,finishComm_recv] at hrun;have hkp:∀{O:Nat->Prop} (bf:Array Value) (s' r':Nat),¬ O k->Kp RO O w (w.setChan k cap bf false s' r' false):=fun bf s' r' ho=>Kp.chan hch ho h.j.ap.kr _ _ _ _ _ _
   refine Goal.head (hm.trans hrun) (ih (hco.rely (h.pb.trans (hkp _ _ _ h.j.ap.ky))) ⟨h.j.comm (vsC':=ys) (vsP':=vs) (by rw[Array.size_setIfInBounds,Array.size_setIfInBounds]) (fun i hi0 hic=>(Bd (Ne.symm hi0) _).trans (Bd (Ne.symm hic) _)) (by rw[htot]; simp) ?_ ?_ ?_,(by rw[Array.size_setIfInBounds,Array.size_setIfInBounds]; exact h.size),get_set_same (by rw[Array.size_setIfInBounds]; exact hlt0) _,(Bd hc0.symm _).trans (get_set_same h.j.clt _),.run rfl,Kp.refl _⟩ (.inl (h2.rely (hkp _ _ _ h.j.ap.kx))))
   . intro op hop;simp only[List.mem_toArray,List.mem_cons,List.not_mem_nil,or_false] at hop;rcases hop with rfl | rfl | rfl | rfl<;>rfl
   . intro g op hop d;simp only[List.mem_toArray,List.mem_cons,List.not_mem_nil,or_false] at hop;rcases hop with rfl | rfl | rfl | rfl<;>rfl
   . intro op hop;simp only[List.mem_toArray,List.mem_cons,List.not_mem_nil,or_false] at hop;rcases hop with rfl | rfl | rfl | rfl<;>exact h.j.klt
theorem UZ(hcap:0<cap):∀(vsP:List Value) {OP:Nat->Prop} {b:Goroutine} {w0:World},Co P false RO (PStop P k RO vsP) OP b w0->Ov P c k cap N W RO Fin n OP vsP false b (Kp RO OP w0):=by
 intro vsP
 induction vsP with
 | nil =>
  intro OP b w0 hco
  induction hco with
  | @stop OP b w0 hstop =>
   have hb:=(hstop w0 (Kp.refl _)).running;have hPB:∀ w w1,Kp RO OP w0 w->Kp RO OP w w1->Kp RO OP w0 w1:=fun _ _ h k=>h.trans k;have H:Em P c k cap N W RO Fin n OP [] false b (Kp RO OP w0):=by
    intro OM vsC buf gs w sl t q a h hms hr m' hm;obtain⟨_,hmw,m,g',hq,hst⟩:=hstop w h.pb;obtain⟨s,r,hch⟩:=h.j.chan;have hc0:(c==0)=false:=by simpa using Nat.ne_of_gt h.j.c0
    have hrun:=runT_crowd_go (P:=P) (w:=w) (sl:=sl) (i:=c) h.prod (by rw[hc0]; exact hst w cap buf s r false hch);refine Goal.head (hm.trans hrun) ?_;have hq0:=QuitsD.of_quitsIn hq;have hwk:∀ x,woken P b g' (w.setChan k cap buf true s r false) x=x.again (w.setChan k cap buf true s r false):=by
     intro x;unfold woken;rw[if_pos];rw[hmw];rcases hq0.status with e | e<;>rw[e]<;>rfl
    have hnew:(w.setChan k cap buf true s r false).heap[k]?=some (.chan cap buf true s r false):=EC h.j.klt _ _ _ _ _ _;have hkp:Kp RO OM w (w.setChan k cap buf true s r false):=Kp.chan hch h.j.ap.kx h.j.ap.kr _ _ _ _ _ _;have hlt0:0<gs.size:=Nat.lt_of_le_of_lt (Nat.zero_le _) h.j.clt;have hbst:BSt k cap true buf g':=by
     rcases hq0.status with e | e
     . exact .run e
     . exact .fin e rfl
    have hprod:((gs.map (woken P b g' (w.setChan k cap buf true s r false))).setIfInBounds c g')[c]?=some g':=Array.getElem?_setIfInBounds_self_of_lt (by rw[Array.size_map]; exact h.j.clt);have hmain:((gs.map (woken P b g' (w.setChan k cap buf true s r false))).setIfInBounds c g')[0]?=some (a.again (w.setChan k cap buf true s r false)):=by
     rw[Array.getElem?_setIfInBounds_ne (Nat.ne_of_gt h.j.c0),Array.getElem?_map,h.main];simp[hwk]
    refine UY hcap m hq ⟨h.j.close (r:=r) (s:=s) _ _ b g',(Bq _ _ _).trans h.size,hmain,hprod,hbst,trivial⟩ ?_;rcases hms with co | ⟨g,z,rfl,_,_,hg⟩
    . have e:a.again (w.setChan k cap buf true s r false)=a:=again_running _ (.inl (co.running fun _ _ _ h=>h.running));rw[e];exact .inl (co.rely hkp)
    . rw[again_recv_closed hnew];exact .inl (.stop fun w1 hk1=>CStop.again z (hg w1 (hkp.trans hk1)))
   exact Iz hcap hPB H (EW hcap hPB H (by rw[hb]; intro x; cases x) (fun x=>by cases x) fun x=>by cases x)
  | @step OP b w0 hr ng nw nO es hs hk' ihs =>
   have hPB:∀ w w1,Kp RO OP w0 w->Kp RO OP w w1->Kp RO OP w0 w1:=fun _ _ h k=>h.trans k;have H:Em P c k cap N W RO Fin n OP [] false b (Kp RO OP w0):=by
    intro OM vsC buf gs w sl t q a h hms hr' m' hm;obtain⟨e1,gu⟩:=hs w h.pb;have hc0:(c==0)=false:=by simpa using Nat.ne_of_gt h.j.c0
    have hrun:=runT_crowd_go (P:=P) (w:=w) (sl:=sl) (i:=c) h.prod (by rw[hc0]; exact e1);have hj:=h.j.prod rfl h.main (b':=ng w) gu b.frame.fn b.frame.place b;obtain⟨s,r,hch⟩:=hj.chan;have hkp:Kp RO OM w (nw w):=gu.kp (fun j hj=>⟨h.j.pl j (.inr hj),fun x=>h.j.ap.yr j x hj⟩) (fun j hj=>⟨h.j.ml j (.inl hj),fun x=>h.j.ap.xy j hj x⟩);have hrun2:(ng w).status=.running:=(hk' w h.pb).running fun _ _ _ h=>h.running
    exact Goal.head (hm.trans hrun) (ihs w h.pb ⟨hj,(Bq _ _ _).trans h.size,CO _ (Nat.ne_of_gt h.j.c0) h.main (hms.woken hch _ _),Array.getElem?_setIfInBounds_self_of_lt (by rw[Array.size_map]; exact h.j.clt),.run hrun2,Kp.refl _⟩ (hms.rely hkp))
   exact Iz hcap hPB H (EW hcap hPB H (by rw[hr]; intro x; cases x) (fun x=>by cases x) fun x=>by cases x)
 | cons v vs ih =>
  intro OP b w0 hco
  induction hco with
  | @stop OP b w0 hstop =>
   have hb:=(hstop w0 (Kp.refl _)).running;have hPB:∀ w w1,Kp RO OP w0 w->Kp RO OP w w1->Kp RO OP w0 w1:=fun _ _ h k=>h.trans k;have H:Em P c k cap N W RO Fin n OP (v::vs) false b (Kp RO OP w0):=by
    intro OM vsC buf gs w sl t q a h hms hr m' hm;obtain⟨_,⟨z,h1⟩,hco'⟩:=hstop w h.pb;obtain⟨s,r,hch⟩:=h.j.chan;have hc0:(c==0)=false:=by simpa using Nat.ne_of_gt h.j.c0
    have hc0':c≠0:=Nat.ne_of_gt h.j.c0;have hlt0:0<gs.size:=Nat.lt_of_le_of_lt (Nat.zero_le _) h.j.clt;have hops:MemOp.ofEvents c b.frame.fn b.frame.place #[]=#[]:=by simp[MemOp.ofEvents]
    have htot:=h.j.total;have hkpM:∀(bf:Array Value) (s' r':Nat),Kp RO OM w (w.setChan k cap bf false s' r' false):=fun bf s' r'=>Kp.chan hch h.j.ap.kx h.j.ap.kr _ _ _ _ _ _;have hkpP:∀(bf:Array Value) (s' r':Nat),Kp RO OP w (w.setChan k cap bf false s' r' false):=fun bf s' r'=>Kp.chan hch h.j.ap.ky h.j.ap.kr _ _ _ _ _ _;rcases hms with co | ⟨g,z',rfl,_,rfl,hg⟩
    . have har:a.status=.running:=co.running fun _ _ _ h=>h.running;have hpn:=h.j.partnersC h.main (by rw[har]; intro x; cases x) false;by_cases hroom:buf.size<cap
      . have hrun:=crowd_send_room (P:=P) (sl:=sl) (i:=c) h.prod (show stepG P (c==0) b w=_ by rw[hc0]; exact h1) hch hroom hpn;rw[hops,Array.empty_append,finishComm_send] at hrun;obtain⟨o1,o2,o3⟩:=Lo (k:=k) (acts:=[.send k s,.sendDone k s]) (g:=c) (fn:=(core b).frame.fn) (pos:=(core b).frame.place) (fun x hx=>by
         simp only[List.mem_cons,List.not_mem_nil,or_false] at hx;rcases hx with rfl | rfl
         . exact .inl ⟨_,rfl⟩
         . exact .inr (.inl ⟨_,rfl⟩)) h.j.klt (u:=#[{ g:=c,fn:=(core b).frame.fn,pos:=(core b).frame.place,act:=.send k s },{ g:=c,fn:=(core b).frame.fn,pos:=(core b).frame.place,act:=.sendDone k s }]) (fun op hop=>by
         simp only[List.mem_toArray,List.mem_cons,List.not_mem_nil,or_false] at hop;rcases hop with rfl | rfl<;>simp)
        exact Goal.head (hm.trans hrun) (ih (hco'.rely (hkpP _ _ _)) ⟨h.j.comm (by rw[Array.size_setIfInBounds]) (fun i _ hic=>Bd (Ne.symm hic) _) (by rw[htot]; simp) o1 o2 o3,(by rw[Array.size_setIfInBounds]; exact h.size),(Bd hc0' _).trans h.main,get_set_same h.j.clt _,.run rfl,Kp.refl _⟩ (.inl (co.rely (hkpM _ _ _))))
      ·
       have hrun:=crowd_waits (P:=P) (sl:=sl) (i:=c) h.prod (show stepG P (c==0) b w=_ by rw[hc0]; exact h1) (fun cc hcc=>by
        obtain rfl:cc=scase k v z:=by simpa using hcc
        exact ways_send_none hch (Nat.le_of_not_lt hroom) hpn)
       rw[hops] at hrun;refine Goal.head (hm.trans hrun) ?_;rw[Array.append_empty];have hjj:J P c k cap N W RO OM OP vsC buf (v::vs) false (gs.setIfInBounds c (parked (core b) #[scase k v z] .send)) w t q:=by
        refine⟨h.j.c0,by rw[Array.size_setIfInBounds]; exact h.j.clt,h.j.chan,h.j.total,h.j.ap,h.j.ml,h.j.pl,h.j.two,h.j.sh,fun i y hi0 hic hy=>?_,fun j hj=>?_,h.j.lo,h.j.nk,h.j.nm,h.j.np,h.j.nw⟩
        . rw[Bd (Ne.symm hic)] at hy;exact h.j.rest i y hi0 hic hy
        . rw[Array.size_setIfInBounds] at hj;exact h.j.above j hj
       exact RP hcap ih z (hco'.rely (Kp.refl _)) ⟨hjj,(by rw[Array.size_setIfInBounds]; exact h.size),(Bd hc0' _).trans h.main,get_set_same h.j.clt _,.park b v z rfl rfl (Nat.le_of_not_lt hroom),Kp.refl _⟩ (.inl co)
    ·
     have hrun:=crowd_send_meets (P:=P) (sl:=sl) (i:=c) h.prod (show stepG P (c==0) b w=_ by rw[hc0]; exact h1) hch (Ne.symm hc0') h.main (h.j.partnersC_one h.main);rw[hops,Array.empty_append,finishComm_send,finishComm_recv] at hrun;simp only[List.nil_append] at htot;subst htot;obtain⟨_,⟨zz,_⟩,h2⟩:=hg w (Kp.refl w)
     refine Goal.head (hm.trans hrun) (ih (hco'.rely (hkpP _ _ _)) ⟨h.j.comm (vsC':=vs) (vsP':=vs) (by rw[Array.size_setIfInBounds,Array.size_setIfInBounds]) (fun i hi0 hic=>(Bd (Ne.symm hic) _).trans (Bd (Ne.symm hi0) _)) (by simp) ?_ ?_ ?_,(by rw[Array.size_setIfInBounds,Array.size_setIfInBounds]; exact h.size),(Bd hc0' _).trans (get_set_same hlt0 _),get_set_same (by rw[Array.size_setIfInBounds]; exact h.j.clt) _,.run rfl,Kp.refl _⟩ (.inl (h2.rely (hkpM _ _ _))))
     . intro op hop;simp only[List.mem_toArray,List.mem_cons,List.not_mem_nil,or_false] at hop;rcases hop with rfl | rfl | rfl | rfl<;>rfl
     . intro g op hop d;simp only[List.mem_toArray,List.mem_cons,List.not_mem_nil,or_false] at hop;rcases hop with rfl | rfl | rfl | rfl<;>rfl
     . intro op hop;simp only[List.mem_toArray,List.mem_cons,List.not_mem_nil,or_false] at hop;rcases hop with rfl | rfl | rfl | rfl<;>exact h.j.klt
   exact Iz hcap hPB H (EW hcap hPB H (by rw[hb]; intro x; cases x) (fun x=>by cases x) fun x=>by cases x)
  | @step OP b w0 hr ng nw nO es hs hk' ihs =>
   have hPB:∀ w w1,Kp RO OP w0 w->Kp RO OP w w1->Kp RO OP w0 w1:=fun _ _ h k=>h.trans k;have H:Em P c k cap N W RO Fin n OP (v::vs) false b (Kp RO OP w0):=by
    intro OM vsC buf gs w sl t q a h hms hr' m' hm;obtain⟨e1,gu⟩:=hs w h.pb;have hc0:(c==0)=false:=by simpa using Nat.ne_of_gt h.j.c0
    have hrun:=runT_crowd_go (P:=P) (w:=w) (sl:=sl) (i:=c) h.prod (by rw[hc0]; exact e1);have hj:=h.j.prod rfl h.main (b':=ng w) gu b.frame.fn b.frame.place b;obtain⟨s,r,hch⟩:=hj.chan;have hkp:Kp RO OM w (nw w):=gu.kp (fun j hj=>⟨h.j.pl j (.inr hj),fun x=>h.j.ap.yr j x hj⟩) (fun j hj=>⟨h.j.ml j (.inl hj),fun x=>h.j.ap.xy j hj x⟩);have hrun2:(ng w).status=.running:=(hk' w h.pb).running fun _ _ _ h=>h.running
    exact Goal.head (hm.trans hrun) (ihs w h.pb ⟨hj,(Bq _ _ _).trans h.size,CO _ (Nat.ne_of_gt h.j.c0) h.main (hms.woken hch _ _),Array.getElem?_setIfInBounds_self_of_lt (by rw[Array.size_map]; exact h.j.clt),.run hrun2,Kp.refl _⟩ (hms.rely hkp))
   exact Iz hcap hPB H (EW hcap hPB H (by rw[hr]; intro x; cases x) (fun x=>by cases x) fun x=>by cases x)
end
open Go.Conc Go.RowKit
open Go.ConcN (sumTo upd sumTo_upd upd_ne upd_same)
def Road(P:Program)(K:Goroutine->World->Prop)(m:Machine)(t:Trace):Prop :=
 ∃ M m' t',runNT P M m t=(.next m',t')/\∃ gs a w sl q,m'=crowd gs w sl/\gs[0]?=some a/\K a w/\Leavers P t' gs q/\Past (fun _=>False) w.heap.size t'
def Way(P:Program)(K:Goroutine->World->Prop)(a:Goroutine)(w:World):Prop :=
 ∀ ⦃gs:Array Goroutine⦄ ⦃sl:Option (Nat × Nat)⦄ ⦃t:Trace⦄ ⦃q:Nat->Nat⦄,gs[0]?=some a->Leavers P t gs q->Past (fun _=>False) w.heap.size t->Road P K (crowd gs w sl) t
section
variable {P:Program} {K K':Goroutine->World->Prop} {a:Goroutine} {w:World}
theorem Road.head{m m1:Machine}{t:Trace}{ops:Array MemOp}(hs:stepT P m=(.next m1,ops))(h:Road P K m1 (t++ops)):Road P K m t:=by
 obtain⟨M,m',t',e,hd⟩:=h;exact⟨M+1,m',t',by simp only[runNT,hs]; exact e,hd⟩
theorem Road.then{m:Machine}{t:Trace}(h:Road P K m t)(k:∀ a w,K a w->Way P K' a w):Road P K' m t:=by
 obtain⟨M,m',t',e,gs,a,w,sl,q,rfl,h0,hK,hL,hP⟩:=h;obtain⟨M2,m2,t2,e2,hd⟩:=k a w hK h0 hL hP (sl:=sl);exact⟨M+M2,m2,t2,runNT_then e e2,hd⟩
theorem Way.now(h:K a w):Way P K a w:=fun gs sl t q h0 hL hP=>⟨0,_,_,rfl,gs,a,w,sl,q,rfl,h0,h,hL,hP⟩
theorem Way.then(h:Way P K a w)(k:∀ a w,K a w->Way P K' a w):Way P K' a w:=fun _ _ _ _ h0 hL hP=>(h h0 hL hP).then k
theorem Way.mono(h:Way P K a w)(k:∀ a w,K a w->K' a w):Way P K' a w:=h.then fun a w x=>.now (k a w x)
theorem DC{gs:Array Goroutine}{sl:Option (Nat × Nat)}{t:Trace}{q:Nat->Nat}{B:Nat}(hr:a.status=.running)(h0:gs[0]?=some a)(hL:Leavers P t gs q)(hP:Past (fun _=>False) B t) :
 ∃ d sl',stepT P (crowd gs w sl)=runT P (crowd gs (w.at d) sl') 0 \/
  ∃ gs' ops q',stepT P (crowd gs w sl)=(.next (crowd gs' (w.at d) sl'),ops)/\gs'[0]?=some a/\Leavers P (t++ops) gs' q'/\Past (fun _=>False) B (t++ops)/\sumTo gs'.size q'<sumTo gs.size q:=by
 have haw:∀ g∈gs,awake g:=by
  intro g hg;obtain⟨i,hi,rfl⟩:=Array.mem_iff_getElem.1 hg;rcases Nat.eq_zero_or_pos i with rfl | hpos
  . have:gs[0]=a:=by simpa[Array.getElem?_eq_getElem hi] using h0
    rw[this]; exact awake_of (.inl hr)
  . exact awake_of ((hL.old i _ hpos (Array.getElem?_eq_getElem hi)).status.elim .inl fun x=>.inr (.inr x))
 obtain⟨i,g,d,sl',hi,hg,hst⟩:=crowd_pick (P:=P) (w:=w) (sl:=sl) haw ⟨0,a,h0,hr⟩;refine⟨d,sl',?_⟩;rcases Nat.eq_zero_or_pos i with rfl | hpos
 . exact .inl hst
 have hq:=hL.old i g hpos hi;have hi0:(i==0)=false:=by simpa using Nat.ne_of_gt hpos
 have hlt:i<gs.size:=(Array.getElem?_eq_some_iff.1 hi).1;cases hqi:q i with
 | zero=>rw[hqi] at hq; rw[hq.1] at hg; cases hg
 | succ k =>
  rw[hqi] at hq;rcases hq with⟨hf,_⟩ | ⟨_,g',es,hm,hstp,hq'⟩
  . rw[hf] at hg; cases hg
  have hrunT:=runT_crowd_go (P:=P) (sl:=sl') (i:=i) hi (by rw[hi0]; exact hstp (w.at d));refine .inr ⟨_,_,upd q i k,hst.trans hrunT,CO _ (Nat.ne_of_gt hpos) h0 (woken_run hr),⟨fun j x hj hx=>?_,fun j hj=>?_⟩,hP.mute (Nat.ne_of_gt hpos) hm,?_⟩
  . by_cases hji:i=j
    . subst hji;rw[Array.getElem?_setIfInBounds_self_of_lt (by rw[Array.size_map]; exact hlt)] at hx;obtain rfl:=Option.some.inj hx;rw[upd_same,Deaf_own];exact hq'
    . obtain⟨y,hy,rfl⟩:=Dp _ hji hx;have hqj:=hL.old j y hj hy;rw[woken_quitsD hqj,upd_ne q k (Ne.symm hji),Deaf_other t hji _ Do];exact hqj
  . rw[Bq] at hj;rw[Deaf_other t (g':=i) (by omega) _ Do];exact hL.above j hj
  . rw[Bq];have:sumTo gs.size (upd q i k)+(k+1)=sumTo gs.size q+k:=by
     have:=sumTo_upd q k id hlt;simpa[hqi] using this
    omega
theorem Lp{gs:Array Goroutine}{sl:Option (Nat × Nat)}{t:Trace}{q:Nat->Nat}{B B':Nat}{a':Goroutine}{w':World}{es:Array Event}(h0:gs[0]?=some a)(hL:Leavers P t gs q)(hP:Past (fun _=>False) B t)(hB:B<=B')
 (hs:stepG P true a w=.go a' w' es) (he:∀ e∈es,EvL (fun _=>False) B' e) :
 ∃ gs' ops,runT P (crowd gs w sl) 0=(.next (crowd gs' w' sl),ops)/\gs'[0]?=some a'/\Leavers P (t++ops) gs' q/\Past (fun _=>False) B' (t++ops):=by
 have hrunT:=runT_crowd_go (P:=P) (sl:=sl) (i:=0) h0 (show stepG P (0==0) a w=_ from hs);have hlt:0<gs.size:=(Array.getElem?_eq_some_iff.1 h0).1;refine⟨_,_,hrunT,Array.getElem?_setIfInBounds_self_of_lt (by rw[Array.size_map]; exact hlt),⟨fun j x hj hx=>?_,fun j hj=>?_⟩,(hP.mono hB).own he⟩
 . obtain⟨y,hy,rfl⟩:=Dp _ (Nat.ne_of_lt hj) hx;have hq:=hL.old j y hj hy;rw[woken_quitsD hq,Deaf_other t (Nat.ne_of_lt hj) _ Do];exact hq
 . rw[Bq] at hj;rw[Deaf_other t (g':=0) (by omega) _ Do];exact hL.above j hj
theorem Way.step(hr:a.status=.running)(h:∀ d,∃ a' w' es,stepG P true a (w.at d)=.go a' w' es/\(∀ e∈es,EvL (fun _=>False) w'.heap.size e)/\w.heap.size<=w'.heap.size/\Way P K a' w'):Way P K a w:=by
 have main:∀(M:Nat) {gs:Array Goroutine} {sl:Option (Nat × Nat)} {t:Trace} {q:Nat->Nat} {d0:Nat},sumTo gs.size q<=M->gs[0]?=some a->Leavers P t gs q->Past (fun _=>False) w.heap.size t->Road P K (crowd gs (w.at d0) sl) t:=by
  intro M
  induction M with
  | zero =>
   intro gs sl t q d0 hM h0 hL hP;obtain⟨d,sl',h1 | ⟨_,_,_,_,_,_,_,e⟩⟩:=DC (w:=w.at d0) (sl:=sl) hr h0 hL hP
   . obtain⟨a',w',es,e1,e2,e3,e4⟩:=h d;obtain⟨gs',ops,f1,f2,f3,f4⟩:=Lp (sl:=sl') h0 hL hP e3 e1 e2;exact Road.head (h1.trans f1) (e4 f2 f3 f4)
   . omega
  | succ M ih =>
   intro gs sl t q d0 hM h0 hL hP;obtain⟨d,sl',h1 | ⟨gs',ops,q',g1,g2,g3,g4,e⟩⟩:=DC (w:=w.at d0) (sl:=sl) hr h0 hL hP
   . obtain⟨a',w',es,e1,e2,e3,e4⟩:=h d;obtain⟨gs',ops,f1,f2,f3,f4⟩:=Lp (sl:=sl') h0 hL hP e3 e1 e2;exact Road.head (h1.trans f1) (e4 f2 f3 f4)
   . exact Road.head g1 (ih (d0:=d) (by omega) g2 g3 g4)
 intro gs sl t q h0 hL hP;exact main _ (d0:=w.drawn) (Nat.le_refl _) h0 hL hP
end
section
variable {X:Ctx} {gl:Nat->Prop} {K:Goroutine->World->Prop}
end
open Go.Conc Go.RowKit
open Go.ConcN (sumTo upd sumTo_upd upd_ne upd_same)
theorem Two.forked{c k B:Nat}{RO Ox Oy:Nat->Prop}{t:Trace}(h:Past (fun _=>False) B t)(hc0:Deaf t c=0)(fh:FuncId)(ps:String)(fc:FuncId) :
 Two 0 c k RO Ox Oy B (t++#[{ g:=0,fn:=fh,pos:=ps,act:=.go c },{ g:=c,fn:=fc,pos:=ps,act:=.start }]):=by
 generalize hu:(#[{ g:=0,fn:=fh,pos:=ps,act:=.go c },{ g:=c,fn:=fc,pos:=ps,act:=.start }]:Trace)=u;have hn:∀ op∈u,op.act.touch?=none:=by
  intro op hop;subst hu;simp only[List.mem_toArray,List.mem_cons,List.not_mem_nil,or_false] at hop;rcases hop with rfl | rfl<;>rfl
 have hq:∀ g,∀ op∈u,∀ d,deafStep g d op=d:=by
  intro g op hop d;subst hu;simp only[List.mem_toArray,List.mem_cons,List.not_mem_nil,or_false] at hop;rcases hop with rfl | rfl<;>rfl
 have e0:(t++u)[t.size]?=some { g:=0,fn:=fh,pos:=ps,act:=.go c }:=by subst hu; simp
 have e1:(t++u)[t.size+1]?=some { g:=c,fn:=fc,pos:=ps,act:=.start }:=by subst hu; simp
 have edge:HappensBefore (t++u) t.size (t.size+1) :=
  Relation.TransGen.single (.inr ⟨.spawn (act?_of e0) (act?_of e1) (g?_of e1),⟨0,g?_of e0,by rw[deaf_old (Nat.le_refl _)]; exact h.hears⟩,⟨c,g?_of e1,by rw[deaf_quiet (hq c) 1 (by subst hu; simp)]; exact hc0⟩⟩)
 refine⟨fun said=>noRace_appendMute (h.clean said) hn,fun i a ha hm=>?_,fun i a ha hm=>?_,(Deaf_quiet (hq 0)).trans h.hears,(Deaf_quiet (hq c)).trans hc0,seen_app h.seen fun op hop=>?_⟩
 . obtain⟨z,hz,hza⟩:=touch_of ha;rcases getElem?_append_cases hz with⟨hi,hz'⟩ | ⟨_,hzu⟩
   . rcases h.known i a (by rw[touchAt_of hz']; exact hza) hm with hk | ⟨x,_⟩
     . exact .inl (hk.app u)
     . exact x.elim
   . rw[hn z hzu] at hza; cases hza
 . obtain⟨z,hz,hza⟩:=touch_of ha;rcases getElem?_append_cases hz with⟨hi,hz'⟩ | ⟨_,hzu⟩
   . rcases h.known i a (by rw[touchAt_of hz']; exact hza) hm with hk | ⟨x,_⟩
     . exact .inl ⟨t.size+1,_,e1,rfl,.inr ((hk.hb_new (Nat.le_refl _) e0 rfl).trans edge)⟩
     . exact x.elim
   . rw[hn z hzu] at hza; cases hza
 . subst hu;simp only[List.mem_toArray,List.mem_cons,List.not_mem_nil,or_false] at hop;rcases hop with rfl | rfl<;>trivial
section
variable {P:Program} {k cap N:Nat} {W:World} {RO OM OP:Nat->Prop} {Fin:(Nat->Prop)->Goroutine->World->Prop} {K:Goroutine->World->Prop}
theorem P5{N d:Nat}{W w:World}(h:Below N W w):Below N W (w.at d):=⟨h.os,h.tape,h.output,h.size,h.block⟩
theorem Way.fork(hcap:0<cap){a g' child:Goroutine}{w:World}{s r:Nat}{vs:List Value}(hr:a.status=.running)(hgo:∀ d,stepG P true a (w.at d)=.spawn g' child (w.at d) #[])
 (hch:w.heap[k]?=some (.chan cap #[] false s r false)) (hM:Co P true RO (CStop P k RO Fin vs) OM g' w) (hC:Co P false RO (PStop P k RO vs) OP child w) (ap:Apart k RO OM OP)
 (hm:∀ j,OM j\/RO j->j<w.heap.size) (hp:∀ j,OP j\/RO j->j<w.heap.size) (lo:Below N W w) (nk:N<=k) (nm:∀ j,OM j->N<=j) (np:∀ j,OP j->N<=j) (nw:N<=w.heap.size)
 (kk:∀ O a w',Fin O a w'->Below N W w'->Way P K a w'):Way P K a w:=by
 have now:∀{gs:Array Goroutine} {sl:Option (Nat × Nat)} {t:Trace} {q:Nat->Nat} {d:Nat},gs[0]?=some a->Leavers P t gs q->Past (fun _=>False) w.heap.size t->∀ m,stepT P m=runT P (crowd gs (w.at d) sl) 0->Road P K m t:=by
  intro gs sl t q d h0 hL hP m hst;have hrt:=runT_crowd_spawn (P:=P) (sl:=sl) (i:=0) h0 (show stepG P (0==0) a (w.at d)=_ from hgo d);have hpush:((MemOp.ofEvents 0 a.frame.fn a.frame.place #[]).push { g:=0,fn:=a.frame.fn,pos:=a.frame.place,act:=.go gs.size } |>.push { g:=gs.size,fn:=child.frame.fn,pos:=a.frame.place,act:=.start }) =
   #[{ g:=0,fn:=a.frame.fn,pos:=a.frame.place,act:=.go gs.size },{ g:=gs.size,fn:=child.frame.fn,pos:=a.frame.place,act:=.start }]:=by
   simp[MemOp.ofEvents]
  rw[hpush] at hrt;refine Road.head (hst.trans hrt) ?_;have hlt:0<gs.size:=(Array.getElem?_eq_some_iff.1 h0).1;have hq:∀ g,∀ op∈(#[{ g:=0,fn:=a.frame.fn,pos:=a.frame.place,act:=.go gs.size },{ g:=gs.size,fn:=child.frame.fn,pos:=a.frame.place,act:=.start }]:Trace),∀ d,deafStep g d op=d:=by
   intro g op hop d;simp only[List.mem_toArray,List.mem_cons,List.not_mem_nil,or_false] at hop;rcases hop with rfl | rfl<;>rfl
  have hj:J P gs.size k cap N W RO OM OP vs #[] vs false ((gs.setIfInBounds 0 g').push child) (w.at d) (t++#[{ g:=0,fn:=a.frame.fn,pos:=a.frame.place,act:=.go gs.size },{ g:=gs.size,fn:=child.frame.fn,pos:=a.frame.place,act:=.start }]) q:=by
   refine⟨hlt,by simp,⟨s,r,hch⟩,by simp,ap,hm,hp,Two.forked hP (hL.above _ (Nat.le_refl _)) _ _ _,fun e=>(by cases e),fun i x hi0 hic hx=>?_,fun j hj=>?_,P5 lo,nk,nm,np,nw⟩
   . rw[Deaf_quiet (hq i)];rw[Array.getElem?_push,if_neg (by simpa using hic),Bd (Ne.symm hi0)] at hx;exact hL.old i x (Nat.pos_of_ne_zero hi0) hx
   . rw[Deaf_quiet (hq j)];exact hL.above j (by simp at hj; omega)
  have hrun:child.status=.running:=hC.running fun _ _ _ h=>h.running;have goal:=UZ (P:=P) (c:=gs.size) (k:=k) (cap:=cap) (N:=N) (W:=W) (RO:=RO) (Fin:=Fin) (n:=gs.size+1) hcap vs hC (sl:=sl) ⟨hj,by simp,by rw[Array.getElem?_push,if_neg (by simp; omega)]; exact get_set_same hlt _,by rw[Array.getElem?_push,if_pos (by simp)],.run hrun,Kp.at_ w d⟩ (.inl (hM.rely (Kp.at_ w d)));obtain⟨M,m',t',e,gs',a',w',sl',q',O,rfl,_,h0',hF,hL',hP',hlo⟩:=goal;exact Road.then (K:=fun a w=>∃ O,Fin O a w/\Below N W w) ⟨M,_,t',e,gs',a',w',sl',q',rfl,h0',⟨O,hF,hlo⟩,hL',hP'⟩ fun a w ⟨O,h1,h2⟩=>kk O a w h1 h2
 have main:∀(M:Nat) {gs:Array Goroutine} {sl:Option (Nat × Nat)} {t:Trace} {q:Nat->Nat} {d0:Nat},sumTo gs.size q<=M->gs[0]?=some a->Leavers P t gs q->Past (fun _=>False) w.heap.size t->Road P K (crowd gs (w.at d0) sl) t:=by
  intro M
  induction M with
  | zero =>
   intro gs sl t q d0 hM h0 hL hP;obtain⟨d,sl',h1 | ⟨_,_,_,_,_,_,_,e⟩⟩:=DC (w:=w.at d0) (sl:=sl) hr h0 hL hP
   . exact now h0 hL hP _ h1
   . omega
  | succ M ih =>
   intro gs sl t q d0 hM h0 hL hP;obtain⟨d,sl',h1 | ⟨gs',ops,q',g1,g2,g3,g4,e⟩⟩:=DC (w:=w.at d0) (sl:=sl) hr h0 hL hP
   . exact now h0 hL hP _ h1
   . exact Road.head g1 (ih (d0:=d) (by omega) g2 g3 g4)
 intro gs sl t q h0 hL hP;exact main _ (d0:=w.drawn) (Nat.le_refl _) h0 hL hP
theorem ends_of_way{Post:Value->World->Prop}{a:Goroutine}{W:World}(h:Way P (fun a w=>∀ d,AtEnd P (fun _=>False) w.heap.size Post a (w.at d)) a W) :
 ∃ M last o w' t',runNT P (M+1) (solo a W) #[]=(.ended o w',t')/\runN P M (solo a W)=.next last/\step P last=.ended o w'/\Conc.Good P Post last o w' t':=by
 rw[solo_eq_crowd];obtain⟨M,m',t',e,gs,a',w,sl,q,rfl,h0,hK,hL,hP⟩:=h (gs:=#[a]) (sl:=none) (t:=#[]) (q:=fun _=>0) rfl (leavers_one _ _) (past_nil.mono (Nat.zero_le _));obtain⟨M2,last,o,w',t2,e1,e2,e3,e4⟩:=beside_ends (P:=P) (Shun:=fun _=>False) (B:=w.heap.size) (D:=fun _ _ _=>False) (Post:=Post) (n:=0) (sl:=sl) (fun _ _ _ h=>h.elim) h0 hL hP (fun w1 ⟨d,e⟩=>e▸hK d);refine⟨M+M2,last,o,w',t2,?_,?_,e3,e4⟩
 . rw[Nat.add_assoc,runNT_add,e]; exact e1
 . rw[runN_add,<- runNT_fst P _ _ #[],e]; exact e2
end
end Go.Proofs.YtaemcekcancpdaaGreatDoor.Ren
namespace Go.Proofs.YtaemcekcancpdaaGreatDoor.Ren
abbrev A4:Item:=.code (.refuse "")
inductive TailR(B:Frame->Frame->Prop):List Frame->List Frame->Prop
 | one {c d:Frame} (h:B c d):TailR B [c] [d]
 | cons {c:Frame} {cs cs':List Frame} (h:TailR B cs cs'):TailR B (c::cs) (c::cs')
inductive TailG(A B:Frame->Frame->Prop):BU->BU->Prop
 | bot {fr d:Frame} (h:A fr d):TailG A B (fr,[]) (d,[])
 | top {fr:Frame} {cs cs':List Frame} (h:TailR B cs cs'):TailG A B (fr,cs) (fr,cs')
def RQ(K:List Item)(kd:CallKind)(fr d:Frame):Prop:=∃ T,fr.todo=T++[A4]/\d={ fr with todo:=T++K,kind:=kd }
def RS(K:List Item)(kd:CallKind)(fr d:Frame):Prop:=∃ T,fr.todo=T++[A4]/\T≠[]/\d={ fr with todo:=T++K,kind:=kd }
abbrev P6(K:List Item)(kd:CallKind):BU->BU->Prop:=TailG (RQ K kd) (RS K kd)
section
variable {P:Program} {K:List Item} {kd:CallKind}
variable {A B:Frame->Frame->Prop} (hfin:∀ c d v,B c d->A (c.finish v) (d.finish v))
theorem EE(c:Frame){T:List Item}(h:c.todo=T++[A4])(hne:T≠[])(v:Value):∃ T',(c.finish v).todo=T'++[A4]/\({ c with todo:=T++K,kind:=kd }:Frame).finish v={ c.finish v with todo:=T'++K,kind:=kd }:=by
 obtain⟨fn,tmps,todo,defers,mode,kind,roundOf⟩:=c;dsimp only at h;subst h;cases T with
 | nil=>exact absurd rfl hne
 | cons x T =>
  cases x with
  | inRegion ops l =>
   cases l with
   | nil=>exact⟨.inRegion ops []::T,rfl,rfl⟩
   | cons i l=>exact⟨.inRegion ops l::T,rfl,rfl⟩
  | _=>first | exact⟨_::T,rfl,rfl⟩ | exact⟨T,rfl,rfl⟩
theorem P7:∀ c d v,RS K kd c d->RQ K kd (c.finish v) (d.finish v):=by
 rintro c d v ⟨T,h,hne,rfl⟩;obtain⟨T',e1,e2⟩:=EE (K:=K) (kd:=kd) c h hne v;exact⟨T',e1,e2⟩
include hfin
theorem GK{cs cs':List Frame}(h:TailR B cs cs')(v:Value){c:BU}{w w':World}{es es':Array Event}(hs:(backS cs v).runT P w es=(.ok c w',es')) :
 ∃ d,TailG A B c d/\(backS cs' v).runT P w es=(.ok d w',es'):=by
 cases h with
 | @one c0 d0 h =>
  obtain⟨rfl,rfl,rfl⟩:=pure_ok hs;exact⟨_,.bot (hfin _ _ v h),rfl⟩
 | @cons c0 cs cs' h =>
  obtain⟨rfl,rfl,rfl⟩:=pure_ok hs;exact⟨_,.top h,rfl⟩
omit hfin in
theorem Lq(id:Nat):∀{T t:List Item},exitTo id (T++[A4])=some t->∃ T',t=T'++[A4]/\exitTo id (T++K)=some (T'++K):=by
 intro T
 induction T with
 | nil=>intro t h; simp[exitTo] at h
 | cons x T ih =>
  intro t h;cases x with
  | inBlock n =>
   simp only[List.cons_append,exitTo] at h ⊢;by_cases hn:(n==id)=true
   . rw[if_pos hn] at h;rw[if_pos hn];obtain rfl:=Option.some.inj h;exact⟨T,rfl,rfl⟩
   . rw[if_neg hn] at h;rw[if_neg hn];exact ih h
  | _=>exact ih (by simpa only[List.cons_append,exitTo] using h)
omit hfin in
theorem AM{α β:Type}{x:Sem α}{f:α->Sem β}{w w2:World}{es es2:Array Event}{a:α}(h:x.runT P w es=(.ok a w2,es2)):(x >>= f).runT P w es=(f a).runT P w2 es2:=by
 have e:=Sem.runT_bind' P x f w es;rw[h] at e;exact e
omit hfin in
theorem Kg{fr:Frame}{cs cs':List Frame}(h:TailR B cs cs'){n:Next}{c:BU}{w w':World}{es es':Array Event}(hs:(fin P fr cs n).runT P w es=(.ok c w',es')) :
 ∃ d,TailG A B c d/\(fin P fr cs' n).runT P w es=(.ok d w',es'):=by
 cases n with
 | value v=>obtain⟨rfl,rfl,rfl⟩:=pure_ok hs; exact⟨_,.top h,rfl⟩
 | skip=>obtain⟨rfl,rfl,rfl⟩:=pure_ok hs; exact⟨_,.top h,rfl⟩
 | enter f args=>obtain⟨rfl,rfl,rfl⟩:=pure_ok hs; exact⟨_,.top (.cons h),rfl⟩
 | round l f tmps a b=>obtain⟨rfl,rfl,rfl⟩:=pure_ok hs; exact⟨_,.top (.cons h),rfl⟩
 | _=>exact(AG hs).elim
omit hfin in
theorem Kh{fr:Frame}{T:List Item}(h:fr.todo=T++[A4])(hne:T≠[]){n:Next}{c:BU}{w w':World}{es es':Array Event}(hs:(fin P fr [] n).runT P w es=(.ok c w',es')) :
 ∃ d,P6 K kd c d/\(fin P { fr with todo:=T++K,kind:=kd } [] n).runT P w es=(.ok d w',es'):=by
 cases n with
 | value v =>
  obtain⟨rfl,rfl,rfl⟩:=pure_ok hs;obtain⟨T',e1,e2⟩:=EE (K:=K) (kd:=kd) fr h hne v;exact⟨_,.bot ⟨T',e1,e2⟩,rfl⟩
 | skip =>
  obtain⟨rfl,rfl,rfl⟩:=pure_ok hs;obtain⟨T',e1,e2⟩:=EE (K:=K) (kd:=kd) fr h hne undef;exact⟨_,.bot ⟨T',e1,e2⟩,rfl⟩
 | enter f args=>obtain⟨rfl,rfl,rfl⟩:=pure_ok hs; exact⟨_,.top (.one ⟨T,h,hne,rfl⟩),rfl⟩
 | round l f tmps a b=>obtain⟨rfl,rfl,rfl⟩:=pure_ok hs; exact⟨_,.top (.one ⟨T,h,hne,rfl⟩),rfl⟩
 | _=>exact(AG hs).elim
theorem GL{fr:Frame}{cs cs':List Frame}(h:TailR B cs cs'){jump:Option Code}{c:BU}{w w':World}{es es':Array Event}(hs:(Cj fr cs jump).runT P w es=(.ok c w',es')) :
 ∃ d,TailG A B c d/\(Cj fr cs' jump).runT P w es=(.ok d w',es'):=by
 unfold Cj at hs ⊢;cases hr:fr.roundOf with
 | none =>
  rw[hr] at hs;dsimp only at hs ⊢;have yes:∀{c:BU} {w':World} {es':Array Event},(pure (({ fn:=fr.fn,tmps:=fr.tmps,todo:=fr.todo,defers:=fr.defers,mode:=.returning,kind:=fr.kind }:Frame),cs):Sem BU).runT P w es=(.ok c w',es')->c=(({ fn:=fr.fn,tmps:=fr.tmps,todo:=fr.todo,defers:=fr.defers,mode:=.returning,kind:=fr.kind }:Frame),cs)/\w'=w/\es'=es:=fun h=>pure_ok h;cases jump with
  | none =>
   obtain⟨rfl,rfl,rfl⟩:=yes hs;exact⟨_,.top h,rfl⟩
  | some j =>
   cases j with
   | ret =>
    obtain⟨rfl,rfl,rfl⟩:=yes hs;exact⟨_,.top h,rfl⟩
   | _=>exact(AG hs).elim
 | some l =>
  rw[hr] at hs;dsimp only at hs ⊢;obtain⟨v,w2,es2,h1,h2⟩:=Ar hs;obtain⟨d,e1,e2⟩:=GK hfin h v h2;exact⟨d,e1,by rw[AM h1]; exact e2⟩
omit hfin in
theorem Ow{fr:Frame}{T:List Item}(h:fr.todo=T++[A4]){jump:Option Code}{c:BU}{w w':World}{es es':Array Event}(hs:(Cj fr [] jump).runT P w es=(.ok c w',es')) :
 ∃ d,P6 K kd c d/\(Cj { fr with todo:=T++K,kind:=kd } [] jump).runT P w es=(.ok d w',es'):=by
 unfold Cj at hs ⊢;dsimp only;cases hr:fr.roundOf with
 | none =>
  rw[hr] at hs;dsimp only at hs ⊢;have yes:∀{c:BU} {w':World} {es':Array Event},(pure (({ fn:=fr.fn,tmps:=fr.tmps,todo:=fr.todo,defers:=fr.defers,mode:=.returning,kind:=fr.kind }:Frame),[]):Sem BU).runT P w es=(.ok c w',es')->c=(({ fn:=fr.fn,tmps:=fr.tmps,todo:=fr.todo,defers:=fr.defers,mode:=.returning,kind:=fr.kind }:Frame),[])/\w'=w/\es'=es:=fun h=>pure_ok h;cases jump with
  | none =>
   obtain⟨rfl,rfl,rfl⟩:=yes hs;exact⟨_,.bot ⟨T,h,rfl⟩,rfl⟩
  | some j =>
   cases j with
   | ret =>
    obtain⟨rfl,rfl,rfl⟩:=yes hs;exact⟨_,.bot ⟨T,h,rfl⟩,rfl⟩
   | _=>exact(AG hs).elim
 | some l =>
  rw[hr] at hs;dsimp only at hs;obtain⟨v,w2,es2,h1,h2⟩:=Ar hs;exact(AG h2).elim
theorem Nm{fr:Frame}{cs cs':List Frame}(h:TailR B cs cs')(todo:List Item){c:BU}{w w':World}{es es':Array Event}(hs:(Bj P fr cs todo).runT P w es=(.ok c w',es')) :
 ∃ d,TailG A B c d/\(Bj P fr cs' todo).runT P w es=(.ok d w',es'):=by
 cases todo with
 | nil=>simp only[Bj] at hs ⊢; exact GL hfin h hs
 | cons x k =>
  cases x with
  | inBlock n=>obtain⟨rfl,rfl,rfl⟩:=pure_ok hs; exact⟨_,.top h,rfl⟩
  | inLoop b=>obtain⟨rfl,rfl,rfl⟩:=pure_ok hs; exact⟨_,.top h,rfl⟩
  | beginRound =>
   simp only[Bj] at hs ⊢;obtain⟨n,w2,es2,h1,h2⟩:=Ar hs;obtain⟨d,e1,e2⟩:=Kg h h2;exact⟨d,e1,by rw[AM h1]; exact e2⟩
  | endRangeFunc l =>
   simp only[Bj] at hs ⊢;obtain⟨n,w2,es2,h1,h2⟩:=Ar hs;obtain⟨rfl,rfl,rfl⟩:=pure_ok h2;exact⟨_,.top h,by rw[AM h1]; rfl⟩
  | inRegion ops l =>
   cases l with
   | nil=>obtain⟨rfl,rfl,rfl⟩:=pure_ok hs; exact⟨_,.top h,rfl⟩
   | cons i l =>
    simp only[Bj] at hs ⊢;split at hs
    . rename_i hw;rw[if_pos hw];cases ho:ops[i]? with
      | none=>rw[ho] at hs; exact(AG hs).elim
      | some o =>
       rw[ho] at hs;dsimp only at hs ⊢;obtain⟨n,w2,es2,h1,h2⟩:=Ar hs;obtain⟨d,e1,e2⟩:=Kg h h2;exact⟨d,e1,by rw[AM h1]; exact e2⟩
    . rename_i hw;rw[if_neg hw];obtain⟨rfl,rfl,rfl⟩:=pure_ok hs; exact⟨_,.top h,rfl⟩
  | code cc =>
   cases cc with
   | skip=>obtain⟨rfl,rfl,rfl⟩:=pure_ok hs; exact⟨_,.top h,rfl⟩
   | seq a b=>obtain⟨rfl,rfl,rfl⟩:=pure_ok hs; exact⟨_,.top h,rfl⟩
   | block n b=>obtain⟨rfl,rfl,rfl⟩:=pure_ok hs; exact⟨_,.top h,rfl⟩
   | loop b=>obtain⟨rfl,rfl,rfl⟩:=pure_ok hs; exact⟨_,.top h,rfl⟩
   | ret=>simp only[Bj] at hs ⊢; exact GL hfin h hs
   | cond z a b =>
    simp only[Bj] at hs ⊢;cases hz:fr.eval z with
    | bool q=>rw[hz] at hs; obtain⟨rfl,rfl,rfl⟩:=pure_ok hs; exact⟨_,.top h,rfl⟩
    | _=>rw[hz] at hs; exact(AG hs).elim
   | exit n =>
    simp only[Bj] at hs ⊢;cases he:exitTo n k with
    | some t=>rw[he] at hs; obtain⟨rfl,rfl,rfl⟩:=pure_ok hs; exact⟨_,.top h,rfl⟩
    | none=>rw[he] at hs; exact GL hfin h hs
   | region id ops draw =>
    simp only[Bj] at hs ⊢;cases draw with
    | false=>obtain⟨rfl,rfl,rfl⟩:=pure_ok hs; exact⟨_,.top h,rfl⟩
    | true =>
     obtain⟨n,w2,es2,h1,h2⟩:=Ar hs;obtain⟨rfl,rfl,rfl⟩:=pure_ok h2;exact⟨_,.top h,AM h1⟩
   | rangeFunc f ps a b =>
    simp only[Bj] at hs ⊢;obtain⟨⟨l,m⟩,w2,es2,h1,h2⟩:=Ar hs;dsimp only at h2;obtain⟨n,w3,es3,h3,h4⟩:=Ar h2;obtain⟨d,e1,e2⟩:=Kg h h4;exact⟨d,e1,by rw[AM h1]; dsimp only; rw[AM h3]; exact e2⟩
   | _=>exact(AG hs).elim
  | _=>exact(AG hs).elim
omit hfin in
theorem RU{fn:FuncId}{tmps:Array Value}{T:List Item}{defers:List Deferred}{kind:CallKind}{ro:Option Nat}{c:BU}{w w':World}{es es':Array Event}
 (hs:(Bj P { fn:=fn,tmps:=tmps,todo:=T++[A4],defers:=defers,mode:=.run,kind:=kind,roundOf:=ro } [] (T++[A4])).runT P w es=(.ok c w',es')) :
 ∃ d,P6 K kd c d/\(Bj P { fn:=fn,tmps:=tmps,todo:=T++K,defers:=defers,mode:=.run,kind:=kd,roundOf:=ro } [] (T++K)).runT P w es=(.ok d w',es'):=by
 cases T with
 | nil=>exact(AG hs).elim
 | cons x k =>
  simp only[List.cons_append] at hs ⊢;have ev:∀(t t':List Item) (d d':List Deferred),Frame.eval { fn:=fn,tmps:=tmps,todo:=t,defers:=d,mode:=.run,kind:=kd,roundOf:=ro }=Frame.eval { fn:=fn,tmps:=tmps,todo:=t',defers:=d',mode:=.run,kind:=kind,roundOf:=ro }:=by
   intro t t' d d';funext z;cases z<;>rfl
  cases x with
  | inBlock n=>obtain⟨rfl,rfl,rfl⟩:=pure_ok hs; exact⟨_,.bot ⟨k,rfl,rfl⟩,rfl⟩
  | inLoop b=>obtain⟨rfl,rfl,rfl⟩:=pure_ok hs; exact⟨_,.bot ⟨.code b::.inLoop b::k,rfl,rfl⟩,rfl⟩
  | beginRound =>
   simp only[Bj] at hs ⊢;obtain⟨n,w2,es2,h1,h2⟩:=Ar hs;obtain⟨d,e1,e2⟩:=Kh (K:=K) (kd:=kd) (T:=.beginRound::k) rfl (by simp) h2;exact⟨d,e1,by rw[AM h1]; exact e2⟩
  | endRangeFunc l =>
   simp only[Bj] at hs ⊢;obtain⟨n,w2,es2,h1,h2⟩:=Ar hs;obtain⟨rfl,rfl,rfl⟩:=pure_ok h2;exact⟨_,.bot ⟨(n.map Item.code).toList++k,by simp,rfl⟩,by rw[AM h1]; simp⟩
  | inRegion ops l =>
   cases l with
   | nil=>obtain⟨rfl,rfl,rfl⟩:=pure_ok hs; exact⟨_,.bot ⟨k,rfl,rfl⟩,rfl⟩
   | cons i l =>
    simp only[Bj] at hs ⊢;split at hs
    . rename_i hw;rw[if_pos hw];cases ho:ops[i]? with
      | none=>rw[ho] at hs; exact(AG hs).elim
      | some o =>
       rw[ho] at hs;dsimp only at hs ⊢;obtain⟨n,w2,es2,h1,h2⟩:=Ar hs;obtain⟨d,e1,e2⟩:=Kh (K:=K) (kd:=kd) (T:=.inRegion ops (i::l)::k) rfl (by simp) h2;exact⟨d,e1,by rw[ev _ (.inRegion ops (i::l)::(k++[A4])) _ defers,AM h1]; exact e2⟩
    . rename_i hw;rw[if_neg hw];obtain⟨rfl,rfl,rfl⟩:=pure_ok hs;exact⟨_,.bot ⟨.inRegion ops l::k,rfl,rfl⟩,rfl⟩
  | code cc =>
   cases cc with
   | skip=>obtain⟨rfl,rfl,rfl⟩:=pure_ok hs; exact⟨_,.bot ⟨k,rfl,rfl⟩,rfl⟩
   | seq a b=>obtain⟨rfl,rfl,rfl⟩:=pure_ok hs; exact⟨_,.bot ⟨.code a::.code b::k,rfl,rfl⟩,rfl⟩
   | block n b=>obtain⟨rfl,rfl,rfl⟩:=pure_ok hs; exact⟨_,.bot ⟨.code b::.inBlock n::k,rfl,rfl⟩,rfl⟩
   | loop b=>obtain⟨rfl,rfl,rfl⟩:=pure_ok hs; exact⟨_,.bot ⟨.code b::.inLoop b::k,rfl,rfl⟩,rfl⟩
   | ret=>simp only[Bj] at hs ⊢; exact Ow (K:=K) (kd:=kd) (T:=.code .ret::k) rfl hs
   | cond z a b =>
    simp only[Bj] at hs ⊢;rw[ev _ (.code (.cond z a b)::(k++[A4])) _ defers];cases hz:Frame.eval { fn:=fn,tmps:=tmps,todo:=.code (.cond z a b)::(k++[A4]),defers:=defers,mode:=.run,kind:=kind,roundOf:=ro } z with
    | bool q=>rw[hz] at hs; obtain⟨rfl,rfl,rfl⟩:=pure_ok hs; exact⟨_,.bot ⟨.code (if q then a else b)::k,rfl,rfl⟩,rfl⟩
    | _=>rw[hz] at hs; exact(AG hs).elim
   | exit n =>
    simp only[Bj] at hs ⊢;cases he:exitTo n (k++[A4]) with
    | some t =>
     rw[he] at hs;obtain⟨rfl,rfl,rfl⟩:=pure_ok hs;obtain⟨T',rfl,e2⟩:=Lq (K:=K) n he;rw[e2];exact⟨_,.bot ⟨T',rfl,rfl⟩,rfl⟩
    | none =>
     rw[he] at hs;unfold Cj at hs;cases ro with
     | none=>exact(AG hs).elim
     | some l =>
      obtain⟨v,w2,es2,h1,h2⟩:=Ar hs;exact(AG h2).elim
   | region id ops draw =>
    simp only[Bj] at hs ⊢;cases draw with
    | false=>obtain⟨rfl,rfl,rfl⟩:=pure_ok hs; exact⟨_,.bot ⟨.inRegion ops (List.range ops.size)::k,rfl,rfl⟩,rfl⟩
    | true =>
     obtain⟨n,w2,es2,h1,h2⟩:=Ar hs;obtain⟨rfl,rfl,rfl⟩:=pure_ok h2;exact⟨_,.bot ⟨.inRegion ops (Region.schedule (P.follows .mixedOrders) ops n)::k,rfl,rfl⟩,AM h1⟩
   | rangeFunc f ps a b =>
    simp only[Bj] at hs ⊢;obtain⟨⟨l,m⟩,w2,es2,h1,h2⟩:=Ar hs;dsimp only at h2;obtain⟨n,w3,es3,h3,h4⟩:=Ar h2;obtain⟨d,e1,e2⟩:=Kh (K:=K) (kd:=kd) (T:=.inRangeFunc l::k) rfl (by simp) h4;exact⟨d,e1,by rw[AM h1]; dsimp only; rw[ev _ (.inRangeFunc l::(k++[A4])) _ (m++defers),AM h3]; exact e2⟩
   | _=>exact(AG hs).elim
  | _=>exact(AG hs).elim
omit hfin in
theorem Oz{c d:BU}(h:P6 K kd c d){c':BU}{w w':World}{es es':Array Event}(hs:(stS P c.1 c.2).runT P w es=(.ok c' w',es')):∃ d',P6 K kd c' d'/\(stS P d.1 d.2).runT P w es=(.ok d' w',es'):=by
 cases h with
 | @top fr cs cs' h =>
  obtain⟨fn,tmps,todo,defers,mode,kind,roundOf⟩:=fr;dsimp only at hs ⊢;cases mode with
  | panicking ch=>exact(AG hs).elim
  | returning =>
   simp only[stS] at hs ⊢;split at hs
   . obtain⟨calls,w2,es2,h1,h2⟩:=Ar hs;obtain⟨rfl,rfl,rfl⟩:=pure_ok h2;exact⟨_,.top h,by rw[AM h1]; rfl⟩
   . exact(AG hs).elim
   . cases hf:P.funcs[fn]? with
     | none=>rw[hf] at hs; exact(AG hs).elim
     | some f =>
      rw[hf] at hs;dsimp only at hs ⊢;obtain⟨v,w2,es2,h1,h2⟩:=Ar hs;obtain⟨d,e1,e2⟩:=GK P7 h v h2;exact⟨d,e1,by rw[AM h1]; exact e2⟩
  | run =>
   simp only[stS] at hs ⊢;exact Nm P7 h _ hs
 | @bot fr d h =>
  obtain⟨T,h,rfl⟩:=h;obtain⟨fn,tmps,todo,defers,mode,kind,roundOf⟩:=fr;dsimp only at h hs ⊢;subst h;cases mode with
  | panicking ch=>exact(AG hs).elim
  | returning =>
   simp only[stS] at hs ⊢;split at hs
   . obtain⟨calls,w2,es2,h1,h2⟩:=Ar hs;obtain⟨rfl,rfl,rfl⟩:=pure_ok h2;exact⟨_,.bot ⟨T,rfl,rfl⟩,by rw[AM h1]; rfl⟩
   . exact(AG hs).elim
   . cases hf:P.funcs[fn]? with
     | none=>rw[hf] at hs; exact(AG hs).elim
     | some f =>
      rw[hf] at hs;dsimp only at hs;obtain⟨v,w2,es2,h1,h2⟩:=Ar hs;exact(AG h2).elim
  | run =>
   simp only[stS] at hs ⊢;exact RU hs
end
section
open Go.Conc
variable {X:Ctx} {gl:Nat->Prop} {K:Goroutine->World->Prop}
structure TailOk(X:Ctx)(gl:Nat->Prop)(A B:Frame->Frame->Prop)(Cut:BU->Prop):Prop where
 step:∀{c d c':BU} {w w':World} {es es':Array Event},TailG A B c d->¬ Cut c->(stS X.P c.1 c.2).runT X.P w es=(.ok c' w',es')->∃ d',TailG A B c' d'/\(stS X.P d.1 d.2).runT X.P w es=(.ok d' w',es')
 kind:∀{fr d:Frame},A fr d->d.kind≠.early
 mode:∀{fr d:Frame},A fr d->d.mode=fr.mode
 defers:∀{fr d:Frame},A fr d->d.defers=fr.defers
 head:∀{fr d:Frame} {r:Rho} {c':BU} {w w':World} {es es':Array Event},A fr d->¬ Cut (fr,[])->HeadR X gl r fr->(stS X.P fr []).runT X.P w es=(.ok c' w',es')->d.mode=.run->∀ x k,d.todo=x::k->(∃ y,ItemR X gl r x y)\/∃ ops l,x=.inRegion ops l/\∀ i rest o,l=i::rest->ops[i]?=some o->OpOk X gl o.op
theorem Ux(KK:List Item){kd:CallKind}(hk:kd≠.early):TailOk X gl (RQ KK kd) (RS KK kd) fun _=>False:=by
 refine⟨fun h _ hs=>Oz h hs,?_,?_,?_,?_⟩
 . rintro fr d ⟨T,_,rfl⟩; exact hk
 . rintro fr d ⟨T,_,rfl⟩; rfl
 . rintro fr d ⟨T,_,rfl⟩; rfl
 . rintro fr d r c' w w' es es' ⟨T,hT,rfl⟩ _ hd e5 hmode x k e;cases T with
   | nil =>
    exfalso
    dsimp only at hmode;simp only[stS,hmode,hT] at e5;exact AG e5
   | cons y T =>
    simp only[List.cons_append,List.cons.injEq] at e;obtain⟨rfl,_⟩:=e;exact .inl (hd.item _ _ hT)
end
section
variable (P:Program) (good:FuncId->Bool) (glb:Nat->Bool)
def Ml:Value->Bool
 | .nilFunc=>true
 | v=>KU v
theorem OA{v:Value}(h:Ml v=true){L:Good}{r:Rho}:VR L r v v:=by
 unfold Ml at h;split at h
 . exact .nilFunc
 . exact(KV h).rel
def FA:Operand->Bool
 | .tmp _=>true
 | .const v=>Ml v
 | .global n=>glb n
 | .func f=>good f
def G8(t:TypeId):Bool:=match P.info? t with
 | some i=>match i.zero with
  | some v=>KU v
  | none=>true
 | none=>true
def OB(t:TypeId):Bool:=match P.underlying t with
 | some (.int _)=>true
 | _=>false
def F1(t:TypeId):Bool:=match P.underlying t with
 | some (.int _) | some .bool | some .string=>true
 | _=>false
def isNil:Operand->Bool
 | .const (.pointer none)=>true
 | _=>false
def U0(t:TypeId)(x y:Operand):Bool:=match P.underlying t with
 | some (.int _) | some .bool | some .string=>true
 | some (.pointer _)=>isNil x||isNil y
 | some (.struct fs)=>fs.all fun f=>F1 P f.type||match P.underlying f.type with
  | some (.struct gs)=>gs.all fun g=>F1 P g.type
  | _=>false
 | _=>false
def Tk:BinOp->Bool
 | .add | .sub | .mul | .quo | .rem | .lss | .leq | .gtr | .geq=>true
 | _=>false
def U1:BinOp->Bool
 | .and | .or | .xor | .andNot=>true
 | _=>false
def U2:BinOp->Bool
 | .eql | .neq=>true
 | _=>false
def Jt(t:TypeId):Bool:=match P.underlying t with
 | some .unsafePointer=>false
 | _=>true
def Uy(op:BinOp)(t:TypeId)(x y:Operand):Bool :=
 FA good glb x&&FA good glb y&&(Tk op&&Jt P t||U1 op||U2 op&&U0 P t x y&&!P.eqGuardType P.depth t)
def Uz(ts:Array TypeId):Bool:=match ts[0]?,ts[1]? with
 | some t,some u=>!OB P u&&(match P.underlying t with
  | some (.slice e)=>G8 P e
  | _=>true)
 | _,_=>false
def Nn(ts:Array TypeId):Bool:=match ts[0]? with
 | some t=>(match P.underlying t with
  | some (.chan _ _)=>false
  | _=>true)
 | none=>true
def P8(c:Call):Bool:=c.args.all (FA good glb)&&match c.callee with
 | .value f=>FA good glb f
 | .invoke x _=>FA good glb x
 | .builtin .len=>Nn P c.argTypes
 | .builtin .min | .builtin .max=>true
 | .builtin .append=>Uz P c.argTypes
 | .builtin _=>false
def RV(t:TypeId):Bool:=match P.underlying t with
 | some (.map k e)=>F1 P k&&G8 P e
 | _=>true
def Qa(o:Option Operand):Bool:=match o with
 | some x=>FA good glb x
 | none=>true
def RX(t:TypeId):Bool:=match P.info? t with
 | some i=>i.methods.all fun m=>match m.func with
  | some (f,_)=>good f
  | none=>true
 | none=>true
def Kv:Op->Bool
 | .makeInterface t x=>RX P good t&&FA good glb x
 | .move x | .assign x | .box _ x | .load _ x | .nilCheck x | .unOp _ _ x | .fieldAddr _ x _ | .field _ x _ | .extract x _=>FA good glb x
 | .pick c a b=>FA good glb c&&FA good glb a&&FA good glb b
 | .alloc t=>G8 P t
 | .build t ps=>G8 P t&&ps.all fun p=>FA good glb p.2
 | .store _ x y | .indexAddr _ x y | .index _ x y=>FA good glb x&&FA good glb y
 | .binOp op t x y _=>Uy P good glb op t x y
 | .makeFunc (.func f) a b=>good f&&a.all (FA good glb)&&b.all (FA good glb)
 | .typeAssert x _ u ok=>ok&&G8 P u&&FA good glb x
 | .call c=>P8 P good glb c
 | .slice _ x lo hi mx=>FA good glb x&&Qa good glb lo&&Qa good glb hi&&Qa good glb mx
 | .buildSlice t _ ps=>(match P.underlying t with
  | some (.slice e)=>G8 P e
  | _=>true)&&ps.all fun p=>FA good glb p.2
 | .convert s t x=>OB P s&&OB P t&&FA good glb x
 | .makeMap _ o=>Qa good glb o
 | .lookup t x y _=>RV P t&&FA good glb x&&FA good glb y
 | .insert t x y z | .mapUpdate t x y z=>RV P t&&FA good glb x&&FA good glb y&&FA good glb z
 | _=>false
def AH:Code->Bool
 | .skip | .ret | .exit _ | .refuse _=>true
 | .region _ ops _=>ops.all fun o=>Kv P good glb o.op
 | .seq a b=>AH a&&AH b
 | .cond c a b=>FA good glb c&&AH a&&AH b
 | .block _ a | .loop a=>AH a
 | .rangeFunc f _ a b=>FA good glb f&&AH a&&AH b
 | _=>false
def Lr(f:FuncId):Bool:=match P.funcs[f]? with
 | some fn=>!(fn.name == "runtime.NumGoroutine")&&(match fn.body with
  | some c=>AH P good glb c
  | none=>false)
 | none=>false
abbrev Fv:Ctx:={ P:=P,L:=⟨fun f=>good f=true,fun t=>RX P good t=true,fun f=>(P.funcs[f]?).isSome=true⟩,C:=fun c=>AH P good glb c=true }
abbrev Sz:Nat->Prop:=fun n=>glb n=true
end
section
variable {P:Program} {good:FuncId->Bool} {glb:Nat->Bool}
theorem AQ{x:Operand}(h:FA good glb x=true):OdOk (Fv P good glb) (Sz glb) x:=by
 cases x with
 | tmp t=>exact .tmp t
 | const v=>exact .const fun _ _=>OA h
 | global n=>exact .global h
 | func f=>exact .func h
theorem Ki{a:Array Operand}(h:a.all (FA good glb)=true):∀ x∈a,OdOk (Fv P good glb) (Sz glb) x:=fun x hx=>AQ (Array.all_eq_true_iff_forall_mem.1 h x hx)
theorem DW{t:TypeId}(h:G8 P t=true):Cs (Fv P good glb) t:=by
 intro i v hi hv;have hi':P.info? t=some i:=hi;unfold G8 at h;rw[hi'] at h;dsimp only at h;rw[hv] at h;exact KV h
theorem Np{t:TypeId}(h:OB P t=true):∃ k,P.underlying t=some (.int k):=by
 unfold OB at h;split at h
 . exact⟨_,‹_›⟩
 . cases h
theorem Fw{t:TypeId}(h:F1 P t=true):BF (Fv P good glb) t:=by
 unfold F1 at h;split at h
 . exact .inl ⟨_,‹_›⟩
 . exact .inr (.inl ‹_›)
 . exact .inr (.inr ‹_›)
 . cases h
theorem Ls{x:Operand}(h:isNil x=true):x=.const (.pointer none):=by
 unfold isNil at h;split at h
 . rfl
 . cases h
theorem Tm{t:TypeId}{x y:Operand}(h:U0 P t x y=true):EqT (Fv P good glb) t/\((∃ e,P.underlying t=some (.pointer e))->x=.const (.pointer none)\/y=.const (.pointer none)):=by
 unfold U0 at h;split at h
 all_goals try rename_i e
 . exact⟨.scalar (.inl ⟨_,e⟩),fun⟨e',h'⟩=>by rw[e] at h'; cases h'⟩
 . exact⟨.scalar (.inr (.inl e)),fun⟨e',h'⟩=>by rw[e] at h'; cases h'⟩
 . exact⟨.scalar (.inr (.inr e)),fun⟨e',h'⟩=>by rw[e] at h'; cases h'⟩
 . refine⟨.pointer _ e,fun _=>?_⟩;rw[Bool.or_eq_true] at h;exact h.imp Ls Ls
 . refine⟨.struct _ e fun f hf=>?_,fun⟨e',h'⟩=>by rw[e] at h'; cases h'⟩;have h2:=Array.all_eq_true_iff_forall_mem.1 h f hf;rw[Bool.or_eq_true] at h2;rcases h2 with h2 | h2
   . exact .inl (Fw h2)
   . split at h2
     . exact .inr ⟨_,‹_›,fun g hg=>Fw (Array.all_eq_true_iff_forall_mem.1 h2 g hg)⟩
     . cases h2
 . cases h
theorem Hw{o:Option Operand}(h:Qa good glb o=true):∀ y∈o,OdOk (Fv P good glb) (Sz glb) y:=by
 intro y hy;cases o with
 | none=>cases hy
 | some x=>cases hy; exact AQ h
theorem Ju{ps:Array (Nat × Operand)}(h:(ps.all fun p=>FA good glb p.2)=true):∀ p∈ps,OdOk (Fv P good glb) (Sz glb) p.2:=fun p hp=>AQ (Array.all_eq_true_iff_forall_mem.1 h p hp)
theorem Kj{t:TypeId}(h:RV P t=true):∀ k e,P.underlying t=some (.map k e)->BF (Fv P good glb) k/\Cs (Fv P good glb) e:=by
 intro k e he;unfold RV at h;rw[he] at h;dsimp only at h;rw[Bool.and_eq_true] at h;exact⟨Fw h.1,DW h.2⟩
theorem Qb{c:Call}(h:P8 P good glb c=true):CallOk (Fv P good glb) (Sz glb) c:=by
 obtain⟨callee,args,ts⟩:=c;unfold P8 at h;rw[Bool.and_eq_true] at h;obtain⟨h1,h2⟩:=h;have ha:=Ki (P:=P) h1;cases callee with
 | value f=>exact .value (AQ h2) ha
 | invoke x n=>exact .invoke (AQ h2) ha
 | builtin b =>
  cases b with
  | len =>
   refine .len (fun t d e ht he=>?_) ha;dsimp only at h2;unfold Nn at h2;rw[ht] at h2;dsimp only at h2;rw[show P.underlying t=some (.chan d e) from he] at h2;cases h2
  | min=>exact .min ha
  | max=>exact .max ha
  | append =>
   dsimp only at h2;unfold Uz at h2;cases e0:ts[0]? with
   | none=>rw[e0] at h2; cases h2
   | some t =>
    cases e1:ts[1]? with
    | none=>rw[e0,e1] at h2; cases h2
    | some u =>
     rw[e0,e1] at h2;dsimp only at h2;rw[Bool.and_eq_true] at h2;refine .append (fun t' e ht he=>?_) (by rw[e1]; simp) (fun u' k hu he=>?_) ha
     . rw[e0] at ht;obtain rfl:=Option.some.inj ht;have h3:=h2.2;rw[show P.underlying t=some (.slice e) from he] at h3;exact DW h3
     . rw[e1] at hu;obtain rfl:=Option.some.inj hu;have h3:=h2.1;unfold OB at h3;rw[show P.underlying u=some (.int k) from he] at h3;cases h3
  | _=>cases h2
theorem Qc{o:Op}(h:Kv P good glb o=true):OpOk (Fv P good glb) (Sz glb) o:=by
 cases o with
 | move x=>exact .move (AQ h)
 | assign x=>exact .assign (AQ h)
 | box t x=>exact .box (AQ h)
 | load t x=>exact .load (AQ h)
 | nilCheck x=>exact .nilCheck (AQ h)
 | unOp a b x=>exact .unOp (AQ h)
 | makeInterface t x =>
  simp only[Kv,Bool.and_eq_true] at h;exact .makeInterface h.1 (AQ h.2)
 | fieldAddr t x n=>exact .fieldAddr (AQ h)
 | field t x n=>exact .field (AQ h)
 | extract x n=>exact .extract (AQ h)
 | alloc t=>exact .alloc (DW h)
 | call c=>exact .call (Qb h)
 | makeMap t o=>exact .makeMap (Hw h)
 | pick c a b =>
  simp only[Kv,Bool.and_eq_true] at h;exact .pick (AQ h.1.1) (AQ h.1.2) (AQ h.2)
 | build t ps =>
  simp only[Kv,Bool.and_eq_true] at h;exact .build (DW h.1) (Ju h.2)
 | store t x y =>
  simp only[Kv,Bool.and_eq_true] at h;exact .store (AQ h.1) (AQ h.2)
 | indexAddr t x y =>
  simp only[Kv,Bool.and_eq_true] at h;exact .indexAddr (AQ h.1) (AQ h.2)
 | index t x y =>
  simp only[Kv,Bool.and_eq_true] at h;exact .index (AQ h.1) (AQ h.2)
 | slice t x lo hi mx =>
  simp only[Kv,Bool.and_eq_true] at h;exact .slice (AQ h.1.1.1) (Hw h.1.1.2) (Hw h.1.2) (Hw h.2)
 | convert s t x =>
  simp only[Kv,Bool.and_eq_true] at h;exact .convert (Np h.1.1) (Np h.1.2) (AQ h.2)
 | lookup t x y cm =>
  simp only[Kv,Bool.and_eq_true] at h;exact .lookup (Kj h.1.1) (AQ h.1.2) (AQ h.2)
 | insert t x y z =>
  simp only[Kv,Bool.and_eq_true] at h;exact .insert (fun k e he=>(Kj h.1.1.1 k e he).1) (AQ h.1.1.2) (AQ h.1.2) (AQ h.2)
 | mapUpdate t x y z =>
  simp only[Kv,Bool.and_eq_true] at h;exact .mapUpdate (fun k e he=>(Kj h.1.1.1 k e he).1) (AQ h.1.1.2) (AQ h.1.2) (AQ h.2)
 | typeAssert x t u ok =>
  simp only[Kv,Bool.and_eq_true] at h;obtain⟨⟨rfl,h2⟩,h3⟩:=h;exact .typeAssert (DW h2) (AQ h3)
 | makeFunc f a b =>
  cases f with
  | func f =>
   simp only[Kv,Bool.and_eq_true] at h;exact .makeFunc h.1.1 (Ki h.1.2) (Ki h.2)
  | _=>cases h
 | buildSlice t n ps =>
  simp only[Kv,Bool.and_eq_true] at h;refine .buildSlice (fun e he=>?_) (Ju h.2);have h1:=h.1;rw[show P.underlying t=some (.slice e) from he] at h1;exact DW h1
 | binOp op t x y u =>
  simp only[Kv,Uy,Bool.and_eq_true,Bool.or_eq_true] at h;obtain⟨⟨hx,hy⟩,(⟨h1,h2⟩ | h1) | ⟨⟨h1,h2⟩,h3⟩⟩:=h
  . refine .arith (by cases op<;>first | constructor | cases h1) (fun e=>?_) (AQ hx) (AQ hy);unfold Jt at h2;rw[show P.underlying t=some .unsafePointer from e] at h2;cases h2
  . exact .bits (by cases op<;>first | constructor | cases h1) (AQ hx) (AQ hy)
  . obtain⟨e1,e2⟩:=Tm (good:=good) (glb:=glb) h2;exact .compare (by cases op<;>first | exact .inl rfl | exact .inr rfl | cases h1) e1 (by simpa using h3) e2 (AQ hx) (AQ hy)
 | _=>cases h
theorem OC:CodeLaws (Fv P good glb) (Sz glb):=by
 refine⟨fun {a b} h=>?_,fun {c a b} h=>?_,fun {n a} h=>?_,fun {a} h=>?_,rfl,fun _=>rfl,fun {n ops d} h=>?_,fun {f ps a b} h=>?_,fun {l} h=>?_,fun {a} h=>?_,fun {l} h=>?_⟩
 . simpa only[AH,Bool.and_eq_true] using h
 . simp only[AH,Bool.and_eq_true] at h;exact⟨AQ h.1.1,h.1.2,h.2⟩
 . simpa only[AH] using h
 . simpa only[AH] using h
 . intro o ho;simp only[AH] at h;exact Qc (Array.all_eq_true_iff_forall_mem.1 h o ho)
 . simp only[AH,Bool.and_eq_true] at h;exact⟨AQ h.1.1,h.1.2,h.2⟩
 . simp[AH] at h
 . simp[AH] at h
 . simp[AH] at h
theorem Qd:GA (Fv P good glb):=by
 intro t i m f b ht hi hm hf;have ht':RX P good t=true:=ht;unfold RX at ht';rw[show P.info? t=some i from hi] at ht';have:=Array.all_eq_true_iff_forall_mem.1 ht' m hm;rw[hf] at this;exact this
theorem RY(hf:∀ f,good f=true->Lr P good glb f=true):Lawful (Fv P good glb):=by
 refine⟨fun f hL=>?_,fun f hL=>?_,fun f hL=>?_,Qd⟩
 . obtain⟨fn,e⟩:=Option.isSome_iff_exists.1 (show(P.funcs[f]?).isSome=true from hL);exact⟨fn,⟨e⟩⟩
 . have h:=hf f hL;unfold Lr at h
   show(P.funcs[f]?).isSome=true
   cases e:P.funcs[f]? with
   | none=>rw[e] at h; cases h
   | some fn=>rfl
 have h:=hf f hL;unfold Lr at h;cases e:P.funcs[f]? with
 | none=>rw[e] at h; cases h
 | some fn =>
  rw[e] at h;simp only[Bool.and_eq_true,Bool.not_eq_true'] at h;refine⟨fn,e,h.1,?_⟩;cases hb:fn.body with
  | none=>rw[hb] at h; cases h.2
  | some c=>rw[hb] at h; exact⟨c,rfl,h.2⟩
end
section
variable {X:Ctx} {gl:Nat->Prop}
inductive FinW(b:Frame)(Q:Exit->Act->World->Prop):BU × Fh->Prop
 | normal {a':Act} {w':World} (h:Q .normal a' w'):FinW b Q ((b.at a' [A4],[]),BE w')
 | ret {a':Act} {w':World} {todo:List Item} (h:Q .ret a' w'):FinW b Q (({ b.at a' todo with mode:=.returning },[]),BE w')
theorem RZ(lw:Lawful X)(cl:CodeLaws X gl){b:Frame}{a:Act}{A:Code}{m:Fh}{Q:Exit->Act->World->Prop}(hg:El X gl ((b.at a [.code A,A4],[]),m))
 (hQ:∀ e a w,Q e a w->e=.normal\/e=.ret) (h:∀ t,A.wp X.P Q a (EB m t)):MustA (IX X) (FinW b Q) ((b.at a [.code A,A4],[]),m):=by
 refine Iy lw cl hg fun t=>?_;obtain⟨e,a',w',hq,harr⟩:=h t b [A4] [trap];rcases hQ _ _ _ hq with rfl | rfl
 . exact⟨b.at a' [A4],[],w',harr,(fun ch x=>by cases x),.normal hq⟩
 . obtain⟨todo,hs⟩:=harr;exact⟨_,[],w',hs,(fun ch x=>by cases x),.ret hq⟩
theorem Lu{T U:List Item}(h:T++[A4]=U++[A4]):T=U:=List.append_cancel_right h
end
section
variable {P:Program} {K:List Item} {kd:CallKind} {ops:Array Oper} {l2:List Nat}
def Nq(K:List Item)(kd:CallKind)(ops:Array Oper)(l2:List Nat)(fr d:Frame):Prop:=∃ l1,fr.todo=[.inRegion ops l1,A4]/\d={ fr with todo:=.inRegion ops (l1++l2)::K,kind:=kd }
def Nr(K:List Item)(kd:CallKind)(ops:Array Oper)(l2:List Nat)(fr d:Frame):Prop:=∃ i l1,fr.todo=[.inRegion ops (i::l1),A4]/\d={ fr with todo:=.inRegion ops (i::l1++l2)::K,kind:=kd }
def Cut(c:BU):Prop:=c.2=[]/\c.1.mode=.run/\∃ ops,c.1.todo=[.inRegion ops [],A4]
theorem Ns:∀ c d v,Nr K kd ops l2 c d->Nq K kd ops l2 (c.finish v) (d.finish v):=by
 rintro c d v ⟨i,l1,h,rfl⟩;obtain⟨fn,tmps,todo,defers,mode,kind,roundOf⟩:=c;dsimp only at h;subst h;exact⟨l1,rfl,rfl⟩
theorem OD{c d:BU}(h:TailG (Nq K kd ops l2) (Nr K kd ops l2) c d)(hc:¬ Cut c){c':BU}{w w':World}{es es':Array Event}(hs:(stS P c.1 c.2).runT P w es=(.ok c' w',es')) :
 ∃ d',TailG (Nq K kd ops l2) (Nr K kd ops l2) c' d'/\(stS P d.1 d.2).runT P w es=(.ok d' w',es'):=by
 cases h with
 | @top fr cs cs' h =>
  obtain⟨fn,tmps,todo,defers,mode,kind,roundOf⟩:=fr;dsimp only at hs ⊢;cases mode with
  | panicking ch=>exact(AG hs).elim
  | returning =>
   simp only[stS] at hs ⊢;split at hs
   . obtain⟨calls,w2,es2,h1,h2⟩:=Ar hs;obtain⟨rfl,rfl,rfl⟩:=pure_ok h2;exact⟨_,.top h,by rw[AM h1]; rfl⟩
   . exact(AG hs).elim
   . cases hf:P.funcs[fn]? with
     | none=>rw[hf] at hs; exact(AG hs).elim
     | some f =>
      rw[hf] at hs;dsimp only at hs ⊢;obtain⟨v,w2,es2,h1,h2⟩:=Ar hs;obtain⟨d,e1,e2⟩:=GK Ns h v h2;exact⟨d,e1,by rw[AM h1]; exact e2⟩
  | run =>
   simp only[stS] at hs ⊢;exact Nm Ns h _ hs
 | @bot fr d h =>
  obtain⟨l1,h,rfl⟩:=h;obtain⟨fn,tmps,todo,defers,mode,kind,roundOf⟩:=fr;dsimp only at h hs ⊢;subst h;cases mode with
  | panicking ch=>exact(AG hs).elim
  | returning =>
   simp only[stS] at hs ⊢;split at hs
   . obtain⟨calls,w2,es2,h1,h2⟩:=Ar hs;obtain⟨rfl,rfl,rfl⟩:=pure_ok h2;exact⟨_,.bot ⟨l1,rfl,rfl⟩,by rw[AM h1]; rfl⟩
   . exact(AG hs).elim
   . cases hf:P.funcs[fn]? with
     | none=>rw[hf] at hs; exact(AG hs).elim
     | some f =>
      rw[hf] at hs;dsimp only at hs;obtain⟨v,w2,es2,h1,h2⟩:=Ar hs;exact(AG h2).elim
  | run =>
   cases l1 with
   | nil=>exact absurd ⟨rfl,rfl,ops,rfl⟩ hc
   | cons i l1 =>
    simp only[stS,List.cons_append,Bj] at hs ⊢;have ev:Frame.eval { fn:=fn,tmps:=tmps,todo:=.inRegion ops (i::(l1++l2))::K,defers:=defers,mode:=.run,kind:=kd,roundOf:=roundOf }=Frame.eval { fn:=fn,tmps:=tmps,todo:=[.inRegion ops (i::l1),A4],defers:=defers,mode:=.run,kind:=kind,roundOf:=roundOf }:=by
     funext z;cases z<;>rfl
    split at hs
    . rename_i hw;rw[if_pos hw];cases ho:ops[i]? with
      | none=>rw[ho] at hs; exact(AG hs).elim
      | some o =>
       rw[ho] at hs;dsimp only at hs ⊢;obtain⟨n,w2,es2,h1,h2⟩:=Ar hs;rw[ev,AM h1];cases n with
       | value v=>obtain⟨rfl,rfl,rfl⟩:=pure_ok h2; exact⟨_,.bot ⟨l1,rfl,rfl⟩,rfl⟩
       | skip=>obtain⟨rfl,rfl,rfl⟩:=pure_ok h2; exact⟨_,.bot ⟨l1,rfl,rfl⟩,rfl⟩
       | enter f args=>obtain⟨rfl,rfl,rfl⟩:=pure_ok h2; exact⟨_,.top (.one ⟨i,l1,rfl,rfl⟩),rfl⟩
       | round l f tmps a b=>obtain⟨rfl,rfl,rfl⟩:=pure_ok h2; exact⟨_,.top (.one ⟨i,l1,rfl,rfl⟩),rfl⟩
       | _=>exact(AG h2).elim
    . rename_i hw;rw[if_neg hw];obtain⟨rfl,rfl,rfl⟩:=pure_ok hs;exact⟨_,.bot ⟨l1,rfl,rfl⟩,rfl⟩
end
section
variable {X:Ctx} {gl:Nat->Prop}
theorem Tn(K:List Item){kd:CallKind}(hk:kd≠.early)(ops:Array Oper)(l2:List Nat):TailOk X gl (Nq K kd ops l2) (Nr K kd ops l2) Cut:=by
 refine⟨fun h hc hs=>OD h hc hs,?_,?_,?_,?_⟩
 . rintro fr d ⟨T,_,rfl⟩; exact hk
 . rintro fr d ⟨T,_,rfl⟩; rfl
 . rintro fr d ⟨T,_,rfl⟩; rfl
 . rintro fr d r c' w w' es es' ⟨l1,hT,rfl⟩ hc hd e5 hmode x k e;simp only[List.cons.injEq] at e;obtain⟨rfl,_⟩:=e;refine .inr ⟨ops,_,rfl,fun i rest o hl ho=>?_⟩;cases l1 with
   | nil=>exact absurd ⟨rfl,hmode,ops,hT⟩ hc
   | cons j l1 =>
    simp only[List.cons_append,List.cons.injEq] at hl;obtain⟨rfl,_⟩:=hl;obtain⟨y,hy⟩:=hd.item _ _ hT;cases hy with
    | inRegion _ h=>exact h j (List.mem_cons_self ..) o ho
def UA(b:Frame)(Q:Act->World->Prop)(s:BU × Fh):Prop:=∃ a' w',s=((b.at a' [A4],[]),BE w')/\Q a' w'
theorem Qe(lw:Lawful X)(cl:CodeLaws X gl){b:Frame}{a:Act}{ops:Array Oper}{l:List Nat}{m:Fh}{Q:Act->World->Prop}(hg:El X gl ((b.at a [.inRegion ops l,A4],[]),m))
 (h:∀ t,wpOps X.P ops (fun e a w=>e=.normal/\Q a w) l a (EB m t)):MustA (IX X) (UA b Q) ((b.at a [.inRegion ops l,A4],[]),m):=by
 refine Iy lw cl hg fun t=>?_;obtain⟨e,a',w',⟨rfl,hq⟩,harr⟩:=wp_ops l a _ (h t) b [A4] [trap];exact⟨b.at a' [A4],[],w',harr,(fun ch x=>by cases x),a',w',rfl,hq⟩
end
section
variable {X:Ctx} {gl:Nat->Prop} {mn:Bool}
def UB(X:Ctx)(gl:Nat->Prop)(mn:Bool)(RO E S:Nat->Prop)(Q:BU × Fh->Prop)(Rel:BU->BU->Prop)(base:List Frame)(Stop:(Nat->Prop)->Goroutine->World->Prop)(r:Rho)(w:World):Prop :=
 ∀{r':Rho} {s':BU × Fh} {c' d':BU} {w':World},r.le r'->Beside X gl RO E S r' s' c' w'->Q s'->Rel c' d'->w.heap.size<=w'.heap.size->(∀ j,E j\/RO j->w'.heap[j]?=w.heap[j]?)->Co X.P mn RO Stop (Own E S r') (Bb d'.1 (d'.2++base)) w'
theorem IA(lw:Lawful X)(cl:CodeLaws X gl){A B:Frame->Frame->Prop}{Cut:BU->Prop}{Rel:BU->BU->Prop}(tk:TailOk X gl A B Cut){RO E S:Nat->Prop}{base:List Frame}{Q:BU × Fh->Prop}{Stop:(Nat->Prop)->Goroutine->World->Prop}
 (hrel:∀{r:Rho} {s:BU × Fh} {c d:BU} {w:World},Q s->Beside X gl RO E S r s c w->TailG A B c d->Rel c d)
 (hcut:∀{r:Rho} {s:BU × Fh} {c d:BU} {w:World},Cut c->Beside X gl RO E S r s c w->TailG A B c d->(∀ t,∃ s' n,IX X s t=some (s',n)/\MustA (IX X) Q s')->UB X gl mn RO E S Q Rel base Stop r w->Co X.P mn RO Stop (Own E S r) (Bb d.1 (d.2++base)) w)
 {s:BU × Fh} (hm:MustA (IX X) Q s):∀{r:Rho} {c d:BU} {w:World},Beside X gl RO E S r s c w->TailG A B c d->UB X gl mn RO E S Q Rel base Stop r w->Co X.P mn RO Stop (Own E S r) (Bb d.1 (d.2++base)) w:=by
 induction hm with
 | fin h =>
  intro r c d w hb hT k;exact k (Rho.le_refl r) hb h (hrel h hb hT) (Nat.le_refl _) fun _ _=>rfl
 | @step s f n h hch ih =>
  intro r c d w hb hT k;by_cases hnc:Cut c
  . exact hcut hnc hb hT (fun t=>⟨f t,n t,h t,hch t⟩) k
  refine .one rfl fun w1 hk=>?_;have b1:=hb.keep hk;have ht:=h (fun i=>w1.tape (w1.drawn+i));have iht:=@ih (fun i=>w1.tape (w1.drawn+i));generalize f (fun i=>w1.tape (w1.drawn+i))=s' at ht iht;unfold IX at ht;cases hrun:(stS X.P s.1.1 s.1.2).run X.P (EB s.2 (fun i=>w1.tape (w1.drawn+i))) with
  | halt x y=>rw[hrun] at ht; cases ht
  | ok c1 v =>
   rw[hrun] at ht;simp only[Option.some.injEq,Prod.mk.injEq] at ht;obtain⟨rfl,_⟩:=ht;have hsame:Same (EB s.2 (fun i=>w1.tape (w1.drawn+i))) w1:=fun i q=>by
    show w1.tape (w1.drawn+(0+i)) q=w1.tape (w1.drawn+i) q
    rw[Nat.zero_add]
   obtain⟨s2,a',v',ev,e1,e2,e3,e4⟩:=(Mi lw cl b1.ok b1.cfg).run b1.ok b1.gl_ b1.gr_ (b1.wr (EB s.2 _) rfl) hsame hrun;obtain⟨d1,t1,t2⟩:=tk.step hT hnc (by simpa using e1 #[]:(stS X.P c.1 c.2).runT X.P w1 #[]=(.ok a' v',ev));have hd:=b1.cfg.stack.head.headr;have hst:∃ es',stepG X.P mn (Bb d.1 (d.2++base)) w1=.go (Bb d1.1 (d1.2++base)) v' es'/\∀ e∈es',e∈ev:=by
    cases hT with
    | @top fr cs cs' h=>exact hd.step t2
    | @bot fr dd hA =>
     obtain⟨m,hm⟩:=hd.mode;obtain⟨df,hdf⟩:=hd.defers;exact GH (gl:=gl) (fr:=dd) (r:=r.flip) (.inr rfl) (tk.kind hA) (by rw[tk.mode hA]; exact hm) (by rw[tk.defers hA]; exact hdf) (tk.head hA hnc hd (by simpa using e1 #[]:(stS X.P fr []).runT X.P w1 #[]=(.ok a' v',ev))) t2
   obtain⟨es',e5,e6⟩:=hst;have old:∀{i j:Nat},s2 i j->S i->r i j:=by
    intro i j hij hs;rcases e3.fresh i j hij with x | ⟨x,_⟩
    . exact x
    . obtain⟨cc,t,ff,y,_⟩:=b1.seal_ (EB s.2 (fun i=>w1.tape (w1.drawn+i))) rfl i hs;exact absurd (Array.getElem?_eq_some_iff.1 y).1 (Nat.not_lt.2 x)
   have b2:Beside X gl RO E S s2 (c1,BE v) a' v':=by
    refine⟨e3.ok,e2,fun u hu=>e3.wr.twin hu rfl,fun u hu i hs=>?_,Nat.le_trans b1.gl_ e3.sizel,Nat.le_trans b1.gr_ e3.size,fun i j hij hs=>b1.ro i j (old hij hs) hs,fun i j hij he=>?_,fun j hj=>Nat.lt_of_lt_of_le (b1.elt j hj) e3.size,fun j hj=>Nat.lt_of_lt_of_le (b1.rlt j hj) e3.size,fun i j hij hr=>?_⟩
    . obtain⟨cc,t,ff,y,z⟩:=e3.sealed i (b1.seal_ _ rfl i hs);exact⟨cc,t,ff,by rw[hu]; exact y,z⟩
    . rcases e3.fresh i j hij with x | ⟨_,x⟩
      . exact b1.ex i j x he
      . exact absurd (b1.elt j he) (Nat.not_lt.2 x)
    . rcases e3.fresh i j hij with x | ⟨_,x⟩
      . exact b1.ro' i j x hr
      . exact absurd (b1.rlt j hr) (Nat.not_lt.2 x)
   refine⟨Bb d1.1 (d1.2++base),v',Own E S s2,es',e5,?_,?_⟩
   . refine⟨fun j hj=>?_,fun j hj=>?_,fun j hj=>?_,e3.size,fun j hj hn=>?_,e3.os,e3.tape,e3.out,fun e he=>?_⟩
     . rcases hj with hj | ⟨i,hij,hs⟩
       . exact .inl hj
       . exact .inr ⟨i,e3.le i j hij,hs⟩
     . rcases hj with hj | ⟨i,hij,hs⟩
       . exact .inl (.inl hj)
       . rcases e3.fresh i j hij with x | ⟨_,x⟩
         . exact .inl (.inr ⟨i,x,hs⟩)
         . exact .inr x
     . rcases hj with hj | ⟨i,hij,hs⟩
       . exact Nat.lt_of_lt_of_le (b1.elt j hj) e3.size
       . exact e3.wr.lt hij
     . by_cases hx:∃ i,r i j
       . obtain⟨i,hij⟩:=hx;by_cases hs:S i
         . exact e3.still i j hij (b1.seal_ _ rfl i hs)
         . exact absurd (.inr ⟨i,hij,hs⟩) hn
       . exact e3.frame j hj fun i hij=>hx ⟨i,hij⟩
     . rcases e4 e (e6 e he) with rfl | ⟨h0,i,j,hij,hl,hw⟩
       . exact .inl rfl
       . refine .inr ⟨h0,j,hl,?_⟩;by_cases hs:S i
         . refine .inr ⟨b1.ro i j (old hij hs) hs,?_⟩;cases hwr:e.write with
           | false=>rfl
           | true=>exact absurd (b1.seal_ _ rfl i hs) (hw hwr)
         . exact .inl (.inr ⟨i,hij,hs⟩)
   . refine iht b2 t1 fun {r' s' c' d' w'} hle hbb hf hR hsz hE=>k (Rho.le_trans e3.le hle) hbb hf hR (Nat.le_trans hk.size (Nat.le_trans e3.size hsz)) fun j hj=>?_;rw[hE j hj];rcases hj with hj | hj
     . rw[e3.frame j (b1.elt j hj) fun i hij=>b1.ex i j hij hj,hk.keep j (.inr (.inl hj))]
     . rw[<- hk.keep j (.inl hj)];by_cases hx:∃ i,r i j
       . obtain⟨i,hij⟩:=hx;exact e3.still i j hij (b1.seal_ _ rfl i (b1.ro' i j hij hj))
       . exact e3.frame j (b1.rlt j hj) fun i hij=>hx ⟨i,hij⟩
theorem Beside.retodo{RO E S:Nat->Prop}{r:Rho}{fr fr':Frame}{m:Fh}{w:World}(h:Beside X gl RO E S r ((fr,[]),m) (fr',[]) w){T:List Item}(hT:∀ r,All2 (ItemR X gl r) T T):Beside X gl RO E S r (({ fr with todo:=T },[]),m) ({ fr' with todo:=T },[]) w:=by
 refine⟨h.ok,⟨?_,h.cfg.glob⟩,h.wr,h.seal_,h.gl_,h.gr_,h.ro,h.ex,h.elt,h.rlt,h.ro'⟩;have:=h.cfg.stack;cases this with
 | base h k=>exact .base ⟨h.fn,h.tmps,hT r,h.defers,h.mode,h.kind,h.kind',h.round,h.res⟩ k
theorem base_of{r:Rho}{fr:Frame}{c:BU}(h:CfgR X gl r (fr,[]) c):c.2=[]/\FrameR X gl r fr c.1:=by
 obtain⟨f,cs⟩:=c;have hs:=h.stack;clear h;cases hs with
 | base h1 k=>exact⟨rfl,h1⟩
theorem IB{r:Rho}{fr fr':Frame}(h:FrameR X gl r fr fr')(e:fr.todo=[A4]):fr'.todo=[A4]:=by
 have:=h.todo;rw[e] at this;generalize fr'.todo=t at this;cases this with
 | cons h1 h2 =>
  cases h2
  cases h1
  rfl
theorem MustA.good(lw:Lawful X)(cl:CodeLaws X gl){Q:BU × Fh->Prop}{s:BU × Fh}(h:MustA (IX X) Q s):El X gl s->MustA (IX X) (fun s=>Q s/\El X gl s) s:=by
 induction h with
 | fin h=>intro hg; exact .fin ⟨h,hg⟩
 | @step s f n h _ ih=>intro hg; exact .step f n h fun t=>ih t (Nj lw cl s hg t _ _ (h t)).1
end
abbrev F(f:FuncId)(T:Array Value)(k:List Item)(kd:CallKind:=.normal):Frame:={ fn:=f,tmps:=T,todo:=k,defers:=[],mode:=.run,kind:=kd,roundOf:=none }
structure Pair(X:Ctx)(gl:Nat->Prop)(RO E S:Nat->Prop)(q r:Rho)(m:Fh)(w:World):Prop where
 qok:X.Ok q
 qwr:∀ u:World,u.heap=m.1->WR X q u u
 qgl:∀ n,gl n->q n n
 ok:X.Ok r
 wr:∀ u:World,u.heap=m.1->WR X r u w
 glob:∀ n,gl n->r n n
 seal_:∀ u:World,u.heap=m.1->∀ i,S i->Dj u i
 gl_:X.G<=m.1.size
 gr_:X.G<=w.heap.size
 ro:∀ i j,r i j->S i->RO j
 ex:∀ i j,r i j->¬ E j
 elt:∀ j,E j->j<w.heap.size
 rlt:∀ j,RO j->j<w.heap.size
 ro':∀ i j,r i j->RO j->S i
section
variable {X:Ctx} {gl:Nat->Prop} {mn:Bool} {RO E S:Nat->Prop} {Stop:(Nat->Prop)->Goroutine->World->Prop} {q r:Rho} {m:Fh} {w:World}
def GoodQ(X:Ctx)(gl:Nat->Prop)(q0:Rho)(s:BU × Fh):Prop:=∃ q,q0.le q/\X.Ok q/\CfgR X gl q s.1 s.1/\(∀ w:World,w.heap=s.2.1->WR X q w w)/\X.G<=s.2.1.size
theorem GoodQ.good{q0:Rho}{s:BU × Fh}(h:GoodQ X gl q0 s):El X gl s:=by
 obtain⟨q,_,a,b,c,d⟩:=h;exact⟨q,a,b,c,d⟩
theorem Mm(lw:Lawful X)(cl:CodeLaws X gl){q0:Rho}{s s':BU × Fh}{t:Nat->Question->Nat}{n:Nat}(h:GoodQ X gl q0 s)(hr:IX X s t=some (s',n)):GoodQ X gl q0 s':=by
 obtain⟨c,m⟩:=s;obtain⟨q,hle,ok,hc,hw,g⟩:=h;unfold IX at hr;dsimp only at hr;cases hrun:(stS X.P c.1 c.2).run X.P (EB m t) with
 | halt a b=>rw[hrun] at hr; cases hr
 | ok c' v =>
  rw[hrun] at hr;simp only[Option.some.injEq,Prod.mk.injEq] at hr;obtain⟨rfl,rfl⟩:=hr;have wr:=hw (EB m t) rfl;obtain⟨s2,a',v',ev,e1,e2,e3,_⟩:=(Mi lw cl ok hc).run ok g g wr (Same.refl _) hrun;have e4:=e1 #[];obtain⟨es,e5⟩:=Bo hrun;rw[e5] at e4;simp only[Prod.mk.injEq,Result.ok.injEq] at e4;obtain⟨⟨rfl,rfl⟩,_⟩:=e4;exact⟨s2,Rho.le_trans hle e3.le,e3.ok,e2,fun u hu=>e3.wr.twin hu hu,Nat.le_trans g e3.sizel⟩
theorem MustA.goodQ(lw:Lawful X)(cl:CodeLaws X gl){q0:Rho}{Q:BU × Fh->Prop}{s:BU × Fh}(h:MustA (IX X) Q s):GoodQ X gl q0 s->MustA (IX X) (fun s=>Q s/\GoodQ X gl q0 s) s:=by
 induction h with
 | fin h=>intro hg; exact .fin ⟨h,hg⟩
 | @step s f n h _ ih=>intro hg; exact .step f n h fun t=>ih t (Mm lw cl hg (h t))
theorem Jv{s:Rho}{f:FuncId}{T T':Array Value}(hf:X.L.h f)(h:ArrR X.L s T T'){k:List Item}(hk:All2 (ItemR X gl s) k k):FrameR X gl s (F f T k) (F f T' k):=⟨rfl,h,hk,.nil,.run,rfl,rfl,.none,hf⟩
theorem Pair.goodQ(p:Pair X gl RO E S q r m w){f:FuncId}{T:Array Value}(hf:X.L.h f)(h:ArrR X.L q T T){k:List Item}(hk:∀ s,All2 (ItemR X gl s) k k):GoodQ X gl q ((F f T k,[]),m) :=
 ⟨q,Rho.le_refl q,p.qok,⟨.base (Jv hf h (hk q)) rfl,p.qgl⟩,p.qwr,p.gl_⟩
theorem Pair.beside(p:Pair X gl RO E S q r m w){f:FuncId}{T T':Array Value}(hf:X.L.h f)(h:ArrR X.L r T T'){k:List Item}(hk:∀ s,All2 (ItemR X gl s) k k):Beside X gl RO E S r ((F f T k,[]),m) (F f T' k,[]) w :=
 ⟨p.ok,⟨.base (Jv hf h (hk r)) rfl,p.glob⟩,p.wr,p.seal_,p.gl_,p.gr_,p.ro,p.ex,p.elt,p.rlt,p.ro'⟩
theorem Pair.keep(p:Pair X gl RO E S q r m w){w1:World}(k:Kp RO (Own E S r) w w1):Pair X gl RO E S q r m w1:=by
 refine⟨p.qok,p.qwr,p.qgl,p.ok,fun u hu i j hij=>?_,p.glob,p.seal_,p.gl_,Nat.le_trans p.gr_ k.size,p.ro,p.ex,fun j hj=>Nat.lt_of_lt_of_le (p.elt j hj) k.size,fun j hj=>Nat.lt_of_lt_of_le (p.rlt j hj) k.size,p.ro'⟩;obtain⟨o,o',h1,h2,h3⟩:=p.wr u hu i j hij;refine⟨o,o',h1,?_,h3⟩;rw[k.keep j ?_]
 . exact h2
 . by_cases hs:S i
   . exact .inl (p.ro i j hij hs)
   . exact .inr (.inr ⟨i,hij,hs⟩)
theorem Pair.own_lt(p:Pair X gl RO E S q r m w):∀ j,Own E S r j->j<w.heap.size:=by
 rintro j (h | ⟨i,hij,_⟩)
 . exact p.elt j h
 . exact(p.wr { heap:=m.1,tape:=fun _ _=>0,drawn:=0,os:=default,output:=#[] } rfl).lt hij
theorem Pair.of{f:FuncId}{T T':Array Value}{k:List Item}(hb:Beside X gl RO E S r ((F f T k,[]),m) (F f T' k,[]) w){q0:Rho}(hg:GoodQ X gl q0 ((F f T k,[]),m)):∃ q,q0.le q/\Pair X gl RO E S q r m w/\ArrR X.L q T T/\ArrR X.L r T T':=by
 obtain⟨q,hle,a,b,c,d⟩:=hg;exact⟨q,hle,⟨a,c,b.glob,hb.ok,hb.wr,hb.cfg.glob,hb.seal_,hb.gl_,hb.gr_,hb.ro,hb.ex,hb.elt,hb.rlt,hb.ro'⟩,b.stack.head.tmps,hb.cfg.stack.head.tmps⟩
theorem IC{s:Rho}{f:FuncId}{T:Array Value}{k:List Item}{fr:Frame}(h:FrameR X gl s (F f T k) fr):∃ k',fr=F f fr.tmps k'/\fr.todo=k':=by
 obtain⟨fn,tmps,todo,defers,mode,kind,roundOf⟩:=fr;obtain⟨h1,h2,h3,h4,h5,h6,h7,h8,h9⟩:=h;dsimp only at h1 h2 h3 h4 h5 h6 h7 h8 h9;cases h4; cases h5; cases h8
 subst h1 h7;exact⟨todo,rfl,rfl⟩
theorem ID{A:Code}(hs:X.C (.refuse ""))(hA:X.C A)(s:Rho):All2 (ItemR X gl s) [.code A,A4] [.code A,A4]:=.cons (.code hA) (.cons (.code hs) .nil)
theorem Qf(hs:X.C (.refuse ""))(s:Rho):All2 (ItemR X gl s) [A4] [A4]:=.cons (.code hs) .nil
def Goes1(X:Ctx)(gl:Nat->Prop)(mn:Bool)(RO E S:Nat->Prop)(q r:Rho)(w:World)(Stop:(Nat->Prop)->Goroutine->World->Prop)(Q:Array Value->World->Prop)(k:Array Value->Goroutine):Prop :=
 ∀(q' r':Rho) (T2 T2':Array Value) (w2 w':World),q.le q'->r.le r'->Q T2 w2->Pair X gl RO E S q' r' (BE w2) w'->ArrR X.L q' T2 T2->ArrR X.L r' T2 T2'->w.heap.size<=w'.heap.size->(∀ j,E j\/RO j->w'.heap[j]?=w.heap[j]?)->Co X.P mn RO Stop (Own E S r') (k T2') w'
theorem Mn{s:Rho}{f:FuncId}{T:Array Value}{k:List Item}{fr:Frame}(h:FrameR X gl s { F f T k with mode:=.returning } fr):∃ k',fr={ F f fr.tmps k' with mode:=.returning }/\fr.todo=k'/\ArrR X.L s T fr.tmps:=by
 obtain⟨fn,tmps,todo,defers,mode,kind,roundOf⟩:=fr;obtain⟨h1,h2,h3,h4,h5,h6,h7,h8,h9⟩:=h;dsimp only at h1 h2 h3 h4 h5 h6 h7 h8 h9;cases h4; cases h5; cases h8
 subst h1 h7;exact⟨todo,rfl,rfl,h2⟩
theorem Pair.ofb{f:FuncId}{T T':Array Value}{k k':List Item}(hb:Beside X gl RO E S r (({ F f T k with mode:=.returning },[]),m) ({ F f T' k' with mode:=.returning },[]) w){q0:Rho}(hg:GoodQ X gl q0 (({ F f T k with mode:=.returning },[]),m)):∃ q,q0.le q/\Pair X gl RO E S q r m w/\ArrR X.L q T T/\ArrR X.L r T T':=by
 obtain⟨q,hle,a,b,c,d⟩:=hg;exact⟨q,hle,⟨a,c,b.glob,hb.ok,hb.wr,hb.cfg.glob,hb.seal_,hb.gl_,hb.gr_,hb.ro,hb.ex,hb.elt,hb.rlt,hb.ro'⟩,b.stack.head.tmps,hb.cfg.stack.head.tmps⟩
theorem Pair.wp2(lw:Lawful X)(cl:CodeLaws X gl)(hs:X.C (.refuse ""))(p:Pair X gl RO E S q r m w){f:FuncId}{T T':Array Value}{A:Code}{KK:List Item}{base:List Frame}{Q R:Array Value->World->Prop}
 {kd:CallKind} (hk:kd≠.early) (hf:X.L.h f) (h1:ArrR X.L q T T) (h2:ArrR X.L r T T') (hA:X.C A) (h:∀ t,A.wp X.P (fun e a w=>a.defers=[]/\(e=.normal/\Q a.tmps w\/e=.ret/\R a.tmps w)) ⟨T,[]⟩ (EB m t))
 (kn:Goes1 X gl mn RO E S q r w Stop Q fun T'=>Bb (F f T' KK kd) base) (kr:∀ k,Goes1 X gl mn RO E S q r w Stop R fun T'=>Bb { F f T' k kd with mode:=.returning } base):Co X.P mn RO Stop (Own E S r) (Bb (F f T' (.code A::KK) kd) base) w:=by
 have hg:=p.goodQ hf h1 (fun s=>ID (gl:=gl) hs hA s);have hb:=p.beside hf h2 (fun s=>ID (gl:=gl) hs hA s);refine IA lw cl (Rel:=TailG (RQ KK kd) (RS KK kd)) (Ux KK hk) (fun _ _ h=>h) (fun h=>h.elim) (MustA.goodQ lw cl (RZ lw cl (b:=F f T []) (a:=⟨T,[]⟩) hg.good (fun e a w h=>h.2.imp And.left And.left) h) hg) (d:=(F f T' (.code A::KK) kd,[])) hb (.bot ⟨[.code A],rfl,rfl⟩) ?_;intro r' s' c' d' w' hle hbb hF hR hsz hk;obtain⟨hF,hG⟩:=hF;cases hF with
 | @ret a' w2 todo hq =>
  obtain⟨hdf,⟨x,_⟩ | ⟨_,hQ⟩⟩:=hq
  . cases x
  obtain⟨T2,df⟩:=a';dsimp only at hdf;subst hdf;obtain⟨e1,e2⟩:=base_of hbb.cfg;cases hR with
  | top h=>dsimp only at e1; subst e1; cases h
  | @bot fr2 dd hA2 =>
   obtain⟨k',e3,e4,_⟩:=Mn (f:=f) (T:=T2) (k:=todo) e2;obtain⟨T3,hT,rfl⟩:=hA2;dsimp only at e3;generalize fr2.tmps=U at e3;subst e3;obtain⟨q',hle',pp,t1,t2⟩:=Pair.ofb (f:=f) (k:=todo) (k':=k') hbb hG;exact kr _ q' r' T2 U w2 w' hle' hle hQ pp t1 t2 hsz hk
 | @normal a' w2 hq =>
  obtain⟨hdf,⟨_,hQ⟩ | ⟨x,_⟩⟩:=hq;rotate_left
  . cases x
  obtain⟨T2,df⟩:=a';dsimp only at hdf;subst hdf;obtain⟨e1,e2⟩:=base_of hbb.cfg;cases hR with
  | top h=>dsimp only at e1; subst e1; cases h
  | @bot fr2 dd hA2 =>
   obtain⟨k',e3,e4⟩:=IC (f:=f) (T:=T2) (k:=[A4]) e2;have e5:=IB e2 rfl;rw[e5] at e4;subst e4;obtain⟨T3,hT,rfl⟩:=hA2;rw[e5] at hT;have:T3=[]:=Lu (U:=[]) hT.symm;subst this;dsimp only at e3;rw[e3] at hbb ⊢;obtain⟨q',hle',pp,t1,t2⟩:=Pair.of (f:=f) (k:=[A4]) hbb hG;exact kn q' r' T2 _ w2 w' hle' hle hQ pp t1 t2 hsz hk
theorem Pair.wp(lw:Lawful X)(cl:CodeLaws X gl)(hs:X.C (.refuse ""))(p:Pair X gl RO E S q r m w){f:FuncId}{T T':Array Value}{A:Code}{KK:List Item}{base:List Frame}{Q:Array Value->World->Prop}
 {kd:CallKind} (hk:kd≠.early) (hf:X.L.h f) (h1:ArrR X.L q T T) (h2:ArrR X.L r T T') (hA:X.C A) (h:∀ t,A.wp X.P (fun e a w=>e=.normal/\a.defers=[]/\Q a.tmps w) ⟨T,[]⟩ (EB m t))
 (kn:Goes1 X gl mn RO E S q r w Stop Q fun T'=>Bb (F f T' KK kd) base):Co X.P mn RO Stop (Own E S r) (Bb (F f T' (.code A::KK) kd) base) w :=
 p.wp2 lw cl hs hk hf h1 h2 hA (R:=fun _ _=>False) (fun t=>wp_mono (h t) fun e a w x=>⟨x.2.1,.inl ⟨x.1,x.2.2⟩⟩) kn fun _ _ _ _ _ _ _ _ _ x=>x.elim
theorem Pair.ops(lw:Lawful X)(cl:CodeLaws X gl)(hs:X.C (.refuse ""))(p:Pair X gl RO E S q r m w){f:FuncId}{T T':Array Value}{ops:Array Oper}{l1 l2:List Nat}{KK:List Item}{base:List Frame}{Q:Array Value->World->Prop}
 {kd:CallKind} (hk:kd≠.early) (hf:X.L.h f) (h1:ArrR X.L q T T) (h2:ArrR X.L r T T') (hA:∀ i∈l1,∀ o,ops[i]?=some o->OpOk X gl o.op) (h:∀ t,wpOps X.P ops (fun e a w=>e=.normal/\a.defers=[]/\Q a.tmps w) l1 ⟨T,[]⟩ (EB m t))
 (kn:Goes1 X gl mn RO E S q r w Stop Q fun T'=>Bb (F f T' (.inRegion ops l2::KK) kd) base):Co X.P mn RO Stop (Own E S r) (Bb (F f T' (.inRegion ops (l1++l2)::KK) kd) base) w:=by
 have it:∀ s,All2 (ItemR X gl s) [.inRegion ops l1,A4] [.inRegion ops l1,A4]:=fun s=>.cons (.inRegion _ hA) (.cons (.code hs) .nil);have hg:=p.goodQ hf h1 it;have hb:=p.beside hf h2 it;have hm:=MustA.goodQ lw cl (Qe lw cl (b:=F f T []) (a:=⟨T,[]⟩) (Q:=fun a w=>a.defers=[]/\Q a.tmps w) hg.good (fun t=>h t)) hg;refine IA lw cl (Rel:=fun c d=>c.2=[]/\d=({ c.1 with todo:=.inRegion ops l2::KK,kind:=kd },[])) (Tn KK hk ops l2) ?_ ?_ hm (d:=(F f T' (.inRegion ops (l1++l2)::KK) kd,[])) hb (.bot ⟨l1,rfl,rfl⟩) ?_
 . rintro r1 s c d w1 ⟨⟨a',w',rfl,_⟩,_⟩ hbb hT;obtain⟨e1,e2⟩:=base_of hbb.cfg;have e3:=IB e2 rfl;cases hT with
   | top h=>dsimp only at e1; subst e1; cases h
   | @bot fr dd hA =>
    obtain⟨l,hT,_⟩:=hA;dsimp only at e3;rw[hT] at e3;simp at e3
 . intro r1 s c d w1 hc hbb hT hch k1;obtain⟨h1,h2,ops',h3⟩:=hc;obtain⟨⟨⟨fn,tmps,todo,defers,mode,kind,roundOf⟩,inner⟩,m1⟩:=s;obtain⟨cf,ci⟩:=c;dsimp only at h1 h2 h3;subst h1;have hin:inner=[]:=by
    rcases Dz hbb.cfg.stack with⟨x,_,_⟩ | ⟨_,_,_,_,_,x,_⟩;exact x
   subst hin;obtain⟨_,hfr⟩:=base_of hbb.cfg;have ht0:todo=[.inRegion ops' [],A4]:=by
    have:=hfr.todo;dsimp only at this;rw[h3] at this;cases this with
    | cons h1 h2 =>
     cases h1
     cases h2 with
     | cons h3 h4=>cases h3; cases h4; rfl
   have hmd:mode=.run:=by
    have:=hfr.mode;dsimp only at this;rw[h2] at this;cases this; rfl
   subst ht0 hmd;cases hT with
   | top h=>cases h
   | @bot fr dd hA =>
    obtain⟨l,hl,rfl⟩:=hA;rw[h3] at hl;simp only[List.cons.injEq,Item.inRegion.injEq,and_true] at hl;obtain⟨rfl,rfl⟩:=hl;obtain⟨s',n,hs',hM⟩:=hch fun _ _=>0;unfold IX at hs';have e:(stS X.P { fn:=fn,tmps:=tmps,todo:=[.inRegion ops' [],A4],defers:=defers,mode:=.run,kind:=kind,roundOf:=roundOf } []).run X.P (EB m1 fun _ _=>0)=.ok ({ fn:=fn,tmps:=tmps,todo:=[A4],defers:=defers,mode:=.run,kind:=kind,roundOf:=roundOf },[]) (EB m1 fun _ _=>0):=rfl;dsimp only at hs';rw[e] at hs';simp only[Option.some.injEq,Prod.mk.injEq] at hs';obtain⟨rfl,_⟩:=hs'
    have hQ:UA (F f T []) (fun a w=>a.defers=[]/\Q a.tmps w) (({ fn:=fn,tmps:=tmps,todo:=[A4],defers:=defers,mode:=.run,kind:=kind,roundOf:=roundOf },[]),BE (EB m1 fun _ _=>0))/\GoodQ X gl q (({ fn:=fn,tmps:=tmps,todo:=[A4],defers:=defers,mode:=.run,kind:=kind,roundOf:=roundOf },[]),BE (EB m1 fun _ _=>0)):=by
     cases hM with
     | fin h=>exact h
     | @step _ f n' h _ =>
      exfalso
      have:=h fun _ _=>0;unfold IX at this;have e2:(stS X.P { fn:=fn,tmps:=tmps,todo:=[A4],defers:=defers,mode:=.run,kind:=kind,roundOf:=roundOf } []).run X.P (EB (BE (EB m1 fun _ _=>0)) fun _ _=>0)=.halt (.stuck "") (EB (BE (EB m1 fun _ _=>0)) fun _ _=>0):=rfl;dsimp only at this;rw[e2] at this;cases this
    have hb2:=hbb.retodo (T:=[A4]) (Qf hs);exact k1 (Rho.le_refl r1) hb2 hQ ⟨rfl,rfl⟩ (Nat.le_refl _) fun _ _=>rfl
 . intro r' s' c' d' w' hle hbb hF hR hsz hk;obtain⟨⟨a',w2,rfl,hdf,hQ⟩,hG⟩:=hF;obtain⟨T2,df⟩:=a';dsimp only at hdf;subst hdf;obtain⟨hR1,rfl⟩:=hR;obtain⟨e1,e2⟩:=base_of hbb.cfg;obtain⟨k',e3,e4⟩:=IC (f:=f) (T:=T2) (k:=[A4]) e2;have e5:=IB e2 rfl;rw[e5] at e4;subst e4;obtain⟨cf,ci⟩:=c';dsimp only at hR1 e3;subst hR1;rw[e3] at hbb ⊢;obtain⟨q',hle',pp,t1,t2⟩:=Pair.of (f:=f) (k:=[A4]) hbb hG;exact kn q' r' T2 _ w2 w' hle' hle hQ pp t1 t2 hsz hk
end
open Go.Conc
section
variable {P:Program} {mn:Bool} {RO O:Nat->Prop} {Stop:(Nat->Prop)->Goroutine->World->Prop} {K:Goroutine->World->Prop} {w:World}
theorem Mo{B:Nat}{e:Event}(h:EvO RO O e)(hO:∀ j,O j->j<B)(hR:∀ j,RO j->j<B):EvL (fun _=>False) B e:=by
 rcases h with rfl | ⟨h0,j,hl,hj⟩
 . exact⟨fun _ _ x=>x.elim,by simp,by simp,trivial⟩
 . have hj':j<B:=hj.elim (hO j) fun x=>hR j x.1;refine⟨fun _ _ x=>x.elim,?_,?_,?_⟩
   . rcases hl with⟨a,h1,_⟩ | h1<;>rw[h1]<;>simp
   . rcases hl with⟨a,h1,_⟩ | h1<;>rw[h1]<;>simp
   . obtain⟨loc,wr,sy⟩:=e;dsimp only at h0 hl;subst h0;rcases hl with⟨a,rfl,rfl⟩ | rfl
     . exact hj'
     . have:MemAct.ofEvent ⟨.obj j,wr,false⟩=.access ⟨.obj j,wr,false⟩:=by cases wr<;>rfl
       rw[this]; exact hj'
structure Alike(W w:World):Prop where
 os:w.os=W.os
 tape:w.tape=W.tape
 out:w.output=W.output
theorem Alike.refl(w:World):Alike w w:=⟨rfl,rfl,rfl⟩
theorem Alike.trans{a b c:World}(h:Alike a b)(k:Alike b c):Alike a c:=⟨k.os.trans h.os,k.tape.trans h.tape,k.out.trans h.out⟩
def Dq(P:Program)(W:World)(K:Goroutine->World->Prop):(Nat->Prop)->Goroutine->World->Prop:=fun _ g w=>Alike W w->Way P K g w
theorem Way.of_co{W:World}{a:Goroutine}(h:Co P true RO (Dq P W K) O a w):Alike W w->(∀ j,RO j->j<w.heap.size)->Way P K a w:=by
 induction h with
 | stop h=>intro a _; exact h _ (Kp.refl _) a
 | @step O g w hr ng nw nO es h k ih =>
  intro al hro;refine Way.step hr fun d=>?_;obtain⟨h1,h2⟩:=h (w.at d) (Kp.at_ w d);have hro':∀ j,RO j->j<(nw (w.at d)).heap.size:=fun j hj=>Nat.lt_of_lt_of_le (hro j hj) h2.size;exact⟨_,_,_,h1,fun e he=>Mo (h2.ev e he) h2.lt hro',h2.size,ih (w.at d) (Kp.at_ w d) (al.trans ⟨h2.os,h2.tape,h2.out⟩) hro'⟩
theorem Co.ctl{g g':Goroutine}(hr:g.status=.running)(hlt:∀ j,O j->j<w.heap.size)(h:∀ w1,stepG P mn g w1=.go g' w1 #[])(k:Co P mn RO Stop O g' w):Co P mn RO Stop O g w :=
 .one hr fun w1 hk=>⟨g',w1,O,#[],h w1,⟨fun _ h=>h,fun _ h=>.inl h,fun j hj=>Nat.lt_of_lt_of_le (hlt j hj) hk.size,Nat.le_refl _,fun _ _ _=>rfl,rfl,rfl,rfl,by simp⟩,k.rely hk⟩
section
variable {f:FuncId} {T:Array Value} {k k':List Item} {cs:List Frame} {kd:CallKind}
theorem AF{x y:Code}:stepG P mn (Bb (F f T (.code (.seq x y)::k) kd) cs) w=.go (Bb (F f T (.code x::.code y::k) kd) cs) w #[]:=by simp[stepG,stepG.exec]
theorem Kk:stepG P mn (Bb (F f T (.code .skip::k) kd) cs) w=.go (Bb (F f T k kd) cs) w #[]:=by simp[stepG,stepG.exec]
theorem EH{c:Operand}{x y:Code}{t:Bool}(h:(⟨T,[]⟩:Act).eval c=.bool t):stepG P mn (Bb (F f T (.code (.cond c x y)::k) kd) cs) w=.go (Bb (F f T (.code (if t then x else y)::k) kd) cs) w #[]:=by
 have h':(F f T (.code (.cond c x y)::k) kd).eval c=.bool t:=h▸Frame.eval_at (F f T [] kd) ⟨T,[]⟩ _ c;simp[stepG,stepG.exec,h']
theorem F2{id:Nat}{c:Code}:stepG P mn (Bb (F f T (.code (.block id c)::k) kd) cs) w=.go (Bb (F f T (.code c::.inBlock id::k) kd) cs) w #[]:=by simp[stepG,stepG.exec]
theorem Jw{id:Nat}:stepG P mn (Bb (F f T (.inBlock id::k) kd) cs) w=.go (Bb (F f T k kd) cs) w #[]:=by simp[stepG,stepG.exec]
theorem Mp{c:Code}:stepG P mn (Bb (F f T (.code (.loop c)::k) kd) cs) w=.go (Bb (F f T (.code c::.inLoop c::k) kd) cs) w #[]:=by simp[stepG,stepG.exec]
theorem Lw{c:Code}:stepG P mn (Bb (F f T (.inLoop c::k) kd) cs) w=.go (Bb (F f T (.code c::.inLoop c::k) kd) cs) w #[]:=by simp[stepG,stepG.exec]
theorem Qg{id:Nat}(h:exitTo id k=some k'):stepG P mn (Bb (F f T (.code (.exit id)::k) kd) cs) w=.go (Bb (F f T k' kd) cs) w #[]:=by simp[stepG,stepG.exec,h]
theorem Ba{id:Nat}{ops:Array Oper}:stepG P mn (Bb (F f T (.code (.region id ops false)::k) kd) cs) w=.go (Bb (F f T (.inRegion ops (List.range ops.size)::k) kd) cs) w #[]:=by simp[stepG,stepG.exec]
theorem BG{ops:Array Oper}:stepG P mn (Bb (F f T (.inRegion ops []::k) kd) cs) w=.go (Bb (F f T k kd) cs) w #[]:=by simp[stepG,stepG.exec]
theorem UC:stepG P mn (Bb (F f T [] kd) cs) w=.go (Bb { F f T [] kd with mode:=.returning } cs) w #[]:=by simp[stepG,stepG.exec]
theorem Jy:stepG P mn (Bb (F f T (.code .ret::k) kd) cs) w=.go (Bb { F f T (.code .ret::k) kd with mode:=.returning } cs) w #[]:=by simp[stepG,stepG.exec]
theorem OH{ev:Operand->Value}{o:Oper}{g:FuncId}{fn:Func}{c:Code}{xs:Array Operand}{ts:Array TypeId}(hop:o.op=.call { callee:=.value (.func g),args:=xs,argTypes:=ts })(he:ev (.func g)=.func (.func g) #[] #[])
 (hf:P.funcs[g]?=some fn) (hn:(fn.name == "runtime.NumGoroutine")=false) (hb:fn.body=some c) (es:Array Event):(execOp ev o).runT P w es=(.ok (.enter g (xs.map ev)) w,es):=by
 unfold execOp;rw[hop];have e:(do let d <- resolve ev { callee:=.value (.func g),args:=xs,argTypes:=ts } o.type; invoke d.target d.args:Sem Next)=callFunc g (xs.map ev):=by
  simp only[resolve,Deferred.ofValue,he]
  show callFunc g (#[]++xs.map ev++#[])=_
  simp
 refine(congrArg (fun s=>Sem.runT P s w es) e).trans ?_
 show Sem.runT P (match P.funcs[g]? with
  | none=>_
  | some fn=>_) w es=_
 rw[hf];simp only[hn,hb];rfl
theorem Kl{ops:Array Oper}{i:Nat}{l:List Nat}{o:Oper}{g:FuncId}{fn:Func}{c:Code}{xs:Array Operand}{ts:Array TypeId}(ho:ops[i]?=some o)(hw:Region.wanted o (yielded ops T)=true)(hop:o.op=.call { callee:=.value (.func g),args:=xs,argTypes:=ts })
 (hf:P.funcs[g]?=some fn) (hn:(fn.name == "runtime.NumGoroutine")=false) (hb:fn.body=some c) :
 stepG P mn (Bb (F f T (.inRegion ops (i::l)::k) kd) cs) w=.go (Bb (Frame.enter P g (xs.map (⟨T,[]⟩:Act).eval) .normal) (F f T (.inRegion ops (i::l)::k) kd::cs)) w #[]:=by
 have he:(F f T (.inRegion ops (i::l)::k) kd).eval=(⟨T,[]⟩:Act).eval:=funext (Frame.eval_at (F f T [] kd) ⟨T,[]⟩ _);simp only[stepG,stepG.exec,stepG.oper,Frame.oper?,ho,hw,Option.map_some,Option.getD_some,if_true,stepG.apply];rw[he,OH hop rfl hf hn hb];cases kd<;>rfl
theorem Qh{ops:Array Oper}{i:Nat}{l:List Nat}{o:Oper}{g:FuncId}{fn:Func}{c:Code}{xs:Array Operand}{ts:Array TypeId}(ho:ops[i]?=some o)(hg:o.guard=none)(hop:o.op=.call { callee:=.value (.func g),args:=xs,argTypes:=ts })
 (hf:P.funcs[g]?=some fn) (hn:(fn.name == "runtime.NumGoroutine")=false) (hb:fn.body=some c) :
 stepG P mn (Bb (F f T (.inRegion ops (i::l)::k) kd) cs) w=.go (Bb (Frame.enter P g (xs.map (⟨T,[]⟩:Act).eval) .normal) (F f T (.inRegion ops (i::l)::k) kd::cs)) w #[]:=Kl ho (by simp[Region.wanted,hg]) hop hf hn hb
end
end
open Go.Conc
section
variable {X:Ctx} {gl:Nat->Prop} {mn:Bool} {RO E S:Nat->Prop} {Stop:(Nat->Prop)->Goroutine->World->Prop} {q r:Rho} {m:Fh} {w:World}
theorem Qi{r':Rho}{w v':World}(le:∀ i j,r i j->r' i j)(fresh:∀ i j,r' i j->r i j\/w.heap.size<=j):(∀ j,Own E S r j->Own E S r' j)/\(∀ j,Own E S r' j->Own E S r j\/w.heap.size<=j):=by
 refine⟨fun j hj=>?_,fun j hj=>?_⟩
 . rcases hj with hj | ⟨i,hij,hs⟩
   . exact .inl hj
   . exact .inr ⟨i,le i j hij,hs⟩
 . rcases hj with hj | ⟨i,hij,hs⟩
   . exact .inl (.inl hj)
   . exact(fresh i j hij).imp (fun x=>.inr ⟨i,x,hs⟩) id
theorem Pair.sem(p:Pair X gl RO E S q r m w){α:Type}{R:Rho->α->α->Prop}{x x':Sem α}(hx:SemR X R r x x'){t:Nat->Question->Nat}(ht:∀ i,t i=w.tape (w.drawn+i)){a:α}{v:World}(hrun:x.run X.P (EB m t)=.ok a v) :
 ∃ r' a' w' ev,(∀ es,x'.runT X.P w es=(.ok a' w',es++ev))/\R r' a a'/\r.le r'/\w.heap.size<=w'.heap.size/\(∀ j,E j\/RO j->w'.heap[j]?=w.heap[j]?) /\
  (∀ q',X.Ok q'->(∀ u:World,u.heap=v.heap->WR X q' u u)->(∀ n,gl n->q' n n)->Pair X gl RO E S q' r' (BE v) w')/\∀ es',(∀ e∈es',e∈ev)->Gu RO (Own E S r) (Own E S r') w w' es':=by
 have hsame:Same (EB m t) w:=fun i qq=>by
  show t (0+i) qq=w.tape (w.drawn+i) qq
  rw[Nat.zero_add,ht]
 obtain⟨s2,a',v',ev,e1,e2,e3,e4⟩:=hx.run p.ok p.gl_ p.gr_ (p.wr (EB m t) rfl) hsame hrun;have old:∀{i j:Nat},s2 i j->S i->r i j:=by
  intro i j hij hs;rcases e3.fresh i j hij with x | ⟨x,_⟩
  . exact x
  . obtain⟨cc,tt,ff,y,_⟩:=p.seal_ (EB m t) rfl i hs;exact absurd (Array.getElem?_eq_some_iff.1 y).1 (Nat.not_lt.2 x)
 have hE:∀ j,E j\/RO j->v'.heap[j]?=w.heap[j]?:=by
  intro j hj;rcases hj with hj | hj
  . exact e3.frame j (p.elt j hj) fun i hij=>p.ex i j hij hj
  . by_cases hx:∃ i,r i j
    . obtain⟨i,hij⟩:=hx;exact e3.still i j hij (p.seal_ _ rfl i (p.ro' i j hij hj))
    . exact e3.frame j (p.rlt j hj) fun i hij=>hx ⟨i,hij⟩
 obtain⟨g1,g2⟩:=Qi (E:=E) (S:=S) (r:=r) (r':=s2) (w:=w) (v':=v') (fun i j h=>e3.le i j h) (fun i j h=>(e3.fresh i j h).imp id fun x=>x.2);refine⟨s2,a',v',ev,e1,e2,e3.le,e3.size,hE,fun q' hq1 hq2 hq3=>?_,fun es' hes=>?_⟩
 . refine⟨hq1,hq2,hq3,e3.ok,fun u hu=>e3.wr.twin hu rfl,fun n hn=>e3.le _ _ (p.glob n hn),fun u hu i hs=>?_,Nat.le_trans p.gl_ e3.sizel,Nat.le_trans p.gr_ e3.size,fun i j hij hs=>p.ro i j (old hij hs) hs,fun i j hij he=>?_,fun j hj=>Nat.lt_of_lt_of_le (p.elt j hj) e3.size,fun j hj=>Nat.lt_of_lt_of_le (p.rlt j hj) e3.size,fun i j hij hr=>?_⟩
   . obtain⟨cc,tt,ff,y,z⟩:=e3.sealed i (p.seal_ _ rfl i hs);exact⟨cc,tt,ff,by rw[hu]; exact y,z⟩
   . rcases e3.fresh i j hij with x | ⟨_,x⟩
     . exact p.ex i j x he
     . exact absurd (p.elt j he) (Nat.not_lt.2 x)
   . rcases e3.fresh i j hij with x | ⟨_,x⟩
     . exact p.ro' i j x hr
     . exact absurd (p.rlt j hr) (Nat.not_lt.2 x)
 . refine⟨g1,g2,fun j hj=>?_,e3.size,fun j hj hn=>?_,e3.os,e3.tape,e3.out,fun e he=>?_⟩
   . rcases hj with hj | ⟨i,hij,hs⟩
     . exact Nat.lt_of_lt_of_le (p.elt j hj) e3.size
     . exact e3.wr.lt hij
   . by_cases hx:∃ i,r i j
     . obtain⟨i,hij⟩:=hx;by_cases hs:S i
       . exact e3.still i j hij (p.seal_ _ rfl i hs)
       . exact absurd (.inr ⟨i,hij,hs⟩) hn
     . exact e3.frame j hj fun i hij=>hx ⟨i,hij⟩
   . rcases e4 e (hes e he) with rfl | ⟨h0,i,j,hij,hl,hw⟩
     . exact .inl rfl
     . refine .inr ⟨h0,j,hl,?_⟩;by_cases hs:S i
       . refine .inr ⟨p.ro i j (old hij hs) hs,?_⟩;cases hwr:e.write with
         | false=>rfl
         | true=>exact absurd (p.seal_ _ rfl i hs) (hw hwr)
       . exact .inl (.inr ⟨i,hij,hs⟩)
theorem Pair.back(p:Pair X gl RO E S q r m w){f:FuncId}{fn:Func}{T T':Array Value}{k:List Item}{c0:Frame}{cs:List Frame}{v:Value}{t0:Nat->Question->Nat}(h1:ArrR X.L q T T)(h2:ArrR X.L r T T')(hfn:X.P.funcs[f]?=some fn)
 (hv:∀ t,(results fn T).run X.P (EB m t)=.ok v (EB m t))
 (kn:∀(r':Rho) (v':Value) (w':World),r.le r'->VR X.L r' v v'->Pair X gl RO E S q r' m w'->w.heap.size<=w'.heap.size->(∀ j,E j\/RO j->w'.heap[j]?=w.heap[j]?)->Co X.P mn RO Stop (Own E S r') (Bb (c0.finish v') cs) w') :
 Co X.P mn RO Stop (Own E S r) (Bb { F f T' k with mode:=.returning } (c0::cs)) w:=by
 refine .one rfl fun w1 hk=>?_;have p1:=p.keep hk;obtain⟨r',v',w',ev,e1,e2,e3,e4,e5,e6,e7⟩:=p1.sem (Ey p1.ok fn h2) (t:=fun i=>w1.tape (w1.drawn+i)) (fun _=>rfl) (hv _);have e8:(results fn T').runT X.P w1 #[]=(.ok v' w',ev):=by simpa using e1 #[]
 have hstep:stepG X.P mn (Bb { F f T' k with mode:=.returning } (c0::cs)) w1=.go (Bb (c0.finish v') cs) w' (seen X.P f ev++#[]):=by
  simp only[stepG,unwind,hfn,e8,doReturn];rfl
 refine⟨_,w',Own E S r',_,hstep,e7 _ fun e he=>mem_seen (by simpa using he),?_⟩;refine kn r' v' w' e3 e2 (e6 q p.qok (fun u hu=>p.qwr u hu) p.qgl) (Nat.le_trans hk.size e4) fun j hj=>?_;rw[e5 j hj];exact hk.keep j (hj.elim (fun x=>.inr (.inl x)) .inl)
end
end Go.Proofs.YtaemcekcancpdaaGreatDoor.Ren
namespace Go.Proofs.YtaemcekcancpdaaGreatDoor.Ren
noncomputable def vl:Value->Value
 | .bool b=>.bool b
 | .int k n=>.int k n
 | .string s=>.string s
 | .pointer none=>.pointer none
 | .slice none n c=>.slice none n c
 | .map none=>.map none
 | .chan o=>.chan o
 | .func _ _ _=>.nilFunc
 | .nilFunc=>.nilFunc
 | .nilIface=>.nilIface
 | .agg a=>.agg (a.attach.map fun x=>vl x.1)
 | _=>undef
 termination_by v=>SizeOf.sizeOf v
 decreasing_by
  have:=Array.sizeOf_lt_of_mem x.2;simp only[Value.agg.sizeOf_spec];omega
section
variable {L:Good} {r:Rho}
theorem To(v:Value):VR L r (vl v) v:=by
 fun_induction vl v with
 | case1 b=>exact .bool b
 | case2 k n=>exact .int k n
 | case3 s=>exact .string s
 | case4=>exact .pnil
 | case5 n c=>exact .snil n c
 | case6=>exact .mnil
 | case7 o=>exact .chan o
 | case8 f a c=>exact .nofunc f a c
 | case9=>exact .nilFunc
 | case10=>exact .nilIface
 | case11 a ih =>
  refine .agg (by simp) fun i x y hx hy=>?_;rw[Array.getElem?_map] at hx;have hi:=(Array.getElem?_eq_some_iff.1 hy).1;rw[Array.getElem?_eq_getElem (by simpa using hi)] at hx;simp only[Array.getElem_attach,Option.map_some,Option.some.injEq] at hx;rw[Array.getElem?_eq_getElem hi] at hy;cases hy
  rw[<- hx];exact ih ⟨_,Array.getElem_mem hi⟩
 | case12 v h1 h2 h3 h4 h5 h6 h7 h8 h9 h10 h11 =>
  refine .junk ⟨?_,?_,?_,?_,?_,?_⟩
  . cases v<;>first | rfl | exact absurd rfl (h11 _)
  . rintro rfl; exact h4 rfl
  . rintro rfl; exact h10 rfl
  . rintro rfl; exact h9 rfl
  . rintro f a c rfl; exact h8 f a c rfl
  . rintro b rfl; exact h1 b rfl
theorem Sa(v:Value):VR L r (vl v) (vl v):=by
 fun_induction vl v with
 | case1 b=>exact .bool b
 | case2 k n=>exact .int k n
 | case3 s=>exact .string s
 | case4=>exact .pnil
 | case5 n c=>exact .snil n c
 | case6=>exact .mnil
 | case7 o=>exact .chan o
 | case8 f a c=>exact .nilFunc
 | case9=>exact .nilFunc
 | case10=>exact .nilIface
 | case11 a ih =>
  refine .agg rfl fun i x y hx hy=>?_;rw[hx] at hy;cases hy
  rw[Array.getElem?_map] at hx;cases h:a.attach[i]? with
  | none=>rw[h] at hx; cases hx
  | some z=>rw[h] at hx; cases hx; exact ih z
 | case12 v=>exact .tuple rfl fun i x y h=>by simp at h
theorem Cu(k:IntKind)(n:Int):vl (.int k n)=.int k n:=by simp only[vl]
theorem Sb(b:Bool):vl (.bool b)=.bool b:=by simp only[vl]
end
noncomputable def vo:Obj->Obj
 | .cells c t _=>.cells (c.map vl) t (0,c.size)
 | _=>.cells #[] 0 (0,0)
noncomputable def vh(w:World)(N:Nat):Array Obj:=(w.heap.extract 0 N).map vo
abbrev Lt(N:Nat):Nat->Prop:=fun j=>j<N
def vr(w:World)(N:Nat):Rho:=fun i j=>i=j/\i<N/\∃ c t f,w.heap[i]?=some (.cells c t f)
section
variable {w:World} {N:Nat}
theorem DD(h:N<=w.heap.size):(vh w N).size=N:=by simp[vh,h]
theorem Fx(h:N<=w.heap.size){i:Nat}(hi:i<N):(vh w N)[i]?=(w.heap[i]?).map vo:=by
 unfold vh;rw[Array.getElem?_map,Array.getElem?_extract,if_pos (by omega),Nat.zero_add]
theorem Nt{w1:World}(h:N<=w.heap.size)(h1:N<=w1.heap.size)(e:∀ j,j<N->w1.heap[j]?=w.heap[j]?):vh w1 N=vh w N:=by
 apply Array.ext_getElem?;intro i;by_cases hi:i<N
 . rw[Fx h hi,Fx h1 hi,e i hi]
 . rw[Array.getElem?_eq_none (by rw[DD h1]; omega),Array.getElem?_eq_none (by rw[DD h]; omega)]
theorem Nu(h:N<=w.heap.size){u:World}{a:Addr}(ha:a.block<N)(hu:u.heap[a.block]?=(vh w N)[a.block]?){v:Value}(hv:w.cell? a=some v):u.cell? a=some (vl v):=by
 unfold World.cell? at *;rw[hu,Fx h ha];cases hb:w.heap[a.block]? with
 | none=>rw[hb] at hv; cases hv
 | some o =>
  rw[hb] at hv;cases o with
  | cells c t f =>
   simp only[Option.map_some,vo] at hv ⊢;split at hv
   . cases hv
   . rw[if_neg (by assumption),Array.getElem?_map,hv]; rfl
  | _=>cases hv
end
section
variable {X:Ctx} {gl:Nat->Prop}
theorem Pair.veil{w:World}{N:Nat}(E:Nat->Prop)(hN:N<=w.heap.size)(hG:X.G<=N)(hgl:∀ n,gl n->n<N/\∃ c t f,w.heap[n]?=some (.cells c t f))(hE:∀ j,E j->N<=j/\j<w.heap.size)(os:Os)(out:Array (Nat × ByteArray)) :
 Pair X gl (Lt N) E (Lt N) (vr w N) (vr w N) (vh w N,os,out) w:=by
 have ok:X.Ok (vr w N):=⟨fun h k=>h.1.symm.trans k.1,fun h k=>h.1.trans k.1.symm,fun h _=>h.1.symm⟩;have gl':∀ n,gl n->vr w N n n:=fun n h=>⟨rfl,hgl n h⟩;refine⟨ok,fun u hu i j hij=>?_,gl',ok,fun u hu i j hij=>?_,gl',fun u hu i hi=>?_,?_,Nat.le_trans hG hN,fun i j hij _=>hij.1▸hij.2.1,fun i j hij he=>?_,fun j hj=>(hE j hj).2,fun j hj=>Nat.lt_of_lt_of_le hj hN,fun i j hij hr=>hij.2.1⟩
 . obtain⟨rfl,hi,c,t,f,e⟩:=hij;have e1:u.heap[i]?=some (vo (.cells c t f)):=by rw[hu]; show(vh w N)[i]?=_; rw[Fx hN hi,e]; rfl
   refine⟨_,_,e1,e1,.cells t (ArrR.pre ⟨rfl,fun k x y hx hy=>?_⟩) fun k hk _ h=>⟨Nat.zero_le _,h⟩⟩;rw[hx] at hy;cases hy
   rw[Array.getElem?_map] at hx;cases h:c[k]? with
   | none=>rw[h] at hx; cases hx
   | some z=>rw[h] at hx; cases hx; exact Sa z
 . obtain⟨rfl,hi,c,t,f,e⟩:=hij;have e1:u.heap[i]?=some (vo (.cells c t f)):=by rw[hu]; show(vh w N)[i]?=_; rw[Fx hN hi,e]; rfl
   refine⟨_,_,e1,e,.cells t (ArrR.pre ⟨by simp,fun k x y hx hy=>?_⟩) fun k hk _ h=>⟨Nat.zero_le _,by simpa using hk⟩⟩;rw[Array.getElem?_map,hy] at hx;cases hx
   exact To y
 . have hi':i<w.heap.size:=Nat.lt_of_lt_of_le hi hN;have e1:u.heap[i]?=some (vo w.heap[i]):=by rw[hu]; show(vh w N)[i]?=_; rw[Fx hN hi,Array.getElem?_eq_getElem hi']; rfl
   cases h:w.heap[i] with
   | cells c t f=>rw[h] at e1; exact⟨_,_,_,e1,rfl,by simp⟩
   | _=>rw[h] at e1; exact⟨_,_,_,e1,rfl,Nat.le_refl _⟩
 . show X.G<=(vh w N).size
   rw[DD hN]; exact hG
 . exact absurd hij.2.1 (Nat.not_lt.2 (hij.1▸(hE j he).1))
end
open Go.Conc
section
variable {P:Program} {mn:Bool} {w:World} {f:FuncId} {T:Array Value} {k:List Item} {cs:List Frame} {ops:Array Oper} {i:Nat} {l:List Nat} {o:Oper} {kd:CallKind}
def Bh(T:Array Value)(d:Option Tmp)(v:Value):Array Value:=match d with
 | some d=>T.setIfInBounds d v
 | none=>T
theorem Qj:(F f T k kd).eval=(⟨T,[]⟩:Act).eval:=funext (Frame.eval_at (F f T [] kd) ⟨T,[]⟩ _)
theorem Qk{x y:Operand}{c:Nat}{v:Value}(ho:ops[i]?=some o)(hg:o.guard=none)(hop:o.op=.send x y)(hx:(⟨T,[]⟩:Act).eval x=.chan (some c))(hy:(⟨T,[]⟩:Act).eval y=v) :
 stepG P mn (Bb (F f T (.inRegion ops (i::l)::k) kd) cs) w=.comm (core (Bb (F f T (.inRegion ops (i::l)::k) kd) cs)) #[scase c v (.tuple #[])] true .send w #[]:=by
 have hw:Region.wanted o (yielded ops T)=true:=by simp[Region.wanted,hg]
 simp only[stepG,stepG.exec,stepG.oper,Frame.oper?,ho,hw,Option.map_some,Option.getD_some,if_true,stepG.apply];rw[Qj];have e:execOp (⟨T,[]⟩:Act).eval o=.pure (.comm #[scase c v (.tuple #[])] true .send):=by
  unfold execOp;rw[hop];simp only[hx,hy];rfl
 rw[e];cases kd<;>rfl
theorem Qm{t el:TypeId}{x:Operand}{c:Nat}{dr:ChanDir}{z:Value}{inf:TypeInfo}(ho:ops[i]?=some o)(hg:o.guard=none)(hop:o.op=.recv t x true)(hx:(⟨T,[]⟩:Act).eval x=.chan (some c))(ht:P.underlying t=some (.chan dr el))(hi:P.info? el=some inf)(hz:inf.zero=some z) :
 stepG P mn (Bb (F f T (.inRegion ops (i::l)::k) kd) cs) w=.comm (core (Bb (F f T (.inRegion ops (i::l)::k) kd) cs)) #[rcase c z] true (.recv true) w #[]:=by
 have hw:Region.wanted o (yielded ops T)=true:=by simp[Region.wanted,hg]
 simp only[stepG,stepG.exec,stepG.oper,Frame.oper?,ho,hw,Option.map_some,Option.getD_some,if_true,stepG.apply];rw[Qj];have e:(execOp (⟨T,[]⟩:Act).eval o).runT P w #[]=(.ok (.comm #[rcase c z] true (.recv true)) w,#[]):=by
  unfold execOp;rw[hop];simp only[hx];simp[go_sem,underlying,zeroValue,typeInfo,ht,hi,hz,rcase]
 rw[e];cases kd<;>rfl
theorem F4(v:Value)(ho:ops[i]?=some o):Conc.served (core (Bb (F f T (.inRegion ops (i::l)::k) kd) cs)) v=Bb (F f (Bh T o.dst v) (.inRegion ops l::k) kd) cs:=by
 unfold Conc.served core Bh;simp only[Frame.finish,ho];cases h:o.dst<;>simp[h]
theorem Sd(hk:kd≠.early){x:Operand}{ats:Array TypeId}{c cap s r:Nat}{buf:Array Value}{tm:Bool}(ho:ops[i]?=some o)(hg:o.guard=none)(hop:o.op=.call { callee:=.builtin .close,args:=#[x],argTypes:=ats })(hx:(⟨T,[]⟩:Act).eval x=.chan (some c))
 (hc:w.heap[c]?=some (.chan cap buf false s r tm)) (hq:(P.funcs[f]?).any (·.norace)=false) :
 stepG P mn (Bb (F f T (.inRegion ops (i::l)::k) kd) cs) w=.go (Bb (F f (Bh T o.dst (.tuple #[])) (.inRegion ops l::k) kd) cs) (w.setChan c cap buf true s r tm) (closeEvents c):=by
 have h:=stepG_close (P:=P) (main:=mn) (b:=F f #[] [] kd) (a:=⟨T,[]⟩) (kk:=k) (cs:=cs) (w:=w) (rest:=l) ho (by simp[Region.wanted,hg]) (by simpa using hk) hop hx hc hq;refine h.trans ?_;unfold Bh;cases h:o.dst<;>rfl
theorem U3(hk:kd≠.early){g:FuncId}{xs:Array Operand}{ts:Array TypeId}(ho:ops[i]?=some o)(hg:o.guard=none)(hop:o.op=.go { callee:=.value (.func g),args:=xs,argTypes:=ts }) :
 stepG P mn (Bb (F f T (.inRegion ops (i::l)::k) kd) cs) w=.spawn (Bb (F f (Bh T o.dst undef) (.inRegion ops l::k) kd) cs) (born P { target:=.fn (.func g) #[],args:=xs.map (⟨T,[]⟩:Act).eval }) w #[]:=by
 have e:execOp (⟨T,[]⟩:Act).eval o=.pure (.spawn { target:=.fn (.func g) #[],args:=xs.map (⟨T,[]⟩:Act).eval }):=by
  unfold execOp;rw[hop]
  show(Deferred.ofValue (.func (.func g) #[] #[]) _ >>= _:Sem Next)=_
  simp only[Deferred.ofValue]
  show Sem.pure _=_
  simp
 have h:=stepG_spawn (P:=P) (main:=mn) (b:=F f #[] [] kd) (a:=⟨T,[]⟩) (k:=k) (cs:=cs) (w:=w) (w':=w) (rest:=l) (d:={ target:=.fn (.func g) #[],args:=xs.map (⟨T,[]⟩:Act).eval }) ho (by simp[Region.wanted,hg]) (by simpa using hk) (by rw[e]; rfl) rfl;have e2:listed P (F f #[] [] kd).fn ⟨T,[]⟩ o w=#[]:=listed_none (b:=F f #[] [] kd) (by rw[e]; rfl);rw[e2] at h;refine h.trans ?_;unfold Bh;cases h:o.dst<;>rfl
noncomputable def I6(P:Program):Frame:={ (default:Frame) with fn:=P.funcs.size,defers:=[],mode:=.panicking [goexitEntry] }
theorem Tp{g:FuncId}{fn:Func}{c:Code}{args:Array Value}(hf:P.funcs[g]?=some fn)(hn:(fn.name == "runtime.NumGoroutine")=false)(hb:fn.body=some c) :
 stepG P mn (born P { target:=.fn (.func g) #[],args:=args }) w=.go (Bb (Frame.enter P g args .deferred) [I6 P]) w #[]:=by
 have hn':¬ fn.name = "runtime.NumGoroutine" := by simpa using hn
 simp[born,stepG,unwind,callDeferred,invoke,callFunc,hf,hn',hb,seen,GStep.after,I6]
theorem Mq(hk:kd≠.early){t el:TypeId}{dr:ChanDir}{inf:TypeInfo}{n:Nat}(ho:ops[i]?=some o)(hg:o.guard=none)(hop:o.op=.makeChan t (.const (.int .i64 n)))(ht:P.underlying t=some (.chan dr el))(hi:P.info? el=some inf)(h63:(n:Int)<=9223372036854775807)(hb:(inf.bytes:Int)*n<=281474976710544) :
 stepG P mn (Bb (F f T (.inRegion ops (i::l)::k) kd) cs) w=.go (Bb (F f (Bh T o.dst (.chan (some w.heap.size))) (.inRegion ops l::k) kd) cs) (w.alloc (.chan n #[] false 0 0 false)) #[]:=by
 have hr:(execOp (⟨T,[]⟩:Act).eval o).run P w=.ok (.value (.chan (some w.heap.size))) (w.alloc (.chan n #[] false 0 0 false)):=by
  unfold execOp;simp only[hop];simp[go_sem,Act.eval,run_makeChan ht hi .i64 n h63 hb]
 have he:(execOp (⟨T,[]⟩:Act).eval o).events P w #[]=#[]:=by
  unfold execOp;simp only[hop];simp[go_sem,Act.eval,events_makeChan ht hi .i64 n h63 hb]
 have h:=stepG_value (P:=P) (main:=mn) (b:=F f #[] [] kd) (a:=⟨T,[]⟩) (k:=k) (cs:=cs) (w:=w) (rest:=l) ho (by simp[Region.wanted,hg]) (by simpa using hk) hr;have e2:listed P (F f #[] [] kd).fn ⟨T,[]⟩ o w=#[]:=listed_none (b:=F f #[] [] kd) he;rw[e2] at h;refine h.trans ?_;unfold Bh;cases h:o.dst<;>rfl
theorem Mr{fn:Func}(hf:P.funcs[f]?=some fn)(hr:fn.results=#[]):QuitsIn P 3 (Bb (F f T [] .deferred) [I6 P]):=by
 refine .inr ⟨rfl,Bb { F f T [] .deferred with mode:=.returning } [I6 P],fun w=>UC,.inr ⟨rfl,Bb (I6 P) [],fun w=>?_,.inr ⟨rfl,{ Bb (I6 P) [] with status:=.finished },fun w=>?_,rfl⟩⟩⟩
 . simp[stepG,unwind,doReturn,results,hf,hr,I6,seen,GStep.after,goexitEntry]
 . simp[stepG,unwind,I6,goexitEntry,Frame.catches];rfl
end
open Go.Conc
inductive Flat:Value->Prop
 | bool (b:Bool):Flat (.bool b)
 | int (k:IntKind) (n:Int):Flat (.int k n)
 | chan (o:Option Nat):Flat (.chan o)
 | agg {a:Array Value} (h:∀ x∈a,Flat x):Flat (.agg a)
 | tuple {a:Array Value} (hne:a.size≠0) (h:∀ x∈a,Flat x):Flat (.tuple a)
theorem Flat.plain{v:Value}(h:Flat v):Plain v:=by
 induction h with
 | bool b=>exact .bool b
 | int k n=>exact .int k n
 | chan o=>exact .chan o
 | agg _ ih=>exact .agg ih
 | tuple hne _ ih=>exact .tuple hne ih
def Hpo(Q:Array Value->World->Prop):Prop:=∀ T u u',Q T u->u'.heap=u.heap->Q T u'
def Sit(X:Ctx)(gl:Nat->Prop)(N:Nat)(R:Rho)(K:Nat->Prop)(B:Nat->Option Obj)(Q:Array Value->World->Prop)(T':Array Value)(O:Nat->Prop)(w':World):Prop :=
 ∃(E:Nat->Prop) (q r:Rho) (T:Array Value) (u:World),(O=Own E (Lt N) r/\R.le r)/\(∀ j,E j->N<=j)/\(∀ j,K j->E j)/\Pair X gl (Lt N) E (Lt N) q r (BE u) w'/\ArrR X.L q T T/\ArrR X.L r T T'/\Q T u/\∀ j,K j\/j<N->w'.heap[j]?=B j
section
variable {X:Ctx} {gl:Nat->Prop} {mn:Bool} {N:Nat} {R:Rho} {K:Nat->Prop} {B:Nat->Option Obj} {Q Q1 Q2:Array Value->World->Prop} {T':Array Value} {O:Nat->Prop} {w:World} {Stop:(Nat->Prop)->Goroutine->World->Prop}
theorem Sit.lt(h:Sit X gl N R K B Q T' O w):∀ j,O j->j<w.heap.size:=by
 obtain⟨E,q,r,T,u,⟨rfl,hR⟩,_,_,p,_⟩:=h;exact p.own_lt
theorem Sit.ge(h:Sit X gl N R K B Q T' O w):∀ j,O j->N<=j:=by
 obtain⟨E,q,r,T,u,⟨rfl,hR⟩,hE,_,p,_⟩:=h;rintro j (hj | ⟨i,hij,hs⟩)
 . exact hE j hj
 . exact Nat.le_of_not_lt fun h=>hs (p.ro' i j hij h)
theorem Sit.has(h:Sit X gl N R K B Q T' O w):∀ j,K j->O j:=by
 obtain⟨E,q,r,T,u,⟨rfl,hR⟩,_,hK,_⟩:=h;exact fun j hj=>.inl (hK j hj)
theorem Sit.base(h:Sit X gl N R K B Q T' O w):∀ j,K j\/j<N->w.heap[j]?=B j:=by
 obtain⟨E,q,r,T,u,_,_,_,_,_,_,_,h⟩:=h;exact h
theorem Sit.top(h:Sit X gl N R K B Q T' O w):N<=w.heap.size:=by
 obtain⟨E,q,r,T,u,_,_,_,p,_⟩:=h;exact Nat.le_of_not_lt fun h=>Nat.lt_irrefl _ (p.rlt _ h)
theorem Sit.keep(h:Sit X gl N R K B Q T' O w){w1:World}(k:Kp (Lt N) O w w1):Sit X gl N R K B Q T' O w1:=by
 have hb:=h.base;have hh:=h.has;obtain⟨E,q,r,T,u,⟨rfl,hR⟩,hE,hK,p,a,b,c,_⟩:=h;exact⟨E,q,r,T,u,⟨rfl,hR⟩,hE,hK,p.keep k,a,b,c,fun j hj=>(k.keep j (hj.elim (fun x=>.inr (hh j x)) .inl)).trans (hb j hj)⟩
theorem Sit.mono(h:Sit X gl N R K B Q T' O w)(k:∀ T u,Q T u->Q1 T u):Sit X gl N R K B Q1 T' O w:=by
 obtain⟨E,q,r,T,u,a,hE,hK,p,b,c,d,e⟩:=h;exact⟨E,q,r,T,u,a,hE,hK,p,b,c,k T u d,e⟩
theorem Sit.unwatch(h:Sit X gl N R K B Q T' O w){K1:Nat->Prop}(k:∀ j,K1 j->K j):Sit X gl N R K1 B Q T' O w:=by
 obtain⟨E,q,r,T,u,a,hE,hK,p,b,c,d,e⟩:=h;exact⟨E,q,r,T,u,a,hE,fun j hj=>hK j (k j hj),p,b,c,d,fun j hj=>e j (hj.imp (k j) id)⟩
theorem Sit.rebase(h:Sit X gl N R K B Q T' O w){B2:Nat->Option Obj}(k:∀ j,K j\/j<N->w.heap[j]?=B2 j):Sit X gl N R K B2 Q T' O w:=by
 obtain⟨E,q,r,T,u,a,hE,hK,p,b,c,d,_⟩:=h;exact⟨E,q,r,T,u,a,hE,hK,p,b,c,d,k⟩
theorem Sit.fact(h:Sit X gl N R K B Q T' O w){p:Prop}(k:∀ T u,Q T u->p):p:=by
 obtain⟨E,q,r,T,u,_,_,_,_,_,_,d,_⟩:=h;exact k T u d
theorem Sit.split{ι:Type}{S:ι->Array Value->World->Prop}(h:Sit X gl N R K B (fun T u=>∃ i,S i T u) T' O w):∃ i,Sit X gl N R K B (S i) T' O w:=by
 obtain⟨E,q,r,T,u,a,hE,hK,p,b,c,⟨i,d⟩,e⟩:=h;exact⟨i,E,q,r,T,u,a,hE,hK,p,b,c,d,e⟩
theorem Sit.and{p:Prop}(h:Sit X gl N R K B Q T' O w)(k:p):Sit X gl N R K B (fun T u=>p/\Q T u) T' O w:=h.mono fun _ _ x=>⟨k,x⟩
theorem Goes1.sit{E:Nat->Prop}{q r:Rho}(hR:R.le r)(hE:∀ j,E j->N<=j)(hK:∀ j,K j->E j)(hb:∀ j,K j\/j<N->w.heap[j]?=B j){k:Array Value->Goroutine}
 (kn:∀ T2 O2 w2,Sit X gl N R K B Q T2 O2 w2->Co X.P mn (Lt N) Stop O2 (k T2) w2):Goes1 X gl mn (Lt N) E (Lt N) q r w Stop Q k :=
 fun q' r' T2 T2' w2 w' h1 h2 h3 h4 h5 h6 h7 h8=>kn T2' _ w' ⟨E,q',r',T2,w2,⟨rfl,Rho.le_trans hR h2⟩,hE,hK,h4,h5,h6,h3,fun j hj=>(h8 j (hj.imp (hK j) id)).trans (hb j hj)⟩
theorem Sit.wp2(h:Sit X gl N R K B Q T' O w)(lw:Lawful X)(cl:CodeLaws X gl)(hs:X.C (.refuse ""))(hQ:Hpo Q){f:FuncId}{A:Code}{KK:List Item}{base:List Frame}{kd:CallKind}(hk:kd≠.early)(hf:X.L.h f)(hA:X.C A)
 (hw:∀ T u,Q T u->A.wp X.P (fun e a w=>a.defers=[]/\(e=.normal/\Q1 a.tmps w\/e=.ret/\Q2 a.tmps w)) ⟨T,[]⟩ u)
 (kn:∀ T2 O2 w2,Sit X gl N R K B Q1 T2 O2 w2->Co X.P mn (Lt N) Stop O2 (Bb (F f T2 KK kd) base) w2) (kr:∀ k T2 O2 w2,Sit X gl N R K B Q2 T2 O2 w2->Co X.P mn (Lt N) Stop O2 (Bb { F f T2 k kd with mode:=.returning } base) w2) :
 Co X.P mn (Lt N) Stop O (Bb (F f T' (.code A::KK) kd) base) w:=by
 have hb:=h.base;obtain⟨E,q,r,T,u,⟨rfl,hR⟩,hE,hK,p,a,b,c,_⟩:=h;exact p.wp2 lw cl hs hk hf a b hA (fun t=>hw T _ (hQ T u _ c rfl)) (Goes1.sit hR hE hK hb kn) fun k=>Goes1.sit hR hE hK hb (kr k)
theorem Sit.wp(h:Sit X gl N R K B Q T' O w)(lw:Lawful X)(cl:CodeLaws X gl)(hs:X.C (.refuse ""))(hQ:Hpo Q){f:FuncId}{A:Code}{KK:List Item}{base:List Frame}{kd:CallKind}(hk:kd≠.early)(hf:X.L.h f)(hA:X.C A)
 (hw:∀ T u,Q T u->A.wp X.P (fun e a w=>e=.normal/\a.defers=[]/\Q1 a.tmps w) ⟨T,[]⟩ u)
 (kn:∀ T2 O2 w2,Sit X gl N R K B Q1 T2 O2 w2->Co X.P mn (Lt N) Stop O2 (Bb (F f T2 KK kd) base) w2) :
 Co X.P mn (Lt N) Stop O (Bb (F f T' (.code A::KK) kd) base) w :=
 h.wp2 lw cl hs hQ hk hf hA (Q2:=fun _ _=>False) (fun T u x=>wp_mono (hw T u x) fun e a w y=>⟨y.2.1,.inl ⟨y.1,y.2.2⟩⟩) kn fun k T2 O2 w2 s=>s.fact fun _ _ x=>x.elim
theorem Sit.ops(h:Sit X gl N R K B Q T' O w)(lw:Lawful X)(cl:CodeLaws X gl)(hs:X.C (.refuse ""))(hQ:Hpo Q){f:FuncId}{ops:Array Oper}{l1 l2:List Nat}{KK:List Item}{base:List Frame}{kd:CallKind}(hk:kd≠.early)(hf:X.L.h f)
 (hA:∀ i∈l1,∀ o,ops[i]?=some o->OpOk X gl o.op) (hw:∀ T u,Q T u->wpOps X.P ops (fun e a w=>e=.normal/\a.defers=[]/\Q1 a.tmps w) l1 ⟨T,[]⟩ u)
 (kn:∀ T2 O2 w2,Sit X gl N R K B Q1 T2 O2 w2->Co X.P mn (Lt N) Stop O2 (Bb (F f T2 (.inRegion ops l2::KK) kd) base) w2) :
 Co X.P mn (Lt N) Stop O (Bb (F f T' (.inRegion ops (l1++l2)::KK) kd) base) w:=by
 have hb:=h.base;obtain⟨E,q,r,T,u,⟨rfl,hR⟩,hE,hK,p,a,b,c,_⟩:=h;exact p.ops lw cl hs hk hf a b hA (fun t=>hw T _ (hQ T u _ c rfl)) (Goes1.sit hR hE hK hb kn)
theorem Sit.slot(h:Sit X gl N R K B Q T' O w){i:Nat}{v:Value}(hv:Flat v)(k:∀ T u,Q T u->T.getD i undef=v):T'.getD i undef=v:=by
 obtain⟨E,q,r,T,u,_,_,_,p,a,b,c,_⟩:=h;have:=b.getD i (x:=undef) (y:=undef) (.tuple rfl fun i x y h=>by simp at h);rw[k T u c] at this;exact hv.plain.eq this
theorem Sit.size(h:Sit X gl N R K B Q T' O w){n:Nat}(k:∀ T u,Q T u->T.size=n):T'.size=n:=by
 obtain⟨E,q,r,T,u,_,_,_,p,a,b,c,_⟩:=h;rw[<- b.1]; exact k T u c
theorem Sit.put(h:Sit X gl N R K B Q T' O w){v:Value}(hv:Flat v)(d:Option Tmp)(k:∀ T u,Q T u->Q1 (Bh T d v) u):Sit X gl N R K B Q1 (Bh T' d v) O w:=by
 obtain⟨E,q,r,T,u,a,hE,hK,p,b,c,e,f⟩:=h;refine⟨E,q,r,Bh T d v,u,a,hE,hK,p,?_,?_,k T u e,f⟩
 . unfold Bh; split
   . exact b.set _ hv.plain.rel
   . exact b
 . unfold Bh; split
   . exact c.set _ hv.plain.rel
   . exact c
theorem Sit.ctl(h:Sit X gl N R K B Q T' O w){g g':Goroutine}(hr:g.status=.running)(hst:∀ w1,stepG X.P mn g w1=.go g' w1 #[])(k:Co X.P mn (Lt N) Stop O g' w):Co X.P mn (Lt N) Stop O g w:=Co.ctl hr h.lt hst k
theorem Sit.start{K:Nat->Prop}(hN:N<=w.heap.size)(hG:X.G<=N)(hgl:∀ n,gl n->n<N/\∃ c t f,w.heap[n]?=some (.cells c t f))(hK:∀ j,K j->N<=j/\j<w.heap.size){T T':Array Value}(h1:ArrR X.L (vr w N) T T)(h2:ArrR X.L (vr w N) T T')
 (hB:∀ j,K j\/j<N->w.heap[j]?=B j) (hq:∀ u:World,u.heap=vh w N->Q T u):Sit X gl N (vr w N) K B Q T' K w:=by
 have p:=Pair.veil (X:=X) (gl:=gl) K hN hG hgl hK default #[];refine⟨K,vr w N,vr w N,T,{ heap:=vh w N,tape:=fun _ _=>0,drawn:=0,os:=default,output:=#[] },⟨?_,Rho.le_refl _⟩,fun j hj=>(hK j hj).1,fun _ h=>h,p,h1,h2,hq _ rfl,hB⟩;funext j;apply propext;constructor
 . exact .inl
 . rintro(h | ⟨i,hij,hs⟩)
   . exact h
   . exact absurd hij.2.1 hs
theorem Sit.resume(h:Sit X gl N R K B Q T' O w){O2:Nat->Prop}{w2:World}(hG:X.G<=w2.heap.size)(hN:N<=w2.heap.size)(hk:∀ j,O j\/j<N->w2.heap[j]?=w.heap[j]?)(hO:∀ j,O j->O2 j)(lo:∀ j,O2 j->N<=j/\j<w2.heap.size){K2:Nat->Prop}(hK2:∀ j,K2 j->K j\/(O2 j/\¬ O j)):Sit X gl N R K2 (fun j=>w2.heap[j]?) Q T' O2 w2:=by
 obtain⟨E,q,r,T,u,⟨rfl,hR⟩,hE,hK,p,a,b,c,_⟩:=h;have p2:Pair X gl (Lt N) E (Lt N) q r (BE u) w2:=by
  refine⟨p.qok,p.qwr,p.qgl,p.ok,fun u hu i j hij=>?_,p.glob,p.seal_,p.gl_,hG,p.ro,p.ex,fun j hj=>?_,fun j hj=>Nat.lt_of_lt_of_le hj hN,p.ro'⟩
  . obtain⟨o,o',h1,h2,h3⟩:=p.wr u hu i j hij;refine⟨o,o',h1,(hk j ?_).trans h2,h3⟩;by_cases hs:i<N
    . exact .inr (p.ro i j hij hs)
    . exact .inl (.inr ⟨i,hij,hs⟩)
  . have h1:=hk j (.inl (.inl hj));rw[Array.getElem?_eq_getElem (p.elt j hj)] at h1;exact(Array.getElem?_eq_some_iff.1 h1).1
 refine⟨fun j=>E j\/(O2 j/\¬ Own E (Lt N) r j),q,r,T,u,⟨?_,hR⟩,fun j hj=>hj.elim (hE j) fun x=>(lo j x.1).1,fun j hj=>(hK2 j hj).elim (fun x=>.inl (hK j x)) .inr,⟨p2.qok,p2.qwr,p2.qgl,p2.ok,p2.wr,p2.glob,p2.seal_,p2.gl_,p2.gr_,p2.ro,fun i j hij he=>?_,fun j hj=>?_,p2.rlt,p2.ro'⟩,a,b,c,fun j hj=>rfl⟩
 . funext j;apply propext;constructor
   . intro hj;by_cases x:Own E (Lt N) r j
     . rcases x with x | x
       . exact .inl (.inl x)
       . exact .inr x
     . exact .inl (.inr ⟨hj,x⟩)
   . rintro((x | x) | x)
     . exact hO j (.inl x)
     . exact x.1
     . exact hO j (.inr x)
 . rcases he with he | ⟨h1,h2⟩
   . exact p2.ex i j hij he
   . by_cases hi:i<N
     . exact Nat.not_lt.2 (lo j h1).1 (p2.ro i j hij hi)
     . exact h2 (.inr ⟨i,hij,hi⟩)
 . rcases hj with hj | hj
   . exact p2.elt j hj
   . exact(lo j hj.1).2
theorem Sit.back(h:Sit X gl N R K B Q T' O w)(hQ:Hpo Q){f:FuncId}{fn:Func}{k:List Item}{c0:Frame}{cs:List Frame}{v:Value}(hfl:Flat v)(hfn:X.P.funcs[f]?=some fn)(hv:∀ T u,Q T u->(results fn T).run X.P u=.ok v u)
 (kn:∀ O2 w2,Sit X gl N R K B Q T' O2 w2->Co X.P mn (Lt N) Stop O2 (Bb (c0.finish v) cs) w2):Co X.P mn (Lt N) Stop O (Bb { F f T' k with mode:=.returning } (c0::cs)) w:=by
 have hb:=h.base;obtain⟨E,q,r,T,u,⟨rfl,hR⟩,hE,hK,p,a,b,c,_⟩:=h;refine p.back (v:=v) (t0:=fun _ _=>0) a b hfn (fun t=>hv T _ (hQ T u _ c rfl)) fun r' v' w' h1 h2 h3 h4 h5=>?_;obtain rfl:=hfl.plain.eq h2;exact kn _ w' ⟨E,q,r',T,u,⟨rfl,Rho.le_trans hR h1⟩,hE,hK,h3,a,b.mono h1,c,fun j hj=>(h5 j (hj.imp (hK j) id)).trans (hb j hj)⟩
theorem Sit.drop(h:Sit X gl N R K B Q T' O w){k:Nat}(hk:K k):Sit X gl N R (fun j=>K j/\j≠k) B Q T' (fun j=>O j/\j≠k) w:=by
 obtain⟨E,q,r,T,u,⟨rfl,hR⟩,hE,hK,p,a,b,c,d⟩:=h;refine⟨fun j=>E j/\j≠k,q,r,T,u,⟨?_,hR⟩,fun j hj=>hE j hj.1,fun j hj=>⟨hK j hj.1,hj.2⟩,⟨p.qok,p.qwr,p.qgl,p.ok,p.wr,p.glob,p.seal_,p.gl_,p.gr_,p.ro,fun i j hij he=>p.ex i j hij he.1,fun j hj=>p.elt j hj.1,p.rlt,p.ro'⟩,a,b,c,fun j hj=>d j (hj.imp And.left id)⟩;funext j;apply propext;constructor
 . rintro⟨x | x,hne⟩
   . exact .inl ⟨x,hne⟩
   . exact .inr x
 . rintro(x | ⟨i,hij,hs⟩)
   . exact⟨.inl x.1,x.2⟩
   . exact⟨.inr ⟨i,hij,hs⟩,fun e=>p.ex i j hij (e▸hK k hk)⟩
def Jz(X:Ctx)(R:Rho)(v:Value):Prop:=∀ r v',X.Ok r->R.le r->VR X.L r v v'->v'=v
theorem Flat.rigid{v:Value}(h:Flat v):Jz X R v:=fun r v' _ _ k=>h.plain.eq k
theorem Sit.slotR(h:Sit X gl N R K B Q T' O w){i:Nat}{v:Value}(hv:Jz X R v)(k:∀ T u,Q T u->T.getD i undef=v):T'.getD i undef=v:=by
 obtain⟨E,q,r,T,u,⟨_,hR⟩,_,_,p,a,b,c,_⟩:=h;have:=b.getD i (x:=undef) (y:=undef) (.tuple rfl fun i x y h=>by simp at h);rw[k T u c] at this;exact hv r _ p.ok hR this
theorem Sit.look(h:Sit X gl N R K B Q T' O w)(i:Nat):∃ r T u,X.Ok r/\R.le r/\WR X r u w/\Q T u/\(∀ n,gl n->r n n)/\VR X.L r (T.getD i undef) (T'.getD i undef)/\ArrR X.L r T T':=by
 obtain⟨E,q,r,T,u,⟨_,hR⟩,_,_,p,a,b,c,_⟩:=h;exact⟨r,T,u,p.ok,hR,p.wr u rfl,c,p.glob,b.getD i (.tuple rfl fun i x y h=>by simp at h),b⟩
theorem Sit.draw(h:Sit X gl N R K B Q T' O w){f:FuncId}{T:Array Value}{id:Nat}{ops:Array Oper}{k:List Item}{kd:CallKind}{cs:List Frame}(hm:X.P.follows .mixedOrders=true)
 (kk:∀ t,Co X.P mn (Lt N) Stop O (Bb (F f T (.inRegion ops (Region.linearise .any ops t)::k) kd) cs) w):Co X.P mn (Lt N) Stop O (Bb (F f T (.code (.region id ops true)::k) kd) cs) w:=by
 refine .one rfl fun w1 hk=>?_;have hst:stepG X.P mn (Bb (F f T (.code (.region id ops true)::k) kd) cs) w1=.go (Bb (F f T (.inRegion ops (Region.linearise .any ops (w1.tape w1.drawn (.order f id)))::k) kd) cs) { w1 with drawn:=w1.drawn+1 } #[]:=by
  simp[stepG,stepG.exec,choose,Sem.run,Question.forced,Question.cut,Region.schedule,hm]
 exact⟨_,_,O,#[],hst,.idle (h.keep hk).lt _,(kk _).rely ⟨hk.size,hk.keep⟩⟩
def Cc(md:Region.Mode)(ops:Array Oper):Nat->Array Bool->List (List Nat)
 | 0,_=>[[]]
 | n+1,listed=>if Region.ready md ops listed=[] then [[]] else (Region.ready md ops listed).flatMap fun i=>(Cc md ops n (listed.setIfInBounds i true)).map (i::·)
theorem JA(md:Region.Mode)(ops:Array Oper):∀(n t:Nat) (listed:Array Bool),Region.linearise.go md ops n t listed []∈Cc md ops n listed
 | 0,t,listed=>by simp[Region.linearise.go,Cc]
 | n+1,t,listed=>by
  simp only[Region.linearise.go,Cc];change (match (Region.ready md ops listed)[t % (Region.ready md ops listed).length]? with
   | some i=>Region.linearise.go md ops n (t / (Region.ready md ops listed).length) (listed.setIfInBounds i true) [i]
   | none=>[].reverse)∈_
  cases hr:Region.ready md ops listed with
  | nil=>simp
  | cons x l =>
   have hlt:t % (x::l).length<(x::l).length:=Nat.mod_lt _ (by simp);rw[List.getElem?_eq_getElem hlt,if_neg (by simp)];dsimp only;rw[linearise_go_acc,List.reverse_singleton,List.singleton_append];exact List.mem_flatMap.2 ⟨_,List.getElem_mem hlt,List.mem_map.2 ⟨_,JA md ops n _ _,rfl⟩⟩
theorem IE(md:Region.Mode)(ops:Array Oper)(t:Nat):Region.linearise md ops t∈Cc md ops ops.size (Array.replicate ops.size false):=JA md ops _ t _
theorem F5{f:FuncId}{T:Array Value}{ops:Array Oper}{i:Nat}{l:List Nat}{o:Oper}{k:List Item}{kd:CallKind}(v:Value)(ho:ops[i]?=some o):(F f T (.inRegion ops (i::l)::k) kd).finish v=F f (Bh T o.dst v) (.inRegion ops l::k) kd:=by
 simp only[Frame.finish,ho,Bh];cases h:o.dst<;>simp[h]
end
open Go.Conc
theorem OR.flat{L:Good}{C:Code->Prop}{r s:Rho}{a b:Array Value}{t:TypeId}{f:Nat × Nat}{o:Obj}(h:OR L C r (.cells b t f) o)(hs:a.size<=b.size)(he:∀(i:Nat) (x:Value),a[i]?=some x->b[i]?=some x)(hp:∀ x∈a,Plain x):OR L C s (.cells a t f) o:=by
 cases h with
 | cells t h hf=>exact .cells t ⟨Nat.le_trans hs h.1,fun i x y hx hy=>by rw[(hp x (Array.mem_of_getElem? hx)).eq (h.2 i x y (he i x hx) hy)]; exact(hp x (Array.mem_of_getElem? hx)).rel⟩ fun k hk=>hf k (Nat.lt_of_lt_of_le hk hs)
theorem OR.self{L:Good}{C:Code->Prop}{r:Rho}{a:Array Value}{t:TypeId}{f:Nat × Nat}(hp:∀ x∈a,Plain x):OR L C r (.cells a t f) (.cells a t f) :=
 .cells t ⟨Nat.le_refl _,fun i x y hx hy=>by rw[hx] at hy; cases hy; exact(hp x (Array.mem_of_getElem? hx)).rel⟩ fun k _ h1 h2=>⟨h1,h2⟩
section
variable {X:Ctx} {gl:Nat->Prop} {mn:Bool} {N:Nat} {R:Rho} {K:Nat->Prop} {B:Nat->Option Obj} {Q Q1:Array Value->World->Prop} {T':Array Value} {O:Nat->Prop} {w:World} {Stop:(Nat->Prop)->Goroutine->World->Prop}
theorem Sit.backS(h:Sit X gl N R K B Q T' O w)(hQ:Hpo Q){f:FuncId}{fn:Func}{k:List Item}{c0:Frame}{cs:List Frame}{g n c:Nat}{a:Array Value}{ty:TypeId}{fz:Nat × Nat}(hp:∀ x∈a,Plain x)(hg:N<=g)(hfn:X.P.funcs[f]?=some fn)
 (hv:∀ T u,Q T u->(results fn T).run X.P u=.ok (.slice (some ⟨g,0,none⟩) n c) u/\∃ cur,u.heap[g]?=some (.cells cur ty fz)/\a.size<=cur.size/\∀(i:Nat) (x:Value),a[i]?=some x->cur[i]?=some x)
 (kn:∀ O2 w2 j o,Sit X gl N R K B Q T' O2 w2->O2 j->w2.heap[j]?=some o->(∀ r,OR X.L X.C r (.cells a ty fz) o)->Co X.P mn (Lt N) Stop O2 (Bb (c0.finish (.slice (some ⟨j,0,none⟩) n c)) cs) w2):Co X.P mn (Lt N) Stop O (Bb { F f T' k with mode:=.returning } (c0::cs)) w:=by
 have hb:=h.base;obtain⟨E,q,r,T,u,⟨rfl,hR⟩,hE,hK,p,a1,b1,c1,_⟩:=h;refine p.back (v:=.slice (some ⟨g,0,none⟩) n c) (t0:=fun _ _=>0) a1 b1 hfn (fun t=>(hv T (EB (BE u) t) (hQ T u _ c1 rfl)).1) fun r' v' w' h1 h2 h3 h4 h5=>?_;cases h2 with
 | @slice _ b _ _ hr =>
  obtain⟨j,of,sp⟩:=b;obtain⟨hb1,hb2,hb3⟩:=hr;dsimp only at hb1 hb2 hb3;subst hb2 hb3;obtain⟨o,o',e1,e2,e3⟩:=h3.wr u rfl g j hb1;obtain⟨cur,k1,k2,k3⟩:=(hv T u c1).2;rw[k1] at e1;cases e1
  exact kn _ w' j o' ⟨E,q,r',T,u,⟨rfl,Rho.le_trans hR h1⟩,hE,hK,h3,a1,b1.mono h1,c1,fun j hj=>(h5 j (hj.imp (hK j) id)).trans (hb j hj)⟩ (.inr ⟨g,hb1,Nat.not_lt.2 hg⟩) e2 fun s=>e3.flat k2 k3 hp
theorem Sit.adopt(h:Sit X gl N R K B Q T' O w)(hG:X.G<=N){j n c:Nat}{a:Array Value}{ty:TypeId}{fz:Nat × Nat}{o:Obj}(hj:K j)(ho:w.heap[j]?=some o)(hp:∀ x∈a,Plain x)(hr:∀ r,OR X.L X.C r (.cells a ty fz) o)(d:Option Tmp)
 (hq:∀ T u,Q T u->Q1 (Bh T d (.slice (some ⟨u.heap.size,0,none⟩) n c)) (u.alloc (.cells a ty fz))):Sit X gl N R (fun k=>K k/\k≠j) B Q1 (Bh T' d (.slice (some ⟨j,0,none⟩) n c)) O w:=by
 obtain⟨E,q,r,T,u,⟨rfl,hR⟩,hE,hK,p,b,c1,e,f⟩:=h;have hEj:=hK j hj;have hNj:=hE j hEj;have no:∀{k:Nat},¬ r u.heap.size k:=fun hk=>absurd ((p.wr u rfl).ltl hk) (Nat.lt_irrefl _);have noq:∀{k:Nat},¬ q u.heap.size k:=fun hk=>absurd ((p.qwr u rfl).ltl hk) (Nat.lt_irrefl _);have noq':∀{k:Nat},¬ q k u.heap.size:=fun hk=>absurd ((p.qwr u rfl).lt hk) (Nat.lt_irrefl _);have hNu:N<=u.heap.size:=Nat.le_of_not_lt fun hlt=>by
  obtain⟨cc,tt,ff,y,_⟩:=p.seal_ u rfl _ hlt;exact absurd (Array.getElem?_eq_some_iff.1 y).1 (Nat.lt_irrefl _)
 have hGu:X.G<=u.heap.size:=Nat.le_trans hG hNu;have old:∀{v:World},v.heap=(u.alloc (.cells a ty fz)).heap->∀{i:Nat} {x:Obj},u.heap[i]?=some x->v.heap[i]?=some x:=fun hv i x hx=>by
  have hi:=(Array.getElem?_eq_some_iff.1 hx).1;rw[hv]
  show(u.heap.push _)[i]?=_
  rw[Array.getElem?_push_lt hi,<- hx,Array.getElem?_eq_getElem hi]
 have new:∀{v:World},v.heap=(u.alloc (.cells a ty fz)).heap->v.heap[u.heap.size]?=some (.cells a ty fz):=fun hv=>by
  rw[hv]
  show(u.heap.push _)[u.heap.size]?=_
  simp
 refine⟨fun k=>E k/\k≠j,fun x y=>q x y\/(x=u.heap.size/\y=u.heap.size),fun x y=>r x y\/(x=u.heap.size/\y=j),Bh T d (.slice (some ⟨u.heap.size,0,none⟩) n c),u.alloc (.cells a ty fz),⟨?_,fun x y h=>.inl (hR x y h)⟩,fun k hk=>hE k hk.1,fun k hk=>⟨hK k hk.1,hk.2⟩,?_,?_,?_,hq T u e,fun k hk=>f k (hk.imp And.left id)⟩
 . funext k;apply propext;constructor
   . rintro(x | ⟨i,hi,hs⟩)
     . by_cases hk:k=j
       . exact .inr ⟨u.heap.size,.inr ⟨rfl,hk⟩,Nat.not_lt.2 hNu⟩
       . exact .inl ⟨x,hk⟩
     . exact .inr ⟨i,.inl hi,hs⟩
   . rintro(x | ⟨i,hi | ⟨rfl,rfl⟩,hs⟩)
     . exact .inl x.1
     . exact .inr ⟨i,hi,hs⟩
     . exact .inl hEj
 . refine⟨⟨?_,?_,?_⟩,?_,fun m hm=>.inl (p.qgl m hm),⟨?_,?_,?_⟩,?_,fun m hm=>.inl (p.glob m hm),?_,?_,p.gr_,?_,?_,fun k hk=>p.elt k hk.1,p.rlt,?_⟩
   . rintro i k k' (h1 | ⟨rfl,rfl⟩) (h2 | ⟨h2,rfl⟩)
     . exact p.qok.fn h1 h2
     . subst h2; exact absurd h1 noq
     . exact absurd h2 noq
     . rfl
   . rintro i i' k (h1 | ⟨rfl,rfl⟩) (h2 | ⟨rfl,h2⟩)
     . exact p.qok.inj h1 h2
     . subst h2; exact absurd h1 noq'
     . exact absurd h2 noq'
     . rfl
   . rintro i k (h1 | ⟨rfl,rfl⟩) hk
     . exact p.qok.glob h1 hk
     . rfl
   . rintro v hv i k (h1 | ⟨rfl,rfl⟩)
     . obtain⟨x,y,e1,e2,e3⟩:=p.qwr u rfl i k h1;exact⟨x,y,old hv e1,old hv e2,e3.mono fun _ _=>.inl⟩
     . exact⟨_,_,new hv,new hv,OR.self hp⟩
   . rintro i k k' (h1 | ⟨rfl,rfl⟩) (h2 | ⟨h2,rfl⟩)
     . exact p.ok.fn h1 h2
     . subst h2; exact absurd h1 no
     . exact absurd h2 no
     . rfl
   . rintro i i' k (h1 | ⟨rfl,rfl⟩) (h2 | ⟨rfl,h2⟩)
     . exact p.ok.inj h1 h2
     . subst h2; exact absurd hEj (p.ex _ _ h1)
     . exact absurd hEj (p.ex _ _ h2)
     . rfl
   . rintro i k (h1 | ⟨rfl,rfl⟩) hk
     . exact p.ok.glob h1 hk
     . rcases hk with hk | hk<;>omega
   . rintro v hv i k (h1 | ⟨rfl,rfl⟩)
     . obtain⟨x,y,e1,e2,e3⟩:=p.wr u rfl i k h1;exact⟨x,y,old hv e1,e2,e3.mono fun _ _=>.inl⟩
     . exact⟨_,_,new hv,ho,hr _⟩
   . intro v hv i hi;obtain⟨cc,tt,ff,y,z⟩:=p.seal_ u rfl i hi;exact⟨cc,tt,ff,old hv y,z⟩
   . show X.G<=(u.heap.push _).size
     rw[Array.size_push];omega
   . rintro i k (h1 | ⟨rfl,rfl⟩) hi
     . exact p.ro i k h1 hi
     . exact absurd hi (Nat.not_lt.2 hNu)
   . rintro i k (h1 | ⟨rfl,rfl⟩) hk
     . exact p.ex i k h1 hk.1
     . exact hk.2 rfl
   . rintro i k (h1 | ⟨rfl,rfl⟩) hk
     . exact p.ro' i k h1 hk
     . exact absurd hk (Nat.not_lt.2 hNj)
 . have b2:ArrR X.L (fun x y=>q x y\/(x=u.heap.size/\y=u.heap.size)) T T:=b.mono fun _ _=>.inl;unfold Bh; split
   . exact b2.set _ (.slice n c ⟨.inr ⟨rfl,rfl⟩,rfl,rfl⟩)
   . exact b2
 . have c2:ArrR X.L (fun x y=>r x y\/(x=u.heap.size/\y=j)) T T':=c1.mono fun _ _=>.inl;unfold Bh; split
   . exact c2.set _ (.slice n c ⟨.inr ⟨rfl,rfl⟩,rfl,rfl⟩)
   . exact c2
end
end Go.Proofs.YtaemcekcancpdaaGreatDoor.Ren
