import Derived.Test.YtaemcekcancpdaaGreatDoorZRunA
import Derived.Test.YtaemcekcancpdaaGreatDoorZSendB
set_option linter.all false
set_option maxRecDepth 100000
set_option maxHeartbeats 8000000
namespace Go.Proofs.YtaemcekcancpdaaGreatDoor
open Go.RowKit
open M
open Ren
open Go.Conc
abbrev fP:FuncId:=25
theorem IG:PP.funcs[fP]?=some Tryz.f25:=Tryz.func25
theorem Vw:XR.C p0:=by show AH PP Ck Cn p0=true; kernel_rfl
theorem Vx:XR.C p3:=by show AH PP Ck Cn p3=true; kernel_rfl
theorem Vy:∀ i∈[1],∀ o,(cO p1)[i]?=some o->OpOk XR gR o.op:=Bz (by kernel_rfl)
theorem Vz:∀ i∈[0,1,2],∀ o,(cO p2)[i]?=some o->OpOk XR gR o.op:=Bz (by kernel_rfl)
theorem Qp:PP.follows .mixedOrders=true:=by kernel_rfl
theorem OK:∃ dr,PP.underlying 54=some (.chan dr 34):=by
 have h:(match PP.underlying 54 with | some (.chan _ e)=>Nat.beq e 34 | _=>false)=true:=by kernel_rfl
 split at h
 . rename_i dr e he;exact⟨dr,by rw[he,Nat.eq_of_beq_eq_true h]⟩
 . cases h
theorem OL:∃ dr,PP.underlying 70=some (.chan dr 34):=by
 have h:(match PP.underlying 70 with | some (.chan _ e)=>Nat.beq e 34 | _=>false)=true:=by kernel_rfl
 split at h
 . rename_i dr e he;exact⟨dr,by rw[he,Nat.eq_of_beq_eq_true h]⟩
 . cases h
theorem IH:∃ inf,PP.info? 34=some inf/\inf.zero=some (sva z0)/\(inf.bytes:Int)*5<=281474976710544:=by
 have h1:(PP.info? 34).map (·.zero)=some (some (sva z0)):=by kernel_rfl
 have h2:(match PP.info? 34 with | some i=>Nat.ble i.bytes 1000 | none=>false)=true:=by kernel_rfl
 cases h:PP.info? 34 with
 | none=>rw[h] at h1; cases h1
 | some inf =>
  rw[h] at h1 h2;have h3:=Nat.le_of_ble_eq_true h2;exact⟨inf,rfl,by simpa using h1,by omega⟩
theorem ON{X:Ctx}{R:Rho}{a:Array Value}(h:∀ x∈a,Jz X R x):Jz X R (.agg a):=fun r v' ok hr k=>by
 cases k with
 | @agg _ b ha ka =>
  congr 1;apply Array.ext ha.symm;intro i h1 h2;exact h a[i] (Array.getElem_mem h2) r b[i] ok hr (ka i _ _ (by simp[h2]) (by simp[h1]))
theorem DF{W:World}{A:Option Addr}{n c:Nat}(h:Cel W A):Jz XR (vr W W.heap.size) (.slice A n c):=fun r v' ok hr k=>by
 obtain⟨A',rfl,⟨rfl,rfl⟩ | ⟨a,a',rfl,rfl,h1,h2,h3⟩⟩:=CQ k
 . rfl
 . have e:a'.block=a.block:=ok.fn h1 (hr _ _ ⟨rfl,h.lt rfl,(h a rfl).2⟩);obtain⟨b',o',s'⟩:=a';obtain⟨b,o,s⟩:=a;dsimp only at e h2 h3;subst e h2 h3;rfl
theorem Lv.At.rigid{L:Lv}{W:World}(h:L.At W):Jz XR (vr W W.heap.size) L.val:=ON fun x hx=>by
 simp only[List.mem_toArray,List.mem_cons,List.not_mem_nil,or_false] at hx;rcases hx with rfl | rfl | rfl | rfl | rfl | rfl | rfl | rfl | rfl | rfl | rfl<;>first | exact(Flat.int _ _).rigid | exact DF h.ca | exact DF h.cg
def Lv.stl(L:Lv)(s:St):List In->List St
 | []=>[]
 | q::xs=>L.nx s q::L.stl (L.nx s q) xs
theorem Lv.tail_map(L:Lv):∀(xs:List In) (s:St),L.tail s xs=(L.stl s xs).map sva
 | [],s=>rfl
 | q::xs,s=>by simp only[Lv.tail,Lv.stl,List.map_cons,L.tail_map xs]
theorem Lv.last(L:Lv):∀(xs:List In) (s:St),(L.stl s xs).foldl (fun _ x=>x) s=xs.foldl L.nx s
 | [],s=>rfl
 | q::xs,s=>by simp only[Lv.stl,List.foldl_cons,L.last xs]
theorem Kn(L:Lv):∀(xs:List In) (s:St),(L.stl s xs).length=xs.length
 | [],s=>rfl
 | q::xs,s=>by simp[Lv.stl,Kn L xs]
theorem Qq(L:Lv):∀(xs:List In) (s:St) (k:Nat),k<=xs.length->(s::L.stl s xs)[k]?=some ((xs.take k).foldl L.nx s)
 | xs,s,0,_=>rfl
 | [],s,k+1,h=>by simp at h
 | q::xs,s,k+1,h=>by
  have:=Qq L xs (L.nx s q) k (by simpa using h);simpa[Lv.stl] using this
theorem Qr(L:Lv)(A G:Option Addr):∀(xs:List In) (s:St),Lv.stl { L with A:=A,G:=G } s xs=L.stl s xs
 | [],s=>rfl
 | q::xs,s=>congrArg (L.nx s q::·) (Qr L A G xs (L.nx s q))
section
variable {N:Nat} {R:Rho} {B:Nat->Option Obj} {K:Nat->Prop} {O:Nat->Prop} {T:Array Value} {w:World} {W:World} {Q:Array Value->World->Prop}
theorem A8{T:Array Value}{i:Nat}{v:Value}(h:i<T.size):(Bh T (some i) v).getD i undef=v:=by simp[Bh,h]
theorem Aj{T:Array Value}{i j:Nat}{v:Value}(h:i≠j):(Bh T (some i) v).getD j undef=T.getD j undef:=by
 simp only[Bh,Array.getD_eq_getD_getElem?];rw[Array.getElem?_setIfInBounds_ne h]
theorem size_put{T:Array Value}{i:Option Nat}{v:Value}:(Bh T i v).size=T.size:=by unfold Bh; split<;>simp
theorem EI(s:St)(b:Bool):Flat (.tuple #[sva s,.bool b]):=.tuple (by simp) fun x hx=>by
 simp only[List.mem_toArray,List.mem_cons,List.not_mem_nil,or_false] at hx;rcases hx with rfl | rfl
 . exact IM s
 . exact .bool b
theorem Qs{T:Array Value}{i j:Nat}:#[Operand.tmp i,Operand.tmp j].map (⟨T,[]⟩:Act).eval=#[T.getD i undef,T.getD j undef]:=by
 rw[List.map_toArray]; rfl
theorem UF{T:Array Value}{i j k:Nat}:#[Operand.tmp i,Operand.tmp j,Operand.tmp k].map (⟨T,[]⟩:Act).eval=#[T.getD i undef,T.getD j undef,T.getD k undef]:=by
 rw[List.map_toArray]; rfl
theorem EJ(al:Ren.Alike W w)(h:Sit XR gR W.heap.size R K B Q T O w)(hb:∀ j,j<W.heap.size->B j=W.heap[j]?):Below W.heap.size W w :=
 ⟨al.os,al.tape,al.out,h.top,fun j hj=>(h.base j (.inr hj)).trans (hb j hj)⟩
theorem CS(hQ:Quarter W)(hw:∀ j,j<W.heap.size->w.heap[j]?=W.heap[j]?):∀ n,gR n->n<W.heap.size/\∃ c t f,w.heap[n]?=some (.cells c t f):=fun n hn=>by
 have hn:Nat.beq n 0=true:=hn;have:=Nat.eq_of_beq_eq_true hn;subst this;refine⟨Ef hQ.q0,?_⟩;rw[hw 0 (Ef hQ.q0)];exact F7 hQ.q0
theorem Nv(hw:∀ j,j<W.heap.size->w.heap[j]?=W.heap[j]?):vr w W.heap.size=vr W W.heap.size:=by
 funext i j;apply propext;constructor
 . rintro⟨h1,h2,h3⟩; exact⟨h1,h2,by rw[<- hw i h2]; exact h3⟩
 . rintro⟨h1,h2,h3⟩; exact⟨h1,h2,by rw[hw i h2]; exact h3⟩
end
section
variable {N:Nat} {R:Rho} {B:Nat->Option Obj} {K:Nat->Prop} {k tc ts tk id b1:Nat} {cs:List Frame} {f:FuncId} {fn:Func} {rO:Array Oper} {body:Code} {rest:List Item} {I:List St->Array Value->World->Prop}
abbrev Tv(id tk b1:Nat)(rO:Array Oper)(body:Code):Code:=.seq (.region id rO false) (.seq (.cond (.tmp tk) .skip (.exit 0)) (.block b1 body))
structure RecvL(k tc ts tk:Nat)(f:FuncId)(fn:Func)(rO:Array Oper)(I:List St->Array Value->World->Prop):Prop where
 fat:PP.funcs[f]?=some fn
 range:List.range rO.size=[0,1]
 op:∃ o,rO[0]?=some o/\o.guard=none/\o.dst=some ts/\o.op=.recv 54 (.tmp tc) true
 ok1:∀ i∈[1],∀ o,rO[i]?=some o->OpOk XR gR o.op
 hpo:∀ pre,Hpo (I pre)
 chan:∀{pre T u},I pre T u->T.getD tc undef=.chan (some k)
 put:∀{pre T u} v,I pre T u->I pre (Bh T (some ts) v) u/\(Bh T (some ts) v).getD ts undef=v
 two:∀{pre T u v b},I pre T u->T.getD ts undef=.tuple #[v,.bool b]->wpOps Tryz.prog rO (fun e a u=>e=.normal/\a.defers=[]/\(I pre a.tmps u/\a.tmps.getD ts undef=.tuple #[v,.bool b])/\a.tmps.getD tk undef=.bool b) [1] ⟨T,[]⟩ u
def Sk(N:Nat)(R:Rho)(K:Nat->Prop)(B:Nat->Option Obj)(f:FuncId)(id tk b1 ts:Nat)(rO:Array Oper)(body:Code)(rest:List Item)(cs:List Frame)(J:Array Value->World->Prop):(Nat->Prop)->Goroutine->World->Prop:=fun O a w =>
 ∃ T,a=Bb (F f T (.inRegion rO [1]::.code (.seq (.cond (.tmp tk) .skip (.exit 0)) (.block b1 body))::.inLoop (Tv id tk b1 rO body)::.inBlock 0::rest)) cs/\Sit XR gR N R K B (fun T u=>J T u/\T.getD ts undef=.tuple #[sva z0,.bool false]) T O w
theorem Ly(X:RecvL k tc ts tk f fn rO I)(all:List St)
 (hb:∀(pre:List St) (s':St),pre.length<all.length->∀{Stop:(Nat->Prop)->Goroutine->World->Prop} {KK:List Item} {T:Array Value} {O:Nat->Prop} {w:World},Sit XR gR N R K B (fun T u=>I pre T u/\T.getD ts undef=.tuple #[sva s',.bool true]) T O w ->
  (∀ T2 O2 w2,Sit XR gR N R K B (I (pre++[s'])) T2 O2 w2->Co PP true (Lt N) Stop O2 (Bb (F f T2 KK) cs) w2)->Co PP true (Lt N) Stop O (Bb (F f T (.code body::KK)) cs) w) :
 ∀(ss pre:List St),pre++ss=all->∀{T:Array Value} {O:Nat->Prop} {w:World},Sit XR gR N R K B (I pre) T O w ->
 Co PP true (Lt N) (CStop PP k (Lt N) (Sk N R K B f id tk b1 ts rO body rest cs (I all)) (ss.map sva)) O (Bb (F f T (.code (Tv id tk b1 rO body)::.inLoop (Tv id tk b1 rO body)::.inBlock 0::rest)) cs) w:=by
 obtain⟨dr,hch⟩:=OK;obtain⟨inf,hi,hz,_⟩:=IH;obtain⟨o,ho,hg,hd,hop⟩:=X.op;intro ss
 induction ss with
 | nil =>
  intro pre hall T O w h;refine h.ctl rfl (fun w1=>AF) ?_;refine h.ctl rfl (fun w1=>Ba) ?_;refine .stop fun w1 hk=>?_;have h1:=h.keep hk;have hc:=h1.slot (i:=tc) (.chan (some k)) fun T u x=>X.chan x;rw[X.range];refine⟨rfl,sva z0,Qm (i:=0) (l:=[1]) ho hg hop hc hch hi hz,fun w2 hk2=>?_⟩;have h2:=h1.keep hk2;refine⟨Bh T (some ts) (.tuple #[sva z0,.bool false]),?_,?_⟩
  . rw[F4 (i:=0) _ ho,hd]; rfl
  . rw[<- hall,List.append_nil];exact h2.put (EI z0 false) (some ts) fun T u x=>X.put _ x
 | cons s' ss ih =>
  intro pre hall T O w h;refine h.ctl rfl (fun w1=>AF) ?_;refine h.ctl rfl (fun w1=>Ba) ?_;refine .stop fun w1 hk=>?_;have h1:=h.keep hk;have hc:=h1.slot (i:=tc) (.chan (some k)) fun T u x=>X.chan x;rw[X.range];refine⟨rfl,⟨sva z0,Qm (i:=0) (l:=[1]) ho hg hop hc hch hi hz⟩,?_⟩;have h2:=h1.put (v:=.tuple #[sva s',.bool true]) (Q1:=fun T u=>I pre T u/\T.getD ts undef=.tuple #[sva s',.bool true]) (EI s' true) (some ts) fun T u x=>X.put _ x;rw[F4 (i:=0) _ ho,hd]
  show Co PP true (Lt N) _ O (Bb (F f (Bh T (some ts) (.tuple #[sva s',.bool true])) (.inRegion rO ([1]++[])::.code (.seq (.cond (.tmp tk) .skip (.exit 0)) (.block b1 body))::.inLoop (Tv id tk b1 rO body)::.inBlock 0::rest)) cs) w1
  refine h2.ops (l1:=[1]) (l2:=[]) AJ AK Av (fun T u u' x e=>⟨X.hpo _ T u u' x.1 e,x.2⟩) nn (Am X.fat) X.ok1 (Q1:=fun T u=>(I pre T u/\T.getD ts undef=.tuple #[sva s',.bool true])/\T.getD tk undef=.bool true) (fun T u x=>X.two x.1 x.2) fun T3 O3 y3 h3=>?_;have h31:=h3.slot (i:=tk) (.bool true) fun T u x=>x.2;refine h3.ctl rfl (fun w1=>BG) ?_;refine h3.ctl rfl (fun w1=>AF) ?_;refine h3.ctl rfl (fun w1=>EH (t:=true) (by exact h31)) ?_;refine h3.ctl rfl (fun w1=>Kk) ?_;refine h3.ctl rfl (fun w1=>F2) ?_;refine hb pre s' (by rw[<- hall]; simp) (h3.mono fun T u x=>x.1) fun T5 O5 y5 h5=>?_
  refine h5.ctl rfl (fun w1=>Jw) ?_;refine h5.ctl rfl (fun w1=>Lw) ?_;exact ih (pre++[s']) (by simpa using hall) h5
theorem Lz{pre:List St}{a:Goroutine}{O:Nat->Prop}{w:World}{Stop:(Nat->Prop)->Goroutine->World->Prop}(X:RecvL k tc ts tk f fn rO I)(hF:Sk N R K B f id tk b1 ts rO body rest cs (I pre) O a w)
 (kk:∀ T O w,Sit XR gR N R K B (I pre) T O w->Co PP true (Lt N) Stop O (Bb (F f T rest) cs) w):Co PP true (Lt N) Stop O a w:=by
 obtain⟨T,rfl,h⟩:=hF
 show Co PP true (Lt N) _ O (Bb (F f T (.inRegion rO ([1]++[])::.code (.seq (.cond (.tmp tk) .skip (.exit 0)) (.block b1 body))::.inLoop (Tv id tk b1 rO body)::.inBlock 0::rest)) cs) w
 refine h.ops (l1:=[1]) (l2:=[]) AJ AK Av (fun T u u' x e=>⟨X.hpo _ T u u' x.1 e,x.2⟩) nn (Am X.fat) X.ok1 (Q1:=fun T u=>(I pre T u/\T.getD ts undef=.tuple #[sva z0,.bool false])/\T.getD tk undef=.bool false) (fun T u x=>X.two x.1 x.2) fun T3 O3 y3 h3=>?_;have h31:=h3.slot (i:=tk) (.bool false) fun T u x=>x.2;refine h3.ctl rfl (fun w1=>BG) ?_;refine h3.ctl rfl (fun w1=>AF) ?_;refine h3.ctl rfl (fun w1=>EH (t:=false) (by exact h31)) ?_;refine h3.ctl rfl (fun w1=>Qg (k':=rest) rfl) ?_;exact kk _ _ _ (h3.mono fun T u x=>x.1.1)
end
section
variable {W:World} {L:Lv} {A:Option Addr} {m cap:Nat} {xs:List In} {cs:List Frame} {Q:Array Value->World->Prop} {T:Array Value} {O:Nat->Prop} {w:World} {G:Goroutine->World->Prop}
theorem Ren.Sit.states(hQ:Quarter W)(hL:L.At W)(hY:Inputs W A m xs)(hA:Cel W A)(hm:m<=281474976710656)(hG:XR.G<=W.heap.size)(h:Sit XR gR W.heap.size (vr W W.heap.size) (fun _=>False) (fun j=>W.heap[j]?) Q T O w){f:FuncId}{ops:Array Oper}{i:Nat}{l:List Nat}{k:List Item}{o:Oper}{a b d:Nat}{ats:Array TypeId}
 (ho:ops[i]?=some o) (hg:o.guard=none) (hd:o.dst=some d) (hop:o.op=.call { callee:=.value (.func fP),args:=#[.tmp a,.tmp b],argTypes:=ats }) (hq:∀ T u,Q T u->T.getD a undef=L.val/\T.getD b undef=.slice A m cap) (Fin:Nat->(Nat->Prop)->Goroutine->World->Prop)
 (loop:∀ ch O2 w2,Sit XR gR W.heap.size (vr W W.heap.size) (fun _=>False) (fun j=>W.heap[j]?) (fun T u=>∃ T0,Q T0 u/\T=Bh T0 (some d) (.chan (some ch))) (Bh T (some d) (.chan (some ch))) O2 w2->Co PP true (Lt W.heap.size) (CStop PP ch (Lt W.heap.size) (Fin ch) ((L.s0::L.stl L.s0 xs).map sva)) O2 (Bb (F f (Bh T (some d) (.chan (some ch))) (.inRegion ops l::k)) cs) w2)
 (fin:∀ ch O a w',Fin ch O a w'->Below W.heap.size W w'->Ren.Way PP G a w'):Co PP true (Lt W.heap.size) (Dq PP W G) O (Bb (F f T (.inRegion ops (i::l)::k)) cs) w:=by
 refine h.ctl rfl (fun w1=>Qh (fn:=Tryz.f25) (c:=pB) ho hg hop IG rfl rfl) ?_;have e25:=h.slotR (i:=a) hL.rigid fun T u x=>(hq T u x).1;have e28:=h.slotR (i:=b) (DF hA) fun T u x=>(hq T u x).2;rw[Qs,e25,e28,Ds IG (c:=pB) rfl,UE];have w4:∀ j,j<W.heap.size->w.heap[j]?=W.heap[j]?:=fun j hj=>h.base j (.inr hj);have ha2:ArrR XR.L (vr w W.heap.size) (#[L.val,.slice A m cap]++Array.replicate 9 undef) (#[L.val,.slice A m cap]++Array.replicate 9 undef):=by
  rw[Nv w4];exact((ArrR.one hL.self).push (Br hA)).append (.replicate _ (.tuple rfl fun i x y h=>by simp at h))
 have p:Sit XR gR W.heap.size (vr w W.heap.size) O (fun j=>w.heap[j]?) (fun T u=>T=#[L.val,.slice A m cap]++Array.replicate 9 undef/\Hp (vh W W.heap.size) u) (#[L.val,.slice A m cap]++Array.replicate 9 undef) O w :=
  Sit.start h.top hG (CS hQ w4) (fun j hj=>⟨h.ge j hj,h.lt j hj⟩) ha2 ha2 (fun _ _=>rfl) (fun u hu=>⟨rfl,Hp.refl (hu.trans (Nt (Nat.le_refl _) h.top w4))⟩)
 refine p.ctl rfl (fun w1=>AF) ?_;refine p.wp AJ AK Av (fun T u u' x e=>⟨x.1,x.2.same e⟩) nn (Am IG) Vw (Q1:=fun T u=>∃ b,Pa (vh W W.heap.size) L.cs (.slice A m cap) b T u) (fun T u x=>?_) fun T5 O5 y5 p5=>?_
 . rw[x.1,TA];exact u0 (J:=fun z=>match z with | 0=>L.val | 1=>.slice A m cap | _=>undef) x.2 rfl rfl
 obtain⟨b',p5⟩:=p5.split;refine p5.ctl rfl (fun w1=>AF) ?_;refine p5.ctl rfl (fun w1=>by rw[show p1=.region 1 (cO p1) false from rfl]; exact Ba) ?_;obtain⟨dr,tch⟩:=OL;obtain⟨inf,hi,_,hby⟩:=IH;obtain⟨oc,hoc,hgc,hdc,hopc⟩:∃ o,(cO p1)[0]?=some o/\o.guard=none/\o.dst=some 6/\o.op=.makeChan 70 (.const (.int .i64 5)):=⟨_,rfl,rfl,rfl,rfl⟩;refine .stop fun w1 hk al=>?_;have q:=p5.keep hk;refine Ren.Way.step rfl fun dd=>?_
 have hmk:=Mq (P:=PP) (mn:=true) (w:=w1.at dd) (f:=fP) (T:=T5) (k:=[.code (.seq p2 (.seq p3 .ret))]) (cs:=F f T (.inRegion ops (i::l)::k)::cs) (l:=[1]) nn (n:=5) hoc hgc hopc tch hi (by omega) hby;refine⟨_,_,#[],hmk,by simp,by simp; exact Nat.le_succ w1.heap.size,?_⟩;rw[hdc];generalize hk1:(w1.at dd).heap.size=ch;have hch1:w1.heap.size=ch:=hk1;generalize hw2:(w1.at dd).alloc (.chan 5 #[] false 0 0 false)=w2;have s2:w2.heap.size=ch+1:=by rw[<- hw2,<- hk1]; simp
 have b2:∀ j,j<ch->w2.heap[j]?=w1.heap[j]?:=fun j hj=>by
  rw[<- hw2]
  show((w1.at dd).heap.push _)[j]?=_
  rw[Array.getElem?_push,if_neg (by rw[hk1]; omega)];rfl
 have c2:w2.heap[ch]?=some (.chan 5 #[] false 0 0 false):=by
  rw[<- hw2,<- hk1]
  show((w1.at dd).heap.push _)[(w1.at dd).heap.size]?=_
  simp
 have al2:Ren.Alike W w2:=by
  rw[<- hw2];exact⟨al.os,al.tape,al.out⟩
 have nch:W.heap.size<=ch:=hch1▸q.top;have och:∀ j,O5 j->j<ch:=fun j hj=>hch1▸q.lt j hj;have r:=q.resume (w2:=w2) (O2:=fun j=>O5 j\/j=ch) (by have:=q.top; show XR.G<=_; omega) (by have:=q.top; omega) (fun j hj=>b2 j (hj.elim (och j) fun h=>Nat.lt_of_lt_of_le h nch)) (fun j hj=>.inl hj)
  (fun j hj=>hj.elim (fun h=>⟨q.ge j h,by have:=och j h; omega⟩) fun h=>⟨by omega,by omega⟩) (K2:=fun j=>O j\/j=ch) (fun j hj=>hj.imp id fun h=>⟨.inr h,fun h'=>by have:=och j h'; omega⟩)
 have r:=r.put (v:=.chan (some ch)) (Q1:=fun T u=>Pa (vh W W.heap.size) L.cs (.slice A m cap) b' T u/\T.getD 6 undef=.chan (some ch)) (.chan _) (some 6) fun T u x=>⟨⟨size_put.trans x.size,(Aj (by omega)).trans x.t1,(Aj (by omega)).trans x.t2,x.L,x.hp,x.lb⟩,A8 (by rw[x.size]; omega)⟩;have hw2j:∀ j,O j\/j<W.heap.size->w2.heap[j]?=w.heap[j]?:=fun j hj=>(b2 j (hj.elim (fun h=>och j (p5.has j h)) fun h=>Nat.lt_of_lt_of_le h nch)).trans (q.base j hj);refine Ren.Way.of_co (W:=W) (RO:=Lt W.heap.size) ?_ al2 (fun j hj=>by have hj:j<W.heap.size:=hj; omega) (O:=fun j=>O5 j\/j=ch)
 show Co PP true (Lt W.heap.size) _ _ (Bb (F fP _ (.inRegion (cO p1) ([1]++[])::_)) _) w2
 refine r.ops (l1:=[1]) (l2:=[]) AJ AK Av (fun T u u' x e=>⟨Pa.hpo T u u' x.1 e,x.2⟩) nn (Am IG) Vy (Q1:=fun T u=>Pa (vh W W.heap.size) L.cs (.slice A m cap) b' T u/\T.getD 5 undef=.chan (some ch)) (fun T u x=>u1 x.1 x.2) fun T6 O6 y6 p6=>?_;refine p6.ctl rfl (fun w1=>BG) ?_;refine p6.ctl rfl (fun w1=>AF) ?_;refine p6.ctl rfl (fun w1=>by rw[show p2=.region 2 (cO p2) false from rfl]; exact Ba) ?_
 refine p6.ops (l1:=[0,1,2]) (l2:=[3]) AJ AK Av (fun T u u' x e=>⟨Pa.hpo T u u' x.1 e,x.2⟩) nn (Am IG) Vz (Q1:=fun T u=>(Pa (vh W W.heap.size) L.cs (.slice A m cap) b' T u/\T.getD 5 undef=.chan (some ch))/\T.getD 7 undef=L.val/\T.getD 8 undef=.slice A m cap/\T.getD 9 undef=.chan (some ch)) (fun T u x=>u2 x.1 x.2) fun T7 O7 y7 p7=>?_;have w4r:vr w W.heap.size=vr W W.heap.size:=Nv w4;rw[w4r] at p7;have e7:=p7.slotR (i:=7) hL.rigid fun T u x=>x.2.1;have e8:=p7.slotR (i:=8) (DF hA) fun T u x=>x.2.2.1;have e9:=p7.slot (i:=9) (.chan (some ch)) fun T u x=>x.2.2.2
 obtain⟨og,hog,hgg,hdg,atg,hopg⟩:∃ o,(cO p2)[3]?=some o/\o.guard=none/\o.dst=none/\∃ ats,o.op=.go { callee:=.value (.func fS),args:=#[.tmp 7,.tmp 8,.tmp 9],argTypes:=ats }:=⟨_,rfl,rfl,rfl,_,rfl⟩;refine .stop fun w8 hk8 al8=>?_;have g:=p7.keep hk8;have lo8:Below W.heap.size W w8:=⟨al8.os,al8.tape,al8.out,g.top,fun j hj=>(g.base j (.inr hj)).trans ((hw2j j (.inr hj)).trans (w4 j hj))⟩;have gch:w8.heap[ch]?=some (.chan 5 #[] false 0 0 false):=(g.base ch (.inl (.inr rfl))).trans c2;have gd:=g.drop (k:=ch) (.inr rfl);have o4:∀ j,O j->j≠ch:=fun j hj e=>by
  have:=och j (p5.has j hj);omega
 have hstl:L.tail L.s0 xs=(L.stl L.s0 xs).map sva:=L.tail_map _ _;refine Ren.Way.fork (k:=ch) (cap:=5) (N:=W.heap.size) (W:=W) (RO:=Lt W.heap.size) (OM:=fun j=>O7 j/\j≠ch) (OP:=fun _=>False) (s:=0) (r:=0) (by omega) rfl
  (vs:=(L.s0::L.stl L.s0 xs).map sva)
  (g':=Bb (F fP T7 [.inRegion (cO p2) [],.code (.seq p3 .ret)]) (F f T (.inRegion ops (i::l)::k)::cs))
  (child:=born PP { target:=.fn (.func fS) #[],args:=#[L.val,.slice A m cap,.chan (some ch)] })
  (Fin:=Fin ch) (fun d=>?_) gch ?_ ?_ ?_ ?_ ?_ lo8 nch (fun j hj=>g.ge j hj.1) (fun _ h=>h.elim) g.top ?_
 . have:=U3 (P:=PP) (mn:=true) (w:=w8.at d) (f:=fP) (T:=T7) (k:=[.code (.seq p3 .ret)]) (cs:=F f T (.inRegion ops (i::l)::k)::cs) (l:=[]) nn hog hgg hopg;rw[hdg,UF,e7,e8,e9] at this;exact this
 ·
  refine gd.ctl rfl (fun w1=>BG) ?_;refine gd.ctl rfl (fun w1=>AF) ?_;refine gd.wp AJ AK Av (fun T u u' x e=>⟨⟨Pa.hpo T u u' x.1.1 e,x.1.2⟩,x.2⟩) nn (Am IG) Vx (Q1:=fun T u=>T.getD 4 undef=.chan (some ch)) (fun T u x=>u3 x.1.1 x.1.2) fun T9 O9 y9 p9=>?_;refine p9.ctl rfl (fun w1=>Jy) ?_;refine p9.back (v:=.chan (some ch)) (fun T u u' x e=>x) (.chan _) IG (fun T u x=>Ts x) fun Oa ya pa=>?_;rw[F5 (l:=l) _ ho,hd];have ra:=h.resume (w2:=ya) (O2:=Oa) (Nat.le_trans hG pa.top) pa.top (fun j hj=>?_) (fun j hj=>pa.has j ⟨.inl hj,o4 j hj⟩) (fun j hj=>⟨pa.ge j hj,pa.lt j hj⟩) (K2:=fun _=>False) (fun j hj=>hj.elim)
  rotate_left
  . rw[pa.base j (hj.imp (fun h=>⟨.inl h,o4 j h⟩) id)];exact hw2j j hj
  have ra:=ra.rebase (B2:=fun j=>W.heap[j]?) fun j hj=>(pa.base j (.inr (hj.resolve_left id))).trans ((hw2j j (.inr (hj.resolve_left id))).trans (w4 j (hj.resolve_left id)));exact loop ch _ _ (ra.put (.chan _) (some d) fun T u x=>⟨T,x,rfl⟩)
 . have:=Qv (k:=ch) (cap:=cap) (w:=w8) hQ hL hY hm hG hA g.top (fun j hj=>lo8.block j hj);rw[hstl] at this;exact this
 . exact⟨fun j _ h=>h,fun j hj h=>by have h:j<W.heap.size:=h; have:=g.ge j hj.1; omega,fun j h _=>h,fun h=>h.2 rfl,fun h=>h,fun h=>by have h:ch<W.heap.size:=h; omega⟩
 . exact fun j hj=>hj.elim (fun h=>g.lt j h.1) fun h=>Nat.lt_of_lt_of_le h g.top
 . exact fun j hj=>hj.elim (fun h=>h.elim) fun h=>Nat.lt_of_lt_of_le h g.top
 . exact fun O a w' hF lo=>fin ch O a w' hF lo
end
end Go.Proofs.YtaemcekcancpdaaGreatDoor
