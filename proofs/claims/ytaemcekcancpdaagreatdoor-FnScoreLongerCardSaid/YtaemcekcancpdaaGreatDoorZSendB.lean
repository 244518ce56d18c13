import Derived.Test.YtaemcekcancpdaaGreatDoorZRunVal
import Derived.Test.YtaemcekcancpdaaGreatDoorZStepE
import Derived.Test.YtaemcekcancpdaaGreatDoorZLegImpl
set_option linter.all false
set_option maxRecDepth 100000
set_option maxHeartbeats 8000000
namespace Go.Proofs.YtaemcekcancpdaaGreatDoor
open Go.RowKit
open M
open Ren
open Go.Conc
noncomputable abbrev PP:Program:=Tryz.prog
theorem Bz{ops:Array Oper}{l:List Nat}(h:(l.all fun i=>match ops[i]? with | some o=>Kv PP Ck Cn o.op | none=>true)=true):∀ i∈l,∀ o,ops[i]?=some o->OpOk XR gR o.op:=fun i hi o ho=>Qc (by have:=List.all_eq_true.1 h i hi; simpa[ho] using this)
theorem Am{f:FuncId}{fn:Func}(h:PP.funcs[f]?=some fn):XR.L.h f:=by show(PP.funcs[f]?).isSome=true; rw[h]; rfl
theorem Ds{P:Program}{f:FuncId}{fn:Func}{c:Code}{args:Array Value}{kd:CallKind}(hf:P.funcs[f]?=some fn)(hb:fn.body=some c):Frame.enter P f args kd=F f (args++Array.replicate (fn.ntmps-args.size) undef) [.code c] kd:=by
 simp[Frame.enter,hf,hb]
theorem Sl.hpo{h0:Array Obj}{lv:List Value}{is ch:Value}{b:Nat}:Hpo (Sl h0 lv is ch b):=fun _ _ _ h e=>{ h with L:=h.L.same e,hp:=h.hp.same e }
theorem Ss.hpo{h0:Array Obj}{lv:List Value}{is ch:Value}{b c:Nat}{st:List Value}:Hpo (Ss h0 lv is ch b c st):=fun _ _ _ h e=>{ h with L:=h.L.same e,hp:=h.hp.same e,S:=h.S.same e }
theorem Sc.hpo{h0:Array Obj}{lv:List Value}{is ch:Value}{n b c j:Nat}{st:List Value}:Hpo (Sc h0 lv is ch n b c j st):=fun _ _ _ h e=>{ h with L:=h.L.same e,hp:=h.hp.same e,S:=h.S.same e }
theorem Si.hpo{h0:Array Obj}{lv:List Value}{is ch:Value}{n b c d j:Nat}{st x:List Value}:Hpo (Si h0 lv is ch n b c d j st x):=fun _ _ _ h e=>{ h with L:=h.L.same e,hp:=h.hp.same e,S:=h.S.same e,X:=h.X.same e }
theorem Hpo.and{Q:Array Value->World->Prop}{p:Array Value->Prop}(h:Hpo Q):Hpo fun T u=>Q T u/\p T:=fun T u u' x e=>⟨h T u u' x.1 e,x.2⟩
theorem Ty(a b c:Value):#[a,b,c]++Array.replicate 31 undef=#[a,b,c,undef,undef,undef,undef,undef,undef,undef,undef,undef,undef,undef,undef,undef,undef,undef,undef,undef,undef,undef,undef,undef,undef,undef,undef,undef,undef,undef,undef,undef,undef,undef]:=by kernel_rfl
theorem Tz(a b c:Value):#[a,b,c]++Array.replicate 32 undef=#[a,b,c,undef,undef,undef,undef,undef,undef,undef,undef,undef,undef,undef,undef,undef,undef,undef,undef,undef,undef,undef,undef,undef,undef,undef,undef,undef,undef,undef,undef,undef,undef,undef,undef]:=by kernel_rfl
theorem TA(a b:Value):#[a,b]++Array.replicate 9 undef=#[a,b,undef,undef,undef,undef,undef,undef,undef,undef,undef]:=by kernel_rfl
abbrev fS:FuncId:=39
theorem Dt:PP.funcs[fS]?=some Tryz.f39:=Tryz.func39
theorem VD:XR.C s0:=by show AH PP Ck Cn s0=true; kernel_rfl
theorem VE:XR.C s1:=by show AH PP Ck Cn s1=true; kernel_rfl
theorem VF:XR.C s3:=by show AH PP Ck Cn s3=true; kernel_rfl
theorem U9:XR.C s4:=by show AH PP Ck Cn s4=true; kernel_rfl
theorem VG:XR.C s5:=by show AH PP Ck Cn s5=true; kernel_rfl
theorem VH:XR.C s6:=by show AH PP Ck Cn s6=true; kernel_rfl
theorem VI:XR.C s8:=by show AH PP Ck Cn s8=true; kernel_rfl
theorem VJ:∀ i∈[0,1],∀ o,(cO s2)[i]?=some o->OpOk XR gR o.op:=Bz (by kernel_rfl)
theorem VK:∀ i∈[0,1],∀ o,(cO s7)[i]?=some o->OpOk XR gR o.op:=Bz (by kernel_rfl)
theorem VL:∀ i∈[0],∀ o,(cO s9)[i]?=some o->OpOk XR gR o.op:=Bz (by kernel_rfl)
section
variable {N:Nat} {R:Rho} {B:Nat->Option Obj} {K:Nat->Prop} {O:Nat->Prop} {T:Array Value} {w:World} {W:World} {L:Lv} {A:Option Addr} {n cap k b c:Nat} {xs:List In}
noncomputable abbrev gS(T:Array Value)(k:List Item):Goroutine:=Bb (F fS T k .deferred) [I6 PP]
theorem nd:CallKind.deferred≠.early:=by intro h; cases h
theorem nn:CallKind.normal≠.early:=by intro h; cases h
theorem Qu{st:List Value}{h0:Array Obj}{lv:List Value}{is:Value}{j:Nat}(h:Sit XR gR N R K B (Sc h0 lv is (.chan (some k)) n b c j st) T O w):Co PP false (Lt N) (PStop PP k (Lt N) []) O (gS T [.code s9]) w:=by
 refine h.ctl rfl (fun w1=>by rw[show s9=.region 9 (cO s9) false from rfl]; exact Ba) ?_;refine h.ops (l1:=[0]) (l2:=[1]) AJ AK Av Sc.hpo nd (Am Dt) VL (Q1:=fun T u=>T.size=34/\T.getD 33 undef=.chan (some k)) (fun T u x=>w9 x) fun T2 O2 w2 h2=>?_;have hc:=h2.slot (i:=33) (.chan (some k)) fun T u x=>x.2;refine .stop fun w3 hk=>⟨rfl,?_,4,gS T2 [.inRegion (cO s9) []],?_,fun w1 cp buf s r tm hw=>?_⟩
 . rfl
 . exact .inr ⟨rfl,gS T2 [],fun w=>BG,Mr Dt rfl⟩
 . obtain⟨o,ho,hg,hd,ats,hop⟩:∃ o,(cO s9)[1]?=some o/\o.guard=none/\o.dst=none/\∃ ats,o.op=.call { callee:=.builtin .close,args:=#[.tmp 33],argTypes:=ats }:=⟨_,rfl,rfl,rfl,_,rfl⟩;have g:=Sd (P:=PP) (mn:=false) (f:=fS) (T:=T2) (k:=[]) (cs:=[I6 PP]) (l:=[]) nd ho hg hop (c:=k) hc hw (by rw[Dt]; rfl);rw[hd] at g;exact g
theorem InAt.range{u:World}{q o:Nat}{x:In}{j:Nat}(h:InAt u q (o+j*3) x):u.rangeAt q (o+3*j) (ins x.s x.p x.z):=fun r v hv=>by
 rw[Nat.mul_comm];rcases r with _ | _ | _ | r
 . cases hv; exact h.c0
 . cases hv; exact h.c1
 . cases hv; exact h.c2
 . simp at hv
theorem OS(hQ:Quarter W)(hL:L.At W)(hY:Inputs W A n xs)(hn:n<=281474976710656):∀(rem:List In) (j:Nat) (s:St) {T:Array Value} {O:Nat->Prop} {w:World},xs.drop j=rem->j<=n ->
 Sit XR gR N R K B (Sc (vh W W.heap.size) L.cs (.slice A n cap) (.chan (some k)) n b c j (svs s)) T O w->Co PP false (Lt N) (PStop PP k (Lt N) (L.tail s rem)) O (gS T [.code sL,.inLoop sL,.inBlock 0,.code s9]) w:=by
 intro rem
 induction rem with
 | nil =>
  intro j s T O w hd hj h;have hjn:j=n:=by
   have:=List.drop_eq_nil_iff.1 hd;rw[hY.1] at this;omega
  have hdn:decide (j<n)=false:=by simp[hjn]
  refine h.ctl rfl (fun w1=>by rw[SE]; exact AF) ?_;refine h.wp AJ AK Av Sc.hpo nd (Am Dt) U9 (Q1:=fun T u=>Sc (vh W W.heap.size) L.cs (.slice _ n cap) (.chan (some k)) n b c j (svs s) T u/\T.getD 20 undef=.bool (decide (j<n))) (fun T u x=>w4 x) fun T2 O2 w2 h2=>?_;have hc:=h2.slot (i:=20) (.bool false) fun T u x=>by rw[x.2,hdn]
  refine h2.ctl rfl (fun w1=>AF) ?_;refine h2.ctl rfl (fun w1=>EH (t:=false) (by exact hc)) ?_;refine h2.ctl rfl (fun w1=>Qg (k':=[.code s9]) rfl) ?_;exact Qu (h2.mono fun T u x=>x.1)
 | cons q rem ih =>
  intro j s T O w hd hj h;have hlt:j<xs.length:=Nat.lt_of_not_le fun hle=>by rw[List.drop_eq_nil_iff.2 hle] at hd; cases hd
  have hjn:j<n:=hY.1▸hlt;have hdj:=drop_at hlt;rw[hd] at hdj;obtain⟨hq,hr⟩:=List.cons.inj hdj;obtain⟨qb,off,rfl,hqb,hqc⟩:=hY.2 (by omega);have hX:=hqc j hjn;rw[<- hq] at hX;refine h.ctl rfl (fun w1=>by rw[SE]; exact AF) ?_;refine h.wp AJ AK Av Sc.hpo nd (Am Dt) U9 (Q1:=fun T u=>Sc (vh W W.heap.size) L.cs (.slice _ n cap) (.chan (some k)) n b c j (svs s) T u/\T.getD 20 undef=.bool (decide (j<n))) (fun T u x=>w4 x) fun T2 O2 w2 h2=>?_;have hc:=h2.slot (i:=20) (.bool true) fun T u x=>by rw[x.2]; simp[hjn]
  refine h2.ctl rfl (fun w1=>AF) ?_;refine h2.ctl rfl (fun w1=>EH (t:=true) (by exact hc)) ?_;refine h2.ctl rfl (fun w1=>Kk) ?_;replace h2:=h2.mono fun T u x=>x.1;refine h2.ctl rfl (fun w1=>AF) ?_;refine h2.ctl rfl (fun w1=>F2) ?_;refine h2.ctl rfl (fun w1=>AF) ?_;refine h2.wp AJ AK Av Sc.hpo nd (Am Dt) VG (Q1:=fun T u=>∃ d,Si (vh W W.heap.size) L.cs (.slice (some ⟨qb,off,none⟩) n cap) (.chan (some k)) n b c d j (svs s) (ins q.s q.p q.z) T u) (fun T u x=>w5 rfl (x:=ins q.s q.p q.z) rfl rfl hjn hn x (hX.veil x.hp hqb).range) fun T3 O3 w3 h3=>?_;obtain⟨d,h3⟩:=h3.split;refine h3.ctl rfl (fun w1=>AF) ?_
  refine h3.wp AJ AK Av Si.hpo nd (Am Dt) VH (fun T u x=>w6 rfl (st:=svs s) (st':=svs (L.nx s q)) (x:=ins q.s q.p q.z) rfl rfl rfl rfl (ok:=eoB L.i L.t L.x L.y L.ws L.gs L.fp L.fq L.fs L.fz L.b s.k s.ax s.ay s.fx s.fy s.u s.g s.d s.o q.s q.p q.z) (fun u hu=>Ms L.i L.t L.x L.y L.A L.n L.c L.G L.m L.kk L.fp L.fq L.fs L.fz L.b L.ws L.gs s.k s.ax s.ay s.fx s.fy s.u s.g s.d s.o q.s q.p q.z (K':=(L.nx s q).k) (X':=(L.nx s q).ax) (Y':=(L.nx s q).ay) (P':=(L.nx s q).fx) (Q':=(L.nx s q).fy) (U':=(L.nx s q).u) (V':=(L.nx s q).g) (D':=(L.nx s q).d) (O':=(L.nx s q).o) rfl rfl hL.n hL.m u (hL.I.veil hu) (hL.J.veil hu) (hQ.veil hu)) x) fun T4 O4 w4 h4=>?_
  refine h4.ctl rfl (fun w1=>by rw[show s7=.region 7 (cO s7) false from rfl]; exact Ba) ?_;refine h4.ops (l1:=[0,1]) (l2:=[2]) AJ AK Av Sc.hpo nd (Am Dt) VK (Q1:=fun T u=>Sc (vh W W.heap.size) L.cs (.slice _ n cap) (.chan (some k)) n b c j (svs (L.nx s q)) T u/\T.getD 30 undef=.chan (some k)/\T.getD 31 undef=sva (L.nx s q)) (fun T u x=>w7 rfl x) fun T5 O5 w5 h5=>?_;have hch:=h5.slot (i:=30) (.chan (some k)) fun T u x=>x.2.1;have hv:=h5.slot (i:=31) (IM (L.nx s q)) fun T u x=>x.2.2;refine .stop fun w6 hk=>⟨rfl,⟨.tuple #[],Qk (i:=2) (l:=[]) rfl rfl rfl hch hv⟩,?_⟩;replace h5:=(h5.keep hk).mono fun T u x=>x.1
  rw[F4 (i:=2) _ rfl];refine h5.ctl rfl (fun w1=>BG) ?_;refine h5.ctl rfl (fun w1=>Jw) ?_;refine h5.wp AJ AK Av Sc.hpo nd (Am Dt) VI (fun T u x=>w8 hjn hn x) fun T7 O7 w7 h7=>?_;refine h7.ctl rfl (fun w1=>Lw) ?_;exact ih (j+1) (L.nx s q) hr.symm (by omega) h7
theorem Qv(hQ:Quarter W)(hL:L.At W)(hY:Inputs W A n xs)(hn:n<=281474976710656)(hG:XR.G<=W.heap.size)(hA:Cel W A)(hw:W.heap.size<=w.heap.size)(hs:∀ j,j<W.heap.size->w.heap[j]?=W.heap[j]?) :
 Co PP false (Lt W.heap.size) (PStop PP k (Lt W.heap.size) (sva L.s0::L.tail L.s0 xs)) (fun _=>False) (born PP { target:=.fn (.func fS) #[],args:=#[L.val,.slice A n cap,.chan (some k)] }) w:=by
 have eh:vh w W.heap.size=vh W W.heap.size:=Nt (Nat.le_refl _) hw hs;have er:vr w W.heap.size=vr W W.heap.size:=by
  funext i j;apply propext;constructor
  . rintro⟨h1,h2,h3⟩; exact⟨h1,h2,by rw[<- hs i h2]; exact h3⟩
  . rintro⟨h1,h2,h3⟩; exact⟨h1,h2,by rw[hs i h2]; exact h3⟩
 have ha:ArrR XR.L (vr w W.heap.size) (#[L.val,.slice A n cap,.chan (some k)]++Array.replicate 31 undef) (#[L.val,.slice A n cap,.chan (some k)]++Array.replicate 31 undef):=by
  rw[er];exact(((ArrR.one hL.self).push (Br hA)).push (.chan _)).append (.replicate _ (.tuple rfl fun i x y h=>by simp at h))
 have h:Sit XR gR W.heap.size (vr w W.heap.size) (fun _=>False) (fun j=>w.heap[j]?) (fun T u=>T=#[L.val,.slice A n cap,.chan (some k)]++Array.replicate 31 undef/\Hp (vh W W.heap.size) u) (#[L.val,.slice A n cap,.chan (some k)]++Array.replicate 31 undef) (fun _=>False) w :=
  Sit.start hw hG (fun n hn=>by
   have hn:Nat.beq n 0=true:=hn;have:=Nat.eq_of_beq_eq_true hn;subst this;refine⟨Ef hQ.q0,?_⟩;rw[hs 0 (Ef hQ.q0)];exact F7 hQ.q0) (fun j h=>h.elim) ha ha (fun _ _=>rfl) (fun u hu=>⟨rfl,Hp.refl (hu.trans eh)⟩)
 refine h.ctl rfl (fun w1=>Tp Dt rfl (c:=sB) rfl) ?_;rw[Ds Dt (c:=sB) rfl,UK];refine h.ctl rfl (fun w1=>AF) ?_;refine h.wp AJ AK Av (fun T u u' x e=>⟨x.1,x.2.same e⟩) nd (Am Dt) VD (Q1:=fun T u=>∃ b,Sl (vh W W.heap.size) L.cs (.slice A n cap) (.chan (some k)) b T u) (fun T u x=>?_) fun T2 O2 y2 h2=>?_
 . rw[x.1,Ty];exact w0 (lv:=L.cs) (J:=fun z=>match z with | 0=>L.val | 1=>.slice A n cap | 2=>.chan (some k) | _=>undef) rfl rfl x.2 rfl rfl rfl
 obtain⟨b,h2⟩:=h2.split;refine h2.ctl rfl (fun w1=>AF) ?_;refine h2.wp AJ AK Av Sl.hpo nd (Am Dt) VE (Q1:=fun T u=>∃ b c,Ss (vh W W.heap.size) L.cs (.slice A n cap) (.chan (some k)) b c (svs L.s0) T u) (fun T u x=>w1 rfl (st:=svs L.s0) (b:=L.ok) rfl rfl (fun u hu=>?_) x) fun T3 O3 y3 h3=>?_
 . refine(HQ L.i L.t L.x L.y L.A L.n L.c L.G L.m L.kk L.fp L.fq L.fs L.fz L.b L.ws L.gs u (hL.I.veil hu) (hL.J.veil hu) hL.n hL.m).mono ?_;rintro e w' ⟨rfl,B⟩;refine⟨?_,B⟩
   show Ending.returned (.tuple #[(if L.ok=true then _ else _),.bool L.ok])=_
   unfold Lv.s0;cases L.ok<;>rfl
 obtain⟨b,h3⟩:=h3.split;obtain⟨c,h3⟩:=h3.split;refine h3.ctl rfl (fun w1=>AF) ?_;refine h3.ctl rfl (fun w1=>by rw[show s2=.region 2 (cO s2) false from rfl]; exact Ba) ?_;refine h3.ops (l1:=[0,1]) (l2:=[2]) AJ AK Av Ss.hpo nd (Am Dt) VJ (Q1:=fun T u=>Ss (vh W W.heap.size) L.cs (.slice A n cap) (.chan (some k)) b c (svs L.s0) T u/\T.getD 15 undef=.chan (some k)/\T.getD 16 undef=sva L.s0) (fun T u x=>w2 rfl x) fun T5 O5 y5 h5=>?_;have hch:=h5.slot (i:=15) (.chan (some k)) fun T u x=>x.2.1;have hv:=h5.slot (i:=16) (IM L.s0) fun T u x=>x.2.2
 refine .stop fun w6 hk=>⟨rfl,⟨.tuple #[],Qk (i:=2) (l:=[]) rfl rfl rfl hch hv⟩,?_⟩;replace h5:=(h5.keep hk).mono fun T u x=>x.1;rw[F4 (i:=2) _ rfl];refine h5.ctl rfl (fun w1=>BG) ?_;refine h5.ctl rfl (fun w1=>AF) ?_;refine h5.ctl rfl (fun w1=>AF) ?_;refine h5.wp AJ AK Av Ss.hpo nd (Am Dt) VF (fun T u x=>w3 rfl x) fun T7 O7 y7 h7=>?_;refine h7.ctl rfl (fun w1=>F2) ?_;refine h7.ctl rfl (fun w1=>Mp) ?_;exact OS hQ hL hY hn xs 0 L.s0 rfl (Nat.zero_le _) h7
end
end Go.Proofs.YtaemcekcancpdaaGreatDoor
