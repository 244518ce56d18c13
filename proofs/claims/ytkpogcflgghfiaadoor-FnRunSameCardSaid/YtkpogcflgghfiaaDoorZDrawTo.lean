import Derived.Test.YtkpogcflgghfiaaDoorZLegImpl
import Derived.Test.YtkpogcflgghfiaaDoorZRunC
import Derived.Test.YtkpogcflgghfiaaDoorZRunMath
import Derived.Test.YtkpogcflgghfiaaDoorZRenCtx
set_option linter.all false
set_option maxRecDepth 100000
set_option maxHeartbeats 8000000
open Go.Lib
namespace Go.Proofs.YtkpogcflgghfiaaDoor
open Go.RowKit
open M
theorem Hh {P:Program} {fn:Func} {p q q2:Tmp} {ty:TypeId} {tmps:Array Value} {w:World} (h:fn.results=#[.cell p ty,.tmp q,.tmp q2]) (b:Nat) (hp:tmps[p]?.getD undef=.pointer (some ⟨b,0,none⟩)) (vs:List Value) (L:CellsAt w b vs) (v v2:Value) (hq:tmps[q]?.getD undef=v) (hq2:tmps[q2]?.getD undef=v2) {d:TypeDesc}
 (hu:P.underlying ty=some d) (hd:d.isRow=true) (hi:(P.info? ty).map (·.size)=some vs.length):(results fn tmps).run P w=.ok (.tuple #[.agg vs.toArray,v,v2]) w:=by
 simp [results,h,hp,hq,hq2,asAddr,run_loadVar_mid w b 0 ty vs d L.range hu hd hi]
def Qs (w:World) (e:Ending) (w':World):Prop :=
 ∃ (i t x y:Int) (A:Option Addr) (n c:Nat) (G:Option Addr) (m kk:Nat) (fp fq fs fz b:Int) (ws gs:List Bx) (D:Option Addr) (N cc:Nat) (xs:List In) (k0:Int),e=.returned (.tuple #[CR i t x y A n c G m kk fp fq fs fz b,.slice D N cc,.int .i64 k0])∧((n=0→Cel w' A)∧(m=0→Cel w' G)∧Cel w' D)∧(-2≤k0∧k0≤N+1)∧(n≤20∧n≤c)∧(m≤20∧m≤kk)∧(N≤63∧N≤cc)∧Boxes w' A n ws∧Boxes w' G m gs∧Inputs w' D N xs∧Below w.heap.size w w'
theorem GQ (a:Option Addr) (len cap:Nat) (zs:List Int) (w:World) (h:IsRow .u8 w a len cap zs):Calls Tryd.prog 7 #[.slice a len cap] w (Qs w):=by
 have h1:=h.below (w':=w.alloc (.cells #[.int .i64 0,.int .i64 0,.int .i64 0,.int .i64 0,.slice none 0 0,.slice none 0 0,.int .i64 0,.int .i64 0,.int .i64 0,.int .i64 0,.int .i64 0] 29)) (Aa (Ac w) _);have D:CellsAt (w.alloc (.cells #[.int .i64 0,.int .i64 0,.int .i64 0,.int .i64 0,.slice none 0 0,.slice none 0 0,.int .i64 0,.int .i64 0,.int .i64 0,.int .i64 0,.int .i64 0] 29)) w.heap.size (AV 0 0 0 0 none 0 0 none 0 0 0 0 0 0 0):=CellsAt.new w _ _ _ rfl;have H:=hid (Aa (Ac w) (.cells #[.int .i64 0,.int .i64 0,.int .i64 0,.int .i64 0,.slice none 0 0,.slice none 0 0,.int .i64 0,.int .i64 0,.int .i64 0,.int .i64 0,.int .i64 0] 29))
 go_enter Tryd.func7,Tryd.ntmps7;go_wp2_with fail;refine (Pd a len cap zs (w.alloc (.cells #[.int .i64 0,.int .i64 0,.int .i64 0,.int .i64 0,.slice none 0 0,.slice none 0 0,.int .i64 0,.int .i64 0,.int .i64 0,.int .i64 0,.int .i64 0] 29)) h1).mono ?_;rintro e w1 ⟨rfl,R1,B⟩;simp at R1;have z1:=R1.base;replace D:=D.step B;replace H:=hid (Ab H.out B);clear B h1 h;go_wp2_with fail;refine (Ja _ 0 _ R1 (by omega)).mono ?_;rintro e w2 ⟨i',t',x',y',A',n',c',G',m',kk',p',q',s',z',b',ws',gs',⟨CA,CG⟩,rfl,hn',hm',HL',I2,J2,MA',MG',R2,K⟩;have z2:=K.size
 replace D:=(D.kept K (by omega)).alloc (.cells #[.int .i64 i',.int .i64 t',.int .i64 x',.int .i64 y',.slice A' n' c',.slice G' m' kk',.int .i64 p',.int .i64 q',.int .i64 s',.int .i64 z',.int .i64 b'] 29);replace H:=hid (Aa (Ak H.out K (by omega)) (.cells #[.int .i64 i',.int .i64 t',.int .i64 x',.int .i64 y',.slice A' n' c',.slice G' m' kk',.int .i64 p',.int .i64 q',.int .i64 s',.int .i64 z',.int .i64 b'] 29))
 have L:CellsAt (w2.alloc (.cells #[.int .i64 i',.int .i64 t',.int .i64 x',.int .i64 y',.slice A' n' c',.slice G' m' kk',.int .i64 p',.int .i64 q',.int .i64 s',.int .i64 z',.int .i64 b'] 29)) w2.heap.size (AV i' t' x' y' A' n' c' G' m' kk' p' q' s' z' b'):=CellsAt.new _ _ _ _ rfl;replace I2:=I2.alloc (.cells #[.int .i64 i',.int .i64 t',.int .i64 x',.int .i64 y',.slice A' n' c',.slice G' m' kk',.int .i64 p',.int .i64 q',.int .i64 s',.int .i64 z',.int .i64 b'] 29);replace J2:=J2.alloc (.cells #[.int .i64 i',.int .i64 t',.int .i64 x',.int .i64 y',.slice A' n' c',.slice G' m' kk',.int .i64 p',.int .i64 q',.int .i64 s',.int .i64 z',.int .i64 b'] 29)
 replace R2:=R2.alloc (.cells #[.int .i64 i',.int .i64 t',.int .i64 x',.int .i64 y',.slice A' n' c',.slice G' m' kk',.int .i64 p',.int .i64 q',.int .i64 s',.int .i64 z',.int .i64 b'] 29);have MA2:CU _ A':=fun g off e=>by have:=MA' g off e; exact Nat.le_trans z1 this
 have MG2:CU _ G':=fun g off e=>by have:=MG' g off e; exact Nat.le_trans z1 this
 replace CA:Cel _ A':=CA.of fun a ha=>(Aa (Ac w2) (.cells #[.int .i64 i',.int .i64 t',.int .i64 x',.int .i64 y',.slice A' n' c',.slice G' m' kk',.int .i64 p',.int .i64 q',.int .i64 s',.int .i64 z',.int .i64 b'] 29)).block _ (CA.lt ha);replace CG:Cel _ G':=CG.of fun a ha=>(Aa (Ac w2) (.cells #[.int .i64 i',.int .i64 t',.int .i64 x',.int .i64 y',.slice A' n' c',.slice G' m' kk',.int .i64 p',.int .i64 q',.int .i64 s',.int .i64 z',.int .i64 b'] 29)).block _ (CG.lt ha);clear R1 K MA' MG';obtain ⟨Lc0,Lc1,Lc2,Lc3,Lc4,Lc5,Lc6,Lc7,Lc8,Lc9,Lc10⟩:=AG L;have Ll:=L.lt;go_wp2_with fail
 refine (Lf _ _ i' t' x' y' A' n' c' G' m' kk' p' q' s' z' b' ws' gs' _ R2 (by omega) (by omega) I2 J2 MA2 MG2 HL'.1.ok hn'.1 hm'.1 HL'.2).mono ?_;rintro e w3 ⟨E,N,cc,xs,CE,rfl,hN,Y,ME,R3,K⟩;have z3:=K.size;simp at z3;clear Lc0 Lc1 Lc2 Lc3 Lc4 Lc5 Lc6 Lc7 Lc8 Lc9 Lc10 Ll;replace D:=D.kept K (by omega);replace L:=L.kept K (by omega);replace H:=hid (Ak H.out K (by omega));replace I2:=I2.kept K (fun _ g off e=>by have:=MA2 g off e; omega);replace J2:=J2.kept K (fun _ g off e=>by have:=MG2 g off e; omega);replace CA:=CA.kept K (fun g off e=>by have:=MA2 g off e; omega);replace CG:=CG.kept K (fun g off e=>by have:=MG2 g off e; omega)
 clear R2 K;obtain ⟨Lc0,Lc1,Lc2,Lc3,Lc4,Lc5,Lc6,Lc7,Lc8,Lc9,Lc10⟩:=AG L;have Ll:=L.lt;go_wp2_with fail;refine (JU _ _ i' t' x' y' A' n' c' G' m' kk' p' q' s' z' b' ws' gs' _ R3 (by omega) (by omega) I2 J2 MA2 MG2 hn' hm' HL'.1.lows).mono ?_;rintro e w4 ⟨i,t,x,y,A,n,c,G,m,kk,fp,fq,fs,fz,b,ws,gs,⟨ZA,ZG⟩,rfl,hn,hm,HL,I,J,MA,MG,R4,K⟩;have z4:=K.size;clear Lc0 Lc1 Lc2 Lc3 Lc4 Lc5 Lc6 Lc7 Lc8 Lc9 Lc10 Ll hn' hm' HL' I2 J2 L R3;replace D:=D.kept K (by omega);replace H:=hid (Ak H.out K (by omega));replace Y:=hid (Y.kept K (fun _ g off e=>by have:=ME g off e; simp at this; omega))
 replace CA:=CA.kept K (fun g off e=>by have:=MA2 g off e; omega);replace CG:=CG.kept K (fun g off e=>by have:=MG2 g off e; omega);replace CE:=CE.kept K (fun g off e=>by have:=ME g off e; simp at this; omega);replace I:=hid I;replace J:=hid J;clear K HL;have hw1:IntKind.i64.wrap ((N:Int)+1)=(N:Int)+1:=IntWalk.i64_in _ (by omega);go_wp2_with fail;refine (Av _ ((N:Int)+1) _ _ R4 (by omega) (by omega) (by omega)).mono ?_;rintro e w5 ⟨j0,⟨j1,j2⟩,rfl,R5,K⟩;clear R4;replace D:=D.kept K (by omega);replace H:=hid (Ak H.out K (by omega));replace Y:=hid (Y.out.kept K (fun _ g off e=>by have:=ME g off e; simp at this; omega))
 replace I:=hid (I.out.kept K (fun _ g off e=>by have:=MA g off e; omega));replace J:=hid (J.out.kept K (fun _ g off e=>by have:=MG g off e; omega));replace CA:=CA.kept K (fun g off e=>by have:=MA2 g off e; omega);replace CG:=CG.kept K (fun g off e=>by have:=MG2 g off e; omega);replace CE:=CE.kept K (fun g off e=>by have:=ME g off e; simp at this; omega);clear K;go_wp2_with fail;refine (Av _ 16 _ _ R5 (by omega) (by omega) (by omega)).mono ?_;rintro e w6 ⟨u0,⟨u1,u2⟩,rfl,R6,K⟩;clear R5;have hu:u0.tdiv 15=0∨u0.tdiv 15=1:=by rw [Int.tdiv_eq_ediv_of_nonneg u1]; omega
 replace D:=D.kept K (by omega);replace H:=hid (Ak H.out K (by omega));replace Y:=hid (Y.out.kept K (fun _ g off e=>by have:=ME g off e; simp at this; omega));replace I:=hid (I.out.kept K (fun _ g off e=>by have:=MA g off e; omega));replace J:=hid (J.out.kept K (fun _ g off e=>by have:=MG g off e; omega));replace CA:=CA.kept K (fun g off e=>by have:=MA2 g off e; omega);replace CG:=CG.kept K (fun g off e=>by have:=MG2 g off e; omega);replace CE:=CE.kept K (fun g off e=>by have:=ME g off e; simp at this; omega);clear K;go_wp2_with fail;refine (Av _ 16 _ _ R6 (by omega) (by omega) (by omega)).mono ?_;rintro e w7 ⟨v0,⟨v1,v2⟩,rfl,R7,K⟩
 clear R6;have hv:v0 / 15=0∨v0 / 15=1:=by omega
 replace D:=D.kept K (by omega);replace H:=hid (Ak H.out K (by omega));replace Y:=hid (Y.out.kept K (fun _ g off e=>by have:=ME g off e; simp at this; omega));replace I:=hid (I.out.kept K (fun _ g off e=>by have:=MA g off e; omega));replace J:=hid (J.out.kept K (fun _ g off e=>by have:=MG g off e; omega));replace CA:=CA.kept K (fun g off e=>by have:=MA2 g off e; omega);replace CG:=CG.kept K (fun g off e=>by have:=MG2 g off e; omega);replace CE:=CE.kept K (fun g off e=>by have:=ME g off e; simp at this; omega);clear K;clear R7;generalize u0.tdiv 15=uu at hu;have hv9:v0.tdiv 15=v0 / 15:=Int.tdiv_eq_ediv_of_nonneg v1
 have hs1:IntKind.i64.wrap uu=uu:=IntWalk.i64_in _ (by omega);have hs2:IntKind.i64.wrap (v0 / 15)=v0 / 15:=IntWalk.i64_in _ (by omega);have hs3:IntKind.i64.wrap (j0+uu)=j0+uu:=IntWalk.i64_in _ (by omega);have hs4:IntKind.i64.wrap (v0 / 15*2)=v0 / 15*2:=IntWalk.i64_in _ (by omega);have hs5:IntKind.i64.wrap (j0+uu-v0 / 15*2)=j0+uu-v0 / 15*2:=IntWalk.i64_in _ (by omega);go_wp2_with (refine Ah rfl 29 (.tmp 2) (.tmp 17) rfl w.heap.size rfl (AV i t x y A n c G m kk fp fq fs fz b) rfl _ D (by simp) Ag rfl ?_);intro w8 K N8;have Y8:=hid (Y.out.kept K (fun _ g off e=>by have:=ME g off e; simp at this; omega))
 have I8:=hid (I.out.kept K (fun _ g off e=>by have:=MA g off e; omega));have J8:=hid (J.out.kept K (fun _ g off e=>by have:=MG g off e; omega));have H8:=hid (Ak H.out K (by omega));replace CA:=CA.kept K (fun g off e=>by have:=MA2 g off e; omega);replace CG:=CG.kept K (fun g off e=>by have:=MG2 g off e; omega);replace CE:=CE.kept K (fun g off e=>by have:=ME g off e; simp at this; omega);clear K Y I J H D;go_wp2
 exact bodyPost_ret (v:=.tuple #[CR i t x y A n c G m kk fp fq fs fz b,.slice E N cc,.int .i64 (j0+uu-v0 / 15*2)]) (Hh rfl w.heap.size rfl (AV i t x y A n c G m kk fp fq fs fz b) N8 (.slice E N cc) (.int .i64 (j0+uu-v0 / 15*2)) rfl rfl Tryd.underlying29 rfl Ag) rfl ⟨i,t,x,y,A,n,c,G,m,kk,fp,fq,fs,fz,b,ws,gs,E,N,cc,xs,_,rfl,⟨fun h=>ZA h▸CA,fun h=>ZG h▸CG,CE⟩,⟨by omega,by omega⟩,hn,hm,hN,I8.out,J8.out,Y8.out,H8.out⟩
end Go.Proofs.YtkpogcflgghfiaaDoor
namespace Go.Proofs.YtkpogcflgghfiaaDoor
open Go.RowKit
open M
open Ren
open Go.Conc
theorem Cg {u u':World} (e:u'.heap=u.heap) (a:Addr):u'.cell? a=u.cell? a:=by unfold World.cell?; rw [e]
theorem Boxes.same {u u':World} {A:Option Addr} {n:Nat} {bs:List Bx} (h:Boxes u A n bs) (e:u'.heap=u.heap):Boxes u' A n bs :=
 ⟨h.1,fun hn=>by
  obtain ⟨b,off,e1,hb,hc⟩:=h.2 hn;exact ⟨b,off,e1,by rw [e]; exact hb,fun k hk=>(hc k hk).of (by rw [e])⟩⟩
theorem Inputs.same {u u':World} {A:Option Addr} {n:Nat} {xs:List In} (h:Inputs u A n xs) (e:u'.heap=u.heap):Inputs u' A n xs :=
 ⟨h.1,fun hn=>by
  obtain ⟨b,off,e1,hb,hc⟩:=h.2 hn;exact ⟨b,off,e1,by rw [e]; exact hb,fun k hk=>(hc k hk).of (by rw [e])⟩⟩
theorem Cel.step {w w':World} {A:Option Addr} (h:Cel w A) (B:Below w.heap.size w w'):Cel w' A:=h.of fun a ha=>B.block _ (h.lt ha)
theorem Quarter.same {u u':World} (h:Quarter u) (e:u'.heap=u.heap):Quarter u' :=
 ⟨(Cg e _).trans h.q0,(Cg e _).trans h.q1,(Cg e _).trans h.q2,(Cg e _).trans h.q3,(Cg e _).trans h.q4,(Cg e _).trans h.q5,(Cg e _).trans h.q6,(Cg e _).trans h.q7,by rw [e]; exact h.lt⟩
theorem Ready.same {L:Lv} {A:Option Addr} {n cap:Nat} {xs:List In} {u u':World} (h:Ready L A n cap xs u) (e:u'.heap=u.heap):Ready L A n cap xs u' :=
 ⟨⟨h.lv.I.same e,h.lv.J.same e,h.lv.n,h.lv.m,h.lv.ca.of fun _ _=>by rw [e],h.lv.cg.of fun _ _=>by rw [e]⟩,h.ins.same e,h.cel.of fun _ _=>by rw [e],h.small,h.room,h.quarter.same e⟩
theorem Ready.step {L:Lv} {A:Option Addr} {n cap:Nat} {xs:List In} {u u':World} (h:Ready L A n cap xs u) (B:Below u.heap.size u u'):Ready L A n cap xs u' :=
 ⟨⟨h.lv.I.step B,h.lv.J.step B,h.lv.n,h.lv.m,h.lv.ca.step B,h.lv.cg.step B⟩,h.ins.step B,h.cel.step B,h.small,h.room,h.quarter.step B⟩
theorem Quarter.kept {u u':World} {r:Nat} (h:Quarter u) (K:Kept r u u') (hr:r≠0):Quarter u':=by
 have e:=K.block 0 h.lt (Ne.symm hr);exact ⟨(World.cell?_of_block (a:=⟨0,0,none⟩) e).trans h.q0,(World.cell?_of_block (a:=⟨0,1,none⟩) e).trans h.q1,(World.cell?_of_block (a:=⟨0,2,none⟩) e).trans h.q2,(World.cell?_of_block (a:=⟨0,3,none⟩) e).trans h.q3,(World.cell?_of_block (a:=⟨0,4,none⟩) e).trans h.q4,(World.cell?_of_block (a:=⟨0,5,none⟩) e).trans h.q5,(World.cell?_of_block (a:=⟨0,6,none⟩) e).trans h.q6,(World.cell?_of_block (a:=⟨0,7,none⟩) e).trans h.q7,Nat.lt_of_lt_of_le h.lt K.size⟩
theorem Ready.kept {L:Lv} {A:Option Addr} {n cap:Nat} {xs:List In} {u u':World} {r:Nat} (h:Ready L A n cap xs u) (K:Kept r u u') (hr:r≠0) (h1:∀ a,L.A=some a→a.block≠r) (h2:∀ a,L.G=some a→a.block≠r) (h3:∀ a,A=some a→a.block≠r):Ready L A n cap xs u' :=
 ⟨⟨h.lv.I.kept K (fun _ g off e=>h1 _ e),h.lv.J.kept K (fun _ g off e=>h2 _ e),h.lv.n,h.lv.m,h.lv.ca.kept K (fun g off e=>h1 _ e),h.lv.cg.kept K (fun g off e=>h2 _ e)⟩,h.ins.kept K (fun _ g off e=>h3 _ e),h.cel.kept K (fun g off e=>h3 _ e),h.small,h.room,h.quarter.kept K hr⟩
structure Low (L:Lv) (A:Option Addr) (N:Nat):Prop where
 a:∀ a,L.A=some a→a.block<N
 g:∀ a,L.G=some a→a.block<N
 i:∀ a,A=some a→a.block<N
theorem Ready.low {L:Lv} {A:Option Addr} {n cap:Nat} {xs:List In} {u:World} (h:Ready L A n cap xs u):Low L A u.heap.size:=⟨fun a ha=>h.lv.ca.lt ha,fun a ha=>h.lv.cg.lt ha,fun a ha=>h.cel.lt ha⟩
theorem Ready.keep {L:Lv} {A:Option Addr} {n cap:Nat} {xs:List In} {u u':World} {r N:Nat} (h:Ready L A n cap xs u) (l:Low L A N) (K:Kept r u u') (hr:N≤r) (h0:0<N):Ready L A n cap xs u' :=
 h.kept K (by omega) (fun a ha=>by have:=l.a a ha; omega) (fun a ha=>by have:=l.g a ha; omega) (fun a ha=>by have:=l.i a ha; omega)
structure Za (h0:Array Obj) (sz:Nat) (a:Option Addr) (len cap:Nat) (zs:List Int) (T:Array Value) (u:World):Prop where
 size:T.size=sz
 t0:T.getD 0 undef=.slice a len cap
 row:IsRow .u8 u a len cap zs
 q:Quarter u
 hp:Hp h0 u
theorem IsRow.same {u u':World} {a:Option Addr} {len cap:Nat} {zs:List Int} (h:IsRow .u8 u a len cap zs) (e:u'.heap=u.heap):IsRow .u8 u' a len cap zs:=by
 rcases h with h | ⟨x,h1,h2,h3,h4,h5,h6⟩
 · exact .inl h
 · exact .inr ⟨x,h1,h2,h3,h4,fun i hi=>(Cg e _).trans (h5 i hi),h6⟩
theorem Za.hpo {h0:Array Obj} {sz:Nat} {a:Option Addr} {len cap:Nat} {zs:List Int}:Hpo (Za h0 sz a len cap zs):=fun _ _ _ h e=>⟨h.size,h.t0,h.row.same e,h.q.same e,h.hp.same e⟩
theorem Hi (a:Addr) (n:Nat):(a.add n).block=a.block:=by unfold Addr.add; split<;>rfl
theorem IsRow.veil {w u:World} {a:Option Addr} {len cap:Nat} {zs:List Int} (h:IsRow .u8 w a len cap zs) (ca:Cel w a) (hp:Hp (vh w w.heap.size) u):IsRow .u8 u a len cap zs:=by
 rcases h with h | ⟨x,rfl,h2,h3,h4,h5,h6⟩
 · exact .inl h
 · refine .inr ⟨x,rfl,h2,h3,h4,fun i hi=>?_,h6⟩;have hb:(x.add i).block<w.heap.size:=by rw [Hi]; exact ca.lt rfl
   rw [MR (Nat.le_refl _) hb (hp.block _ (by rw [EP (Nat.le_refl _)]; exact hb)) (h5 i hi),Cq]
structure Vh (h0:Array Obj) (sz z:Nat) (L:Lv) (D:Option Addr) (N cc:Nat) (xs:List In) (k0:Int) (b:Nat) (T:Array Value) (u:World):Prop where
 size:T.size=sz
 t3:T.getD (3+z) undef=AE b
 t4:T.getD (4+z) undef=.slice D N cc
 t5:T.getD (5+z) undef=.int .i64 k0
 P:CellsAt u b L.cs
 rd:Ready L D N cc xs u
 lo:Low L D b
 hp:Hp h0 u
 lb:h0.size≤b
 bp:0<b
 bd:-2≤k0∧k0≤N+1
 sm:N≤63
theorem Vh.hpo {h0:Array Obj} {sz z:Nat} {L:Lv} {D:Option Addr} {N cc:Nat} {xs:List In} {k0:Int} {b:Nat}:Hpo (Vh h0 sz z L D N cc xs k0 b):=fun _ _ _ h e=>{ h with P:=h.P.same e,rd:=h.rd.same e,hp:=h.hp.same e }
structure Vo (h0:Array Obj) (sz z:Nat) (L:Lv) (D:Option Addr) (N cc:Nat) (xs:List In) (k0:Int) (b c:Nat) (s:St) (ok:Bool) (T:Array Value) (u:World):Prop extends Vh h0 sz z L D N cc xs k0 b T u where
 t6:T.getD (6+z) undef=AE c
 t7:T.getD (7+z) undef=.bool ok
 S:CellsAt u c (svs s)
 lc:b<c
theorem Vo.hpo {h0:Array Obj} {sz z:Nat} {L:Lv} {D:Option Addr} {N cc:Nat} {xs:List In} {k0:Int} {b c:Nat} {s:St} {ok:Bool}:Hpo (Vo h0 sz z L D N cc xs k0 b c s ok):=fun _ _ _ h e=>{ h with P:=h.P.same e,rd:=h.rd.same e,hp:=h.hp.same e,S:=h.S.same e }
def Lv.fin (L:Lv) (xs:List In) (n:Nat) (k0:Int):St:=if BV L xs n k0 then L.run (xs.take k0.toNat) else z0
theorem Lv.ans_eq (L:Lv) (xs:List In) (n:Nat) (k0:Int):L.ans xs n k0=.tuple #[sva (L.fin xs n k0),.bool (BV L xs n k0)]:=rfl
end Go.Proofs.YtkpogcflgghfiaaDoor
namespace Go.Proofs.YtkpogcflgghfiaaDoor
open Go.RowKit
open M
open Ren
open Go.Conc
theorem Vo.put {h0:Array Obj} {sz z:Nat} {L:Lv} {D:Option Addr} {N cc:Nat} {xs:List In} {k0:Int} {b c d:Nat} {s:St} {ok:Bool} {T:Array Value} {u:World} (x:Vo h0 sz z L D N cc xs k0 b c s ok T u) (hd:7+z<d) (v:Value):Vo h0 sz z L D N cc xs k0 b c s ok (Ch T (some d) v) u :=
 ⟨⟨size_put.trans x.size,(Aw (by omega)).trans x.t3,(Aw (by omega)).trans x.t4,(Aw (by omega)).trans x.t5,x.P,x.rd,x.lo,x.hp,x.lb,x.bp,x.bd,x.sm⟩,(Aw (by omega)).trans x.t6,(Aw (by omega)).trans x.t7,x.S,x.lc⟩
structure Vp (h0:Array Obj) (sz z:Nat) (L:Lv) (D:Option Addr) (N cc:Nat) (xs:List In) (k0:Int) (b c c2:Nat) (s:St) (ok:Bool) (T:Array Value) (u:World):Prop extends Vo h0 sz z L D N cc xs k0 b c s ok T u where
 t8:T.getD (8+z) undef=AE c2
 t9:T.getD (9+z) undef=.bool ok
 S2:CellsAt u c2 (svs s)
theorem Vp.hpo {h0:Array Obj} {sz z:Nat} {L:Lv} {D:Option Addr} {N cc:Nat} {xs:List In} {k0:Int} {b c c2:Nat} {s:St} {ok:Bool}:Hpo (Vp h0 sz z L D N cc xs k0 b c c2 s ok):=fun _ _ _ h e=>{ h with P:=h.P.same e,rd:=h.rd.same e,hp:=h.hp.same e,S:=h.S.same e,S2:=h.S2.same e }
theorem JV {L:Lv} {xs:List In} {n:Nat} {k0:Int} (h:k0<0∨n<k0):BV L xs n k0=false:=by
 rcases h with h | h
 · simp [BV,show ¬ 0≤k0 by omega]
 · simp [BV,show ¬ k0≤(n:Int) by omega]
end Go.Proofs.YtkpogcflgghfiaaDoor
