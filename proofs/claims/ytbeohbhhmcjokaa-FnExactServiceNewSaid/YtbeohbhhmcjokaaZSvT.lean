import Derived.Test.YtbeohbhhmcjokaaZSvE
set_option linter.all false
set_option maxRecDepth 100000
set_option maxHeartbeats 8000000
open Go.Lib
namespace Go.Proofs.Ytbeohbhhmcjokaa
open Go.RowKit
open M
theorem BU:(Try.prog.info? 50).map (·.size)=some 11:=by kernel_rfl
theorem CU:(Try.prog.info? 117).map (·.size)=some 12:=by kernel_rfl
theorem CellsAt.over{W:World}{b:Nat}{us:List Value}(h:CellsAt W b us)(vs:List Value)(hl:vs.length<=us.length):CellsAt (W.setCells b 0 vs) b (vs++us.drop vs.length) :=
 ⟨fun j v hj=>by
  by_cases hlt:j<vs.length
  . rw[List.getElem?_append_left hlt] at hj;have:=World.rangeAt_setCells_same W b 0 vs (h.there hl) j v hj
    rwa [Nat.zero_add] at this
  . rw[List.getElem?_append_right (by omega),List.getElem?_drop,show vs.length+(j-vs.length)=j by omega] at hj;rw[World.cell?_setCells_out b vs 0 W ⟨b,j,none⟩ (fun _ _=>.inr (by simp only; omega))];exact h.cell j v hj,fun j=>by rw[World.frozen?_setCells]; exact h.fr j,Nat.lt_of_lt_of_le h.lt (CL vs 0 (Kept.refl b W)).size⟩
theorem Ed{P:Program}{ops:Array Oper}{rest:List Oper}{o:Oper}{a:Act}{w:World}{Q:Exit->Act->World->Prop}(hgd:o.guard=none)(ty:TypeId)(x y:Operand)(ho:o.op=.store ty x y)
 (b:Nat) (hx:a.eval x=.pointer (some ⟨b,0,none⟩)) (vs:List Value) (hy:a.eval y=.agg vs.toArray) (us:List Value) (D:CellsAt w b us) (hl:vs.length<=us.length) (hi:(P.info? ty).map (·.size)=some vs.length) (h1:vs.all (·.oneCell')=true)
 (h:∀ w',Kept b w w'->CellsAt w' b (vs++us.drop vs.length)->wpList P ops Q rest (a.put o.dst undef) w'):wpList P ops Q (o::rest) a w :=
 BO hgd ty x y ho b hx vs hy us D hl hi h1 (h _ (CL vs 0 (Kept.refl b w)) (D.over vs hl))
theorem OwnL.append{lo k:Nat}{w:World}{ps ps':List (Option Addr × Nat)}(h:OwnL lo w ps)(h':OwnL k w ps')(hk:lo<=k)(hp:∀ p∈ps,0<p.2->∀ g,p.1=some ⟨g,0,none⟩->g<k):OwnL lo w (ps++ps') :=
 ⟨fun p hp'=>by
  rcases List.mem_append.1 hp' with h1 | h1
  . exact h.all p h1
  . exact(h'.all p h1).low hk,List.pairwise_append.2 ⟨h.ne,h'.ne,fun p hp1 q hq h1 h2 e=>by
  obtain⟨g,e1,h3,_,_⟩:=h'.all q hq h2;have:=hp p hp1 h1 g (e.trans e1);omega⟩⟩
def F9(w:World)(q:Tk)(e:Ending)(w':World):Prop:=∃ q':Tk,e=.returned (.agg q'.cs.toArray)/\q'.v=q.v/\q'.At w'/\OwnL w.heap.size w' q'.ps/\Below w.heap.size w w'
theorem EnM.far{W W':World}{g n r:Nat}(T:W.there g 0 n)(K:Kept r W W')(hl:g<W.heap.size)(hr:g≠r):W'.there g 0 n:=AR T K hl hr
theorem Ga(q:Tk)(w:World)(R:q.At w)(hs:q.Sm):Calls Try.prog 91 #[.agg q.cs.toArray] w (F9 w q):=by
 obtain⟨⟨i,t,x,y,A,n,c,G,m,kk,fp,fq,fs,fz,b,ws,gs⟩,D,l,cc,es⟩:=q;obtain⟨h1,h2,h3⟩:=hs;obtain⟨I,J,E,_,_,_⟩:=R;simp only at h1 h2 h3 I J E;simp only[Tk.cs,Lv.cs];obtain⟨qc,hqc⟩:∃ qc,qc=AV i t x y A n c G m kk fp fq fs fz b++[.slice D l cc]:=⟨_,rfl⟩;rw[<- hqc]
 have P:=hid (((CellsAt.new w w.heap.size qc 117 rfl).alloc (.cells [.int .i64 0,.int .i64 0,.int .i64 0,.int .i64 0,.slice none 0 0,.slice none 0 0,.int .i64 0,.int .i64 0,.int .i64 0,.int .i64 0,.int .i64 0,.slice none 0 0].toArray 84)).alloc (.cells [.int .i64 0,.int .i64 0,.int .i64 0,.int .i64 0,.slice none 0 0,.slice none 0 0,.int .i64 0,.int .i64 0,.int .i64 0,.int .i64 0,.int .i64 0,.slice none 0 0].toArray 84))
 have O:=hid ((CellsAt.new (w.alloc (.cells qc.toArray 117)) (w.heap.size+1) [.int .i64 0,.int .i64 0,.int .i64 0,.int .i64 0,.slice none 0 0,.slice none 0 0,.int .i64 0,.int .i64 0,.int .i64 0,.int .i64 0,.int .i64 0,.slice none 0 0] 84 (by simp)).alloc (.cells [.int .i64 0,.int .i64 0,.int .i64 0,.int .i64 0,.slice none 0 0,.slice none 0 0,.int .i64 0,.int .i64 0,.int .i64 0,.int .i64 0,.int .i64 0,.slice none 0 0].toArray 84))
 have V:=hid (CellsAt.new ((w.alloc (.cells qc.toArray 117)).alloc (.cells [.int .i64 0,.int .i64 0,.int .i64 0,.int .i64 0,.slice none 0 0,.slice none 0 0,.int .i64 0,.int .i64 0,.int .i64 0,.int .i64 0,.int .i64 0,.slice none 0 0].toArray 84)) (w.heap.size+1+1) [.int .i64 0,.int .i64 0,.int .i64 0,.int .i64 0,.slice none 0 0,.slice none 0 0,.int .i64 0,.int .i64 0,.int .i64 0,.int .i64 0,.int .i64 0,.slice none 0 0] 84 (by simp))
 have H:=hid (Ab (Ab (Ab (Ac w) (.cells qc.toArray 117)) (.cells [.int .i64 0,.int .i64 0,.int .i64 0,.int .i64 0,.slice none 0 0,.slice none 0 0,.int .i64 0,.int .i64 0,.int .i64 0,.int .i64 0,.int .i64 0,.slice none 0 0].toArray 84)) (.cells [.int .i64 0,.int .i64 0,.int .i64 0,.int .i64 0,.slice none 0 0,.slice none 0 0,.int .i64 0,.int .i64 0,.int .i64 0,.int .i64 0,.int .i64 0,.slice none 0 0].toArray 84));have g1:=hid (fun(W:World) (h:CellsAt W w.heap.size qc)=>show W.rangeAt w.heap.size 0 (AV i t x y A n c G m kk fp fq fs fz b) from fun j v hj=>h.range j v (by
  rw[hqc,List.getElem?_append_left (by rcases Nat.lt_or_ge j (AV i t x y A n c G m kk fp fq fs fz b).length with h1 | h1; exact h1; rw[List.getElem?_eq_none h1] at hj; cases hj)]; exact hj))
 have k1:=hid (fun(W:World) (h:CellsAt W w.heap.size qc)=>h.cell 11 (.slice D l cc) (by rw[hqc]; rfl));replace I:=hid (I.step H.out);replace J:=hid (J.step H.out);replace E:=hid E;replace hqc:=hid hqc;go_enter Try.func91,Try.ntmps91;go_wp2_with (refine wpList_load_mid rfl 50 (.tmp 4) rfl w.heap.size 0 rfl (AV i t x y A n c G m kk fp fq fs fz b) _ (g1.out _ P.out) Try.underlying50 rfl BU ?_);go_wp2_with fail;refine(Ea i t x y A n c G m kk fp fq fs fz b ws gs _ I.out J.out h1 h2).mono ?_;rintro e w1 ⟨u,v,rfl,IX,JX,hu,huv,B⟩;have hwl:=H.out.size;replace P:=hid (P.out.step B);replace O:=hid (O.out.step B);replace V:=hid (V.out.step B)
 replace IX:=hid IX;replace JX:=hid JX;replace H:=hid (Aa H.out B);have hu3:w.heap.size+3<=u:=by simpa using hu
 clear B hu I J;go_wp2_with (refine Ed rfl 58 (.tmp 7) (.tmp 6) rfl (w.heap.size+1+1) rfl (AV i t x y (some ⟨u,0,none⟩) n n (some ⟨v,0,none⟩) m m fp fq fs fz b) rfl _ V.out (by simp) Ah rfl ?_);intro w2 K2 V2;replace P:=hid (P.out.kept K2 (by omega));replace O:=hid (O.out.kept K2 (by omega));replace IX:=hid (IX.out.kept K2 (fun _ k off e=>by cases e; omega));replace JX:=hid (JX.out.kept K2 (fun _ k off e=>by cases e; omega));replace H:=hid (Ax H.out K2 (by omega));replace V2:CellsAt w2 (w.heap.size+1+1) (AV i t x y (some ⟨u,0,none⟩) n n (some ⟨v,0,none⟩) m m fp fq fs fz b++[.slice none 0 0]):=V2;replace V2:=hid V2
 have x11:=k1.out _ P.out;have hv2:=JX.out.lt;clear V K2;go_wp2_with fail;refine(D8 D l cc es _ (E.out.step H.out) h3).mono ?_;rintro e w3 ⟨g,rfl,ES,hg,TG,hgl,B⟩;replace O:=hid (O.out.step B);replace V2:=hid (V2.out.step B);replace IX:=hid (IX.out.step B);replace JX:=hid (JX.out.step B);replace H:=hid (Aa H.out B);have hvl:=JX.out.lt;have hg3:v<g:=Nat.lt_of_lt_of_le hv2 hg;replace ES:=hid ES;replace TG:=hid TG;clear B hg x11 P;have v11:=V2.out.cell 11 _ rfl;have f11:=V2.out.fr 11;go_upto_region 4 with fail;refine wp_region_lit ?_
 have V3:CellsAt (w3.setCell ⟨w.heap.size+1+1,11,none⟩ (.slice (some ⟨g,0,none⟩) l l)) (w.heap.size+1+1) (AV i t x y (some ⟨u,0,none⟩) n n (some ⟨v,0,none⟩) m m fp fq fs fz b++[.slice (some ⟨g,0,none⟩) l l]):=V2.out.set 11 (by simp) _;refine Ci rfl 84 (.tmp 3) rfl (w.heap.size+1+1) rfl (AV i t x y (some ⟨u,0,none⟩) n n (some ⟨v,0,none⟩) m m fp fq fs fz b++[.slice (some ⟨g,0,none⟩) l l]) V3 Try.underlying84 rfl (by exact As) ?_
 refine CM rfl 84 (.tmp 2) (.tmp 12) rfl (w.heap.size+1) rfl (AV i t x y (some ⟨u,0,none⟩) n n (some ⟨v,0,none⟩) m m fp fq fs fz b++[.slice (some ⟨g,0,none⟩) l l]) rfl _ (O.out.far (by omega) _ _) (by simp) (by exact As) rfl ?_;intro w4 K4 D4;have KF:=(BH (Kept.refl (w.heap.size+1+1) w3) 11 (.slice (some ⟨g,0,none⟩) l l));replace IX:=hid ((IX.out.kept KF (fun _ k off e=>by cases e; omega)).kept K4 (fun _ k off e=>by cases e; omega));replace JX:=hid ((JX.out.kept KF (fun _ k off e=>by cases e; omega)).kept K4 (fun _ k off e=>by cases e; omega))
 replace ES:=hid ((ES.out.kept KF (fun _ k off e=>by cases e; omega)).kept K4 (fun _ k off e=>by cases e; omega));have gl1:g<(w3.setCell ⟨w.heap.size+1+1,11,none⟩ (.slice (some ⟨g,0,none⟩) l l)).heap.size:=Nat.lt_of_lt_of_le hgl KF.size;replace TG:=hid (AR (AR TG.out KF hgl (by omega)) K4 gl1 (by omega));replace H:=hid (Ax (Ax H.out KF (by omega)) K4 (by omega));replace hgl:=Nat.lt_of_lt_of_le gl1 K4.size;clear KF gl1 K4 V3 v11 f11
 have RR:=hid (show(⟨⟨i,t,x,y,some ⟨u,0,none⟩,n,n,some ⟨v,0,none⟩,m,m,fp,fq,fs,fz,b,ws,gs⟩,some ⟨g,0,none⟩,l,l,es⟩:Tk).At w4 from⟨IX.out.I,JX.out.I,ES.out,by show n<=_; omega,by show m<=_; omega,by show l<=_; omega⟩);have OL:=hid (show OwnL w.heap.size w4 (⟨⟨i,t,x,y,some ⟨u,0,none⟩,n,n,some ⟨v,0,none⟩,m,m,fp,fq,fs,fz,b,ws,gs⟩,some ⟨g,0,none⟩,l,l,es⟩:Tk).ps from
  OwnL.append (ps:=[(some ⟨u,0,none⟩,n*4)]) (k:=v) (((OwnL.nil _ _).cons' (IX.out.owned (by omega)) (fun p hp=>by cases hp)))
   (OwnL.append (ps:=[(some ⟨v,0,none⟩,m*4)]) (k:=g) (((OwnL.nil _ _).cons' (JX.out.owned (Nat.le_refl _)) (fun p hp=>by cases hp))) ((OwnL.nil _ _).cons' (fun _=>⟨g,rfl,Nat.le_refl _,hgl,TG.out⟩) (fun p hp=>by cases hp)) (by omega) (fun p hp _ g' e=>by rcases List.mem_singleton.1 hp with rfl; cases e; omega))
   (by omega) (fun p hp _ g' e=>by rcases List.mem_singleton.1 hp with rfl; cases e; omega))
 go_wp2;exact bodyPost_ret (v:=.agg ((⟨⟨i,t,x,y,some ⟨u,0,none⟩,n,n,some ⟨v,0,none⟩,m,m,fp,fq,fs,fz,b,ws,gs⟩,some ⟨g,0,none⟩,l,l,es⟩:Tk).cs).toArray) (BI rfl (w.heap.size+1) rfl (⟨⟨i,t,x,y,some ⟨u,0,none⟩,n,n,some ⟨v,0,none⟩,m,m,fp,fq,fs,fz,b,ws,gs⟩,some ⟨g,0,none⟩,l,l,es⟩:Tk).cs D4 Try.underlying84 rfl (by exact As)) rfl ⟨(⟨⟨i,t,x,y,some ⟨u,0,none⟩,n,n,some ⟨v,0,none⟩,m,m,fp,fq,fs,fz,b,ws,gs⟩,some ⟨g,0,none⟩,l,l,es⟩:Tk),rfl,rfl,RR.out,OL.out,H.out⟩
theorem Gb:(Try.prog.info? 84).map (fun i=>(i.zero,i.size,i.bytes))=some (some (.agg ([.int .i64 0,.int .i64 0,.int .i64 0,.int .i64 0,.slice none 0 0,.slice none 0 0,.int .i64 0,.int .i64 0,.int .i64 0,.int .i64 0,.int .i64 0,.slice none 0 0]).toArray),12,144):=by kernel_rfl
theorem M.Tk.one(q:Tk):q.cs.all (·.oneCell')=true:=rfl
theorem M.Tk.len(q:Tk):q.cs.length=12:=rfl
theorem M.Tk.Sm.of_v{q q':Tk}{w w':World}(h:q.Sm)(hv:q'.v=q.v)(R:q.At w)(R':q'.At w'):q'.Sm:=by
 simp only[Tk.v,Tv.mk.injEq] at hv;obtain⟨-,-,-,-,h1,h2,-,-,-,-,-,h3⟩:=hv;have a1:=R.I.1;have a2:=R.J.1;have a3:=R.E.1;have b1:=R'.I.1;have b2:=R'.J.1;have b3:=R'.E.1;rw[h1] at b1;rw[h2] at b2;rw[h3] at b3;exact⟨by have:=h.n; omega,by have:=h.m; omega,by have:=h.l; omega⟩
theorem EU{P:Program}{ops:Array Oper}{rest:List Oper}{o:Oper}{a:Act}{w:World}{Q:Exit->Act->World->Prop}(hgd:o.guard=none)(ty:TypeId)(x y:Operand)(ho:o.op=.store ty x y)
 (b off:Nat) (hx:a.eval x=.pointer (some ⟨b,off,none⟩)) (vs:List Value) (hy:a.eval y=.agg vs.toArray) (ht:w.there b off vs.length) (hi:(P.info? ty).map (·.size)=some vs.length) (h1:vs.all (·.oneCell')=true)
 (h:∀ w',w'=w.setCells b off vs->wpList P ops Q rest (a.put o.dst undef) w'):wpList P ops Q (o::rest) a w :=
 wpList_store_mid hgd ty x y ho b off vs.toArray hx hy (by simpa using ht) (by simpa using hi) (by rw[List.all_toArray]; exact h1) (by simpa using h _ rfl)
theorem Ee{W:World}{g n:Nat}(h:W.there g 0 n)(o:Nat)(vs:List Value)(hl:o+vs.length<=n):(W.setCells g o vs).there g 0 n:=fun j hj=>by
 refine⟨?_,by rw[World.frozen?_setCells]; exact(h j hj).2⟩;rw[Nat.zero_add];by_cases hin:o<=j/\j<o+vs.length
 . have:=World.cell?_setCells_in g vs o W (fun i hi=>by have:=(h (o+i) (by omega)).1; rwa [Nat.zero_add] at this) (j-o) (by omega);rw[show o+(j-o)=j by omega] at this;rw[this]; rfl
 . rw[World.cell?_setCells_out g vs o W ⟨g,j,none⟩ (fun _ _=>by show j<o\/o+vs.length<=j; omega)];have:=(h j hj).1
   rwa [Nat.zero_add] at this
def GK(w:World)(n:Nat)(ts:List Tk)(i:Value)(W:World):Prop :=
 ∃(k:Nat) (us:List Tk),k<=n/\i=.int .i64 k/\us.map Tk.v=(ts.take k).map Tk.v/\W.there w.heap.size 0 (n*12)/\(∀ j q',us[j]?=some q'->W.rangeAt w.heap.size (j*12) q'.cs)/\(∀ q'∈us,q'.At W)/\OwnL (w.heap.size+1) W (us.flatMap Tk.ps)/\w.heap.size<W.heap.size/\Below w.heap.size w W
theorem Ef{w W wn W':World}{n k:Nat}{ts us:List Tk}{q q':Tk}(hk:k<n)(hl:ts.length=n)(hq:ts[k]?=some q)(hu:us.map Tk.v=(ts.take k).map Tk.v)(T:W.there w.heap.size 0 (n*12))
 (hc:∀ j q',us[j]?=some q'->W.rangeAt w.heap.size (j*12) q'.cs) (hR:∀ q'∈us,q'.At W) (O:OwnL (w.heap.size+1) W (us.flatMap Tk.ps)) (hw:w.heap.size<W.heap.size) (Bw:Below w.heap.size w W)
 (hv:q'.v=q.v) (R':q'.At wn) (O':OwnL W.heap.size wn q'.ps) (B:Below W.heap.size W wn) (e:W'=wn.setCells w.heap.size (k*12) q'.cs):GK w n ts (.int .i64 (k+1)) W':=by
 subst e;have hlu:us.length=k:=by have:=congrArg List.length hu; simp only[List.length_map,List.length_take] at this; omega
 have K:Kept w.heap.size wn (wn.setCells w.heap.size (k*12) q'.cs):=CL _ _ (Kept.refl _ _);have T1:=AA T B hw;have hw1:=Nat.lt_of_lt_of_le hw B.size;have Oa:OwnL (w.heap.size+1) wn ((us++[q']).flatMap Tk.ps):=by
  rw[List.flatMap_append];have t:=OwnL.append (O.step B) O' (by omega) (fun p hp h0 g e=>(O.lt p hp h0 g e).2);simpa using t
 refine⟨k+1,us++[q'],by omega,by simp,?_,Ee T1 _ _ (by rw[Tk.len]; omega),fun j p hp=>?_,fun p hp=>?_,Oa.kept K (Nat.lt_succ_self _),Nat.lt_of_lt_of_le hw1 K.size,Ax (Aa Bw B) K (Nat.le_refl _)⟩
 . rw[List.take_succ_eq_append_getElem (by omega),List.map_append,List.map_append,hu];have:ts[k]=q:=by rw[List.getElem?_eq_getElem (by omega)] at hq; exact Option.some.inj hq
   rw[this];simp[hv]
 . by_cases hj:j<us.length
   . rw[List.getElem?_append_left hj] at hp;exact World.rangeAt_setCells_apart (Av (hc j p hp) (B.block _ hw)) _ _ _ (.inr (.inl (by rw[Tk.len]; omega)))
   . rw[List.getElem?_append_right (by omega)] at hp;have hj2:j=k:=by
      rcases Nat.lt_or_ge (j-us.length) 1 with h1 | h1
      . omega
      . rw[List.getElem?_eq_none (by simpa using h1)] at hp; cases hp
     subst hj2;rw[hlu,Nat.sub_self] at hp;cases hp
     exact World.rangeAt_setCells_same _ _ _ _ (fun i hi=>by
      have:=T1 (j*12+i) (by rw[Tk.len] at hi; omega)
      rwa [Nat.zero_add] at this)
 . have hall:∀ p∈us++[q'],p.At wn:=fun p hp=>by
    rcases List.mem_append.1 hp with h1 | h1
    . exact(hR p h1).step B
    . rw[List.mem_singleton.1 h1]; exact R'
   exact(hall p hp).kept (fun x hx=>Oa.all x (List.mem_flatMap.2 ⟨p,hp,hx⟩)) K (Nat.lt_succ_self _)
def EW(w:World)(n:Nat)(ts:List Tk)(e:Ending)(w':World):Prop :=
 ∃ us:List Tk,e=.returned (.slice (some ⟨w.heap.size,0,none⟩) n n)/\us.map Tk.v=ts.map Tk.v/\Tracks w' (some ⟨w.heap.size,0,none⟩) n us/\w'.there w.heap.size 0 (n*12)/\OwnL (w.heap.size+1) w' (us.flatMap Tk.ps)/\w.heap.size<w'.heap.size/\Below w.heap.size w w'
theorem EX(A:Option Addr)(n c:Nat)(ts:List Tk)(w:World)(T:Tracks w A n ts)(hs:∀ q∈ts,q.Sm)(hn:n<=1048576) :
 Calls Try.prog 56 #[.slice A n c] w (EW w n ts):=by
 obtain⟨i0,hi,hz0,hz1,hz2⟩:=info_parts Gb;have hl:=hid T.len;have hsm:=hid hs;replace T:=hid T;clear hs;go_enter Try.func56,Try.ntmps56;go_wp2_with (at_make; refine wpList_make_full _ rfl _ _ 25 rfl w.heap.size 84 i0 (.agg ([.int .i64 0,.int .i64 0,.int .i64 0,.int .i64 0,.slice none 0 0,.slice none 0 0,.int .i64 0,.int .i64 0,.int .i64 0,.int .i64 0,.int .i64 0,.slice none 0 0]).toArray) 12 Try.underlying25 hi hz0 hz1 .i64 .i64 _ _ n rfl rfl rfl rfl (by rw[hz2]; omega) (by unfold maxLen; omega) (Nat.le_refl _) ?_);intro w0 O0 G0;have T0:w0.there w.heap.size 0 (n*12):=fun j hj=>by
  rw[Nat.zero_add];refine⟨?_,O0.frozenAt j⟩;rw[O0.cellAt j hj,List.getElem?_eq_getElem (by rw[O0.1]; exact hj)];rfl
 have L0:w.heap.size<w0.heap.size:=(O0.lt w.heap.size rfl).2;have B0:Below w.heap.size w w0:=(Ac w).grown G0 (Nat.le_refl _) (fun k e=>by cases e);clear G0 O0;replace T0:=hid T0;replace B0:=hid B0;go_wp2
 go_loopw [4] (GK w n ts) (fun i _=>n-(RowKit.intOf i).toNat)
 case atStart=>exact⟨0,[],Nat.zero_le _,rfl,rfl,T0.out,(fun j q' h=>by cases h),(fun q' h=>by cases h),OwnL.nil _ _,L0,B0.out⟩
 case round =>
  clear T0 B0 L0;obtain⟨k,us,hk,rfl,hu,TH,hc,hR,OO,hw,Bw⟩:=hrel;have T1:=hid (T.out.step Bw);replace hu:=hid hu;replace TH:=hid TH;replace hc:=hid hc;replace hR:=hid hR;replace OO:=hid OO;replace Bw:=hid Bw;by_cases hlt:k<n
  . obtain⟨b,off,eA,_⟩:=T1.out.at_ (by omega);subst eA;obtain⟨q,hq⟩:∃ q,ts[k]?=some q:=⟨_,List.getElem?_eq_getElem (by have:=hl.out; omega)⟩;have hr:=hid (T1.out.rng hq);have hqa:=hid (T1.out.all q (List.mem_of_getElem? hq));have hqs:=hid (hsm.out q (List.mem_of_getElem? hq));replace hq:=hid hq;have hlI:(k:Int)<(n:Int):=by omega
    go_wp2_with (refine wpList_load_mid rfl 117 (.tmp 18) rfl b (off+k*12) rfl q.cs _ hr.out Try.underlying117 rfl CU ?_);go_wp2_with fail;refine(Ga q _ hqa.out hqs.out).mono ?_;rintro e wn ⟨q',rfl,hv,R',O',B⟩;obtain⟨vs,hvs⟩:∃ vs,vs=q'.cs:=⟨_,rfl⟩;rw[<- hvs];have hvl:vs.length=12:=by rw[hvs]; rfl
    have hvo:=hid (show vs.all (·.oneCell')=true by rw[hvs]; rfl);have hvi:=hid (show(Try.prog.info? 84).map (·.size)=some vs.length by rw[hvl]; exact As);have nx:=hid (fun W'=>Ef (W':=W') hlt hl.out hq.out hu.out TH.out hc.out hR.out OO.out hw Bw.out hv R' O' B);have th:=hid (show wn.there w.heap.size (k*12) vs.length from fun i hi=>by
     have:=AA TH.out B hw (k*12+i) (by omega)
     rwa [Nat.zero_add] at this)
    rw[<- hvs] at nx;replace hvs:=hid hvs;replace hvl:=hid hvl;clear hv R' O' B;go_wp2_with (refine EU rfl 84 (.tmp 21) (.tmp 20) rfl w.heap.size (k*12) rfl vs rfl th.out hvi.out hvo.out ?_)
    go_roundw
    case rel=>exact nx.out _ rfl
    case measure=>simp[RowKit.intOf]; omega
  . obtain rfl:k=n:=by omega
    have hu2:=hid (show us.map Tk.v=ts.map Tk.v by rw[hu.out,List.take_of_length_le (by have:=hl.out; omega)]);have hlu:us.length=k:=by have:=congrArg List.length hu2.out; simp only[List.length_map] at this; have:=hl.out; omega
    have TT:=hid (show Tracks wr (some ⟨w.heap.size,0,none⟩) k us from⟨hlu,fun _=>⟨w.heap.size,0,rfl,hw,fun j q hq=>by rw[Nat.zero_add]; exact hc.out j q hq⟩,hR.out⟩);clear T1 hu hc hR;go_wp2;go_ret;exact⟨us,rfl,hu2.out,TT.out,TH.out,OO.out,hw,Bw.out⟩
end Go.Proofs.Ytbeohbhhmcjokaa
