import Derived.Test.YtgbiagonfbnooaaGreatDoorZLvT
set_option linter.all false
set_option maxRecDepth 100000
set_option maxHeartbeats 8000000
open Go.Lib
namespace Go.Proofs.YtgbiagonfbnooaaGreatDoor
open Go.RowKit
open M
def M.toS(ws gs:List Bx)(p q r z:Int)(s:St)(xs:List In):St:=xs.foldl (DL ws gs p q r z) s
theorem M.toS_next{ws gs:List Bx}{p q r z:Int}{s:St}{xs:List In}{j:Nat}(h:j<xs.length):toS ws gs p q r z s (xs.take (j+1))=DL ws gs p q r z (toS ws gs p q r z s (xs.take j)) (xs.getD j iz):=by
 unfold toS;rw[List.take_succ_eq_append_getElem h,List.foldl_append,List.getD_eq_getElem?_getD,List.getElem?_eq_getElem h];rfl
theorem VIn.at{xs:List In}(h:VIn xs){j:Nat}(hj:j<xs.length):Bm (xs.getD j iz).s (xs.getD j iz).p (xs.getD j iz).z=true:=h _ (by
 rw[List.getD_eq_getElem?_getD,List.getElem?_eq_getElem hj];exact List.getElem_mem hj)
def NM(w:World)(sb m j0:Nat)(ws gs:List Bx)(fp fq fs fz x y:Int)(xs:List In)(vs:List Value)(iv:Value)(W:World):Prop :=
 ∃(j:Nat) (st:St),j<=j0/\iv=.int .i64 j/\st=toS ws gs fp fq fs fz ⟨0,x,y,0,0,0,0,false,false⟩ (xs.take j)/\StB m st/\st.k<=j/\CellsAt W w.heap.size vs/\CellsAt W (w.heap.size+1) (AE 0 0 0 0 0 0 0 false false)/\CellsAt W sb (AE st.k st.ax st.ay st.fx st.fy st.u st.g st.d st.o)/\Below w.heap.size w W
def Nm(w:World)(st:St)(e:Ending)(w':World):Prop:=e=.returned (Dw st.k st.ax st.ay st.fx st.fy st.u st.g st.d st.o)/\Below w.heap.size w w'
theorem KR(i t x y:Int)(A:Option Addr)(n c:Nat)(G:Option Addr)(m kk:Nat)(fp fq fs fz b:Int)(ws gs:List Bx)(Q:Option Addr)(N cc:Nat)(xs:List In)(j0:Nat)(w:World)(I:Boxes w A n ws)(J:Boxes w G m gs)(Y:Inputs w Q N xs)(ok:C8 ws=true)(hn:n<=281474976710656)(hm:m<=281474976710656)(hN:N<=1000)(hj0:j0<=N)(vx:VIn xs)(hx:-1000000<=x/\x<=1000000)(hy:-1000000<=y/\y<=1000000) :
 Calls Tryz.prog 104 #[Fq i t x y A n c G m kk fp fq fs fz b,.slice Q N cc,.int .i64 j0] w (Nm w (toS ws gs fp fq fs fz ⟨0,x,y,0,0,0,0,false,false⟩ (xs.take j0))):=by
 have hl:=hid Y.1;have gl:=J.1;have I:=hid I;have J:=hid J;have Y:=hid Y;have vx:=hid vx;have ok:=hid ok;have L:CellsAt ((w.alloc (.cells #[.int .i64 i,.int .i64 t,.int .i64 x,.int .i64 y,.slice A n c,.slice G m kk,.int .i64 fp,.int .i64 fq,.int .i64 fs,.int .i64 fz,.int .i64 b] 62)).alloc (.cells #[.int .i64 0,.int .i64 0,.int .i64 0,.int .i64 0,.int .i64 0,.int .i64 0,.int .i64 0,.bool false,.bool false] 132)) w.heap.size (AW i t x y A n c G m kk fp fq fs fz b):=(CellsAt.new w _ _ _ rfl).alloc _
 have D:CellsAt ((w.alloc (.cells #[.int .i64 i,.int .i64 t,.int .i64 x,.int .i64 y,.slice A n c,.slice G m kk,.int .i64 fp,.int .i64 fq,.int .i64 fs,.int .i64 fz,.int .i64 b] 62)).alloc (.cells #[.int .i64 0,.int .i64 0,.int .i64 0,.int .i64 0,.int .i64 0,.int .i64 0,.int .i64 0,.bool false,.bool false] 132)) (w.heap.size+1) (AE 0 0 0 0 0 0 0 false false):=CellsAt.new _ _ _ _ (by simp)
 have H:=hid (Ab (Ab (Ac w) (.cells #[.int .i64 i,.int .i64 t,.int .i64 x,.int .i64 y,.slice A n c,.slice G m kk,.int .i64 fp,.int .i64 fq,.int .i64 fs,.int .i64 fz,.int .i64 b] 62)) (.cells #[.int .i64 0,.int .i64 0,.int .i64 0,.int .i64 0,.int .i64 0,.int .i64 0,.int .i64 0,.bool false,.bool false] 132));go_enter Tryz.func104,Tryz.ntmps104;obtain⟨Lc0,Lc1,Lc2,Lc3,Lc4,Lc5,Lc6,Lc7,Lc8,Lc9,Lc10⟩:=Bb L;have Ll:=L.lt;go_wp2_with fail;refine(Fl i t x y A n c G m kk fp fq fs fz b _).mono ?_;rintro e w1 ⟨rfl,B⟩;replace L:=L.step B;replace D:=D.step B;replace H:=hid (Aa H.out B)
 clear B Lc0 Lc1 Lc2 Lc3 Lc4 Lc5 Lc6 Lc7 Lc8 Lc9 Lc10 Ll;go_upto_region 2 with fail;refine Aw (fun W'=>CellsAt W' w.heap.size (AW i t x y A n c G m kk fp fq fs fz b)/\CellsAt W' (w.heap.size+1) (AE 0 0 0 0 0 0 0 false false)/\CellsAt W' w1.heap.size (AE 0 x y 0 0 0 0 false false)/\Below w.heap.size w W') ⟨L.alloc _,D.alloc _,CellsAt.new _ _ _ _ rfl,Ab H.out _⟩ ?_;have hsb:w.heap.size+1<w1.heap.size:=D.lt;clear L D H;generalize w1.heap.size=sb at *;rintro w2 ⟨L,D,S,H⟩;go_wp2
 go_loopw [8] (NM w sb m j0 ws gs fp fq fs fz x y xs (AW i t x y A n c G m kk fp fq fs fz b)) (fun i _=>j0-(RowKit.intOf i).toNat)
 case atStart=>exact⟨0,⟨0,x,y,0,0,0,0,false,false⟩,Nat.zero_le _,rfl,rfl,HE hx hy,Int.le_refl _,L,D,S,H⟩
 case round =>
  clear L D S H;obtain⟨j,st,hj,rfl,est,hB,hk,L,D,S,H⟩:=hrel;by_cases hlt:j<j0
  . obtain⟨bb,off,rfl,hb,hcell⟩:=Y.out.2 (by omega);have Z:=((hcell j (by omega)).lie hb).of (H.block bb hb) H.size;have hjl:j<xs.length:=by have:=hl.out; omega
    have hjN:j<N:=by omega
    have vq:=vx.out.at hjl;have en:=toS_next (ws:=ws) (gs:=gs) (p:=fp) (q:=fq) (r:=fs) (z:=fz) (s:=⟨0,x,y,0,0,0,0,false,false⟩) hjl;rw[<- est] at en;clear hcell hjl;generalize xs.getD j iz=q at *;obtain⟨s,p,z⟩:=q;simp only at Z vq;have sb1:=(Dc vq).1;have ks:=HI (ws:=ws) (gs:=gs) (p:=fp) (q:=fq) (r:=fs) (z:=fz) (x:=⟨s,p,z⟩) hB (by omega) gl sb1.1 sb1.2;obtain⟨sk,sax,say,sfx,sfy,su,sg,sd,so⟩:=st;simp only at hk S;have H:=hid H;have en:=hid en;have ks:=hid ks
    have C:=fun(W:World) (Z:Boxes W A n ws) (Y:Boxes W G m gs)=>Eo i t x y A n c G m kk fp fq fs fz b ws gs sk sax say sfx sfy su sg.toNat sd so s p z W Z Y ok.out hn hm (by
     have:=hB.g.1;simp only at this;rw[Int.toNat_of_nonneg this];exact hB) (by omega) sb1.1 sb1.2
    rw[Int.toNat_of_nonneg (show 0<=sg from hB.g.1)] at C;have C:=hid C;clear est hB vq;go_wp2_with fail;refine wp_region_held_drew (S:=fun w'=>CellsAt w' w.heap.size (AW i t x y A n c G m kk fp fq fs fz b)/\(w'.cell? ⟨bb,off+j*3,none⟩=some (.int .i64 s)/\w'.cell? ⟨bb,off+j*3+1,none⟩=some (.int .i64 p)/\w'.cell? ⟨bb,off+j*3+2,none⟩=some (.bool z))) (by kernel_rfl) ⟨L.drew,AL Z.drew⟩ (fun hHeld=>?_);replace L:=L.drew;replace D:=D.drew;replace S:=S.drew;replace Z:=Z.drew;replace H:=hid (Az H.out)
    refine wpAnyH_take (i:=0) (oi:=_) (v:=.agg (AW i t x y A n c G m kk fp fq fs fz b).toArray) rfl (by kernel_rfl) (by kernel_rfl) (by kernel_rfl) (fun _ _ _ h=>h) (yieldsIf_load_mid (by rfl) 62 (.tmp 3) rfl w.heap.size 0 rfl (AW i t x y A n c G m kk fp fq fs fz b) _ (fun W hS=>hS.1.range) Tryz.underlying62 rfl Am) hHeld ?_
    try simp only[Act.put,sx]
    refine tl 2 ?_ ?_ hHeld ?_;rotate_left
    . intro w hSw
      try dsimp only at hSw
      go_simp
      all_goals with_reducible rfl
    try simp only[Act.put,sx]
    refine tl 3 ?_ ?_ hHeld ?_;rotate_left
    . intro w hSw
      try dsimp only at hSw
      go_simp
      all_goals with_reducible rfl
    try simp only[Act.put,sx]
    refine tl 4 ?_ ?_ hHeld ?_;rotate_left
    . intro w hSw
      try dsimp only at hSw
      go_simp
      all_goals with_reducible rfl
    try simp only[Act.put,sx]
    refine tl 5 ?_ ?_ hHeld ?_;rotate_left
    . intro w hSw;obtain⟨_,d0,d1,d2⟩:=hSw;go_simp
      all_goals with_reducible rfl
    try simp only[Act.put,sx]
    refine rd 1 fun K hK=>?_;refine wp_load_mid 132 (.tmp 7) rfl sb 0 rfl (AE sk sax say sfx sfy su sg sd so) _ S.range Tryz.underlying132 rfl Ad ?_;clear hHeld;refine hK.out _ _ ⟨L,AL Z⟩ (fun hHeld=>?_);clear hK K
    try simp only[Act.put,sx]
    refine rd 6 fun K hK=>?_;refine Hv ⟨_,Tryz.func87,by kernel_rfl,by rfl⟩ _ _ rfl #[Fq i t x y A n c G m kk fp fq fs fz b,Dw sk sax say sfx sfy su sg sd so,BK s p z] (by simp only[List.map_toArray,List.map_cons,List.map_nil]; rfl) (C.out _ (I.out.step H.out) (J.out.step H.out)) ?_;rintro e w5 ⟨⟨nk,nx,ny,nf,ng,nu,nv,nd,no,eM,rfl⟩,B⟩;refine⟨_,rfl,?_⟩;replace L:=L.step B;replace D:=D.step B;replace S:=S.step B;replace Z:=Z.step B;replace H:=hid (Aa H.out B);replace en:=hid (en.out.trans eM);replace ks:=hid (show StB m ⟨nk,nx,ny,nf,ng,nu,nv,nd,no⟩/\nk<=sk+1 from by have:=ks.out; rw[eM] at this; exact this);clear B hHeld eM
    refine hK.out _ _ ⟨L,AL Z⟩ (fun hHeld=>?_);clear hK K
    try simp only[Act.put,sx]
    refine rd 7 fun K hK=>?_;refine Ao 132 (.tmp 7) (.tmp 22) rfl sb rfl (AE nk nx ny nf ng nu nv nd no) rfl _ S (by simp) Ad rfl ?_;intro w6 K N6;have nz:bb≠sb:=by have:=hsb; have hb2:=hb; omega
    replace L:=L.kept K (by omega);replace D:=D.kept K (by omega);replace S:=N6;replace Z:=Z.of (K.block bb Z.lt nz) K.size;replace H:=hid (Au H.out K (by omega));clear K N6 hHeld;refine hK.out _ _ ⟨L,AL Z⟩ (fun hHeld=>?_);clear hK K
    try simp only[Act.put,List.getElem_toArray,List.getElem_cons_succ,List.getElem_cons_zero]
    refine wpAnyH_done (by kernel_rfl) ?_ _;have kk2:=ks.out.2;go_wp2
    go_roundw
    case rel=>exact⟨j+1,⟨nk,nx,ny,nf,ng,nu,nv,nd,no⟩,by omega,by go_num,en.out.symm,ks.out.1,(show nk<=((j+1:Nat):Int) by omega),L,D,S,H.out⟩
    case measure=>simp[RowKit.intOf]; omega
  . obtain rfl:j=j0:=by omega
    clear hB;obtain⟨sk,sax,say,sfx,sfy,su,sg,sd,so⟩:=st;simp only at hk S;replace est:=hid est;go_upto_region 6 with fail;refine wp_region_lit ?_;refine Ag rfl 132 (.tmp 7) rfl sb rfl (AE sk sax say sfx sfy su sg sd so) S Tryz.underlying132 rfl Ad ?_;refine Ah rfl 132 (.tmp 6) (.tmp 23) rfl (w.heap.size+1) rfl (AE sk sax say sfx sfy su sg sd so) rfl _ D (by simp) Ad rfl ?_;intro w5 K N5;go_wp2;exact bodyPost_ret (v:=Dw sk sax say sfx sfy su sg sd so) (Ai rfl (w.heap.size+1) rfl (AE sk sax say sfx sfy su sg sd so) N5 Tryz.underlying132 rfl Ad) rfl ⟨by rw[<- est.out],Au H K (by omega)⟩
open Go.RowKit
open M
theorem GF(t b:Int):∀(xs:List In) (i ps s0:Int),0<=i->F8 t b xs i ps s0=-1->(∀ q∈xs,Bm q.s q.p q.z=true)/\∀ j:Nat,j<xs.length->i+j<t
 | [],i,ps,s0,_,_=>⟨fun q hq=>(by cases hq),fun j hj=>(by simp at hj)⟩
 | q::xs,i,ps,s0,hi,h=>by
  cases g:Co t b i ps s0 q
  . rw[E3 g] at h;obtain⟨h1,h2⟩:=GF t b xs _ _ _ (by omega) h;obtain⟨g1,_,g3⟩:=La g;refine⟨fun z hz=>?_,fun j hj=>?_⟩
    . rcases List.mem_cons.1 hz with rfl | hz
      . exact FY g3
      . exact h1 z hz
    . rcases j with _ | j
      . simpa using g1
      . have:=h2 j (by simpa using hj);omega
  . rw[Bz g] at h;omega
def Lv.ev(L:Lv)(s:St):Bool:=evB L.i L.t L.x L.y L.ws L.gs L.fp L.fq L.fs L.fz L.b s.k s.ax s.ay s.fx s.fy s.u s.g s.d s.o
abbrev Lv.sS(L:Lv):St->In->St:=DL L.ws L.gs L.fp L.fq L.fs L.fz
theorem Lv.goes(L:Lv):∀(xs:List In) (i:Nat) (s:St),L.ev s=true->(s.k=i\/(s.k<i/\(s.d||s.o)=true))->(∀ q∈xs,Bm q.s q.p q.z=true)->(∀ j:Nat,j<xs.length->(i:Int)+j<L.t) ->
 xs.foldl L.nx s=xs.foldl L.sS s/\L.ev (xs.foldl L.nx s)=true/\((xs.foldl L.nx s).k=(i+xs.length:Nat)\/((xs.foldl L.nx s).k<(i+xs.length:Nat)/\((xs.foldl L.nx s).d||(xs.foldl L.nx s).o)=true))
 | [],i,s,he,hk,_,_=>⟨rfl,he,hk⟩
 | q::xs,i,s,he,hk,hv,ht=>by
  have h0:=ht 0 (by simp);have eo:eoB L.i L.t L.x L.y L.ws L.gs L.fp L.fq L.fs L.fz L.b s.k s.ax s.ay s.fx s.fy s.u s.g s.d s.o q.s q.p q.z=true:=(G1 ..).2 ⟨he,hv q (List.mem_cons_self ..),hk.elim (fun h=>.inl (by omega)) fun h=>.inr h.2⟩;have e1:L.nx s q=L.sS s q:=JJ eo;have e2:L.ev (L.nx s q)=true:=II eo (K:=(L.nx s q).k) (X:=(L.nx s q).ax) (Y:=(L.nx s q).ay) (P:=(L.nx s q).fx) (Q:=(L.nx s q).fy) (U:=(L.nx s q).u) (V:=(L.nx s q).g) (D:=(L.nx s q).d) (O:=(L.nx s q).o) rfl
  have T:=HG eo (K:=(L.nx s q).k) (X:=(L.nx s q).ax) (Y:=(L.nx s q).ay) (P:=(L.nx s q).fx) (Q:=(L.nx s q).fy) (U:=(L.nx s q).u) (V:=(L.nx s q).g) (D:=(L.nx s q).d) (O:=(L.nx s q).o) rfl;have e3:(L.nx s q).k=(i+1:Nat)\/((L.nx s q).k<(i+1:Nat)/\((L.nx s q).d||(L.nx s q).o)=true):=by
   cases c:(s.d||s.o)
   . have:=T.tick c;rcases hk with h | ⟨_,h⟩
     . left; omega
     . rw[c] at h; cases h
   . obtain⟨h1,_,_,_,_,_,_,h8,h9⟩:=T.stop c;right;rw[h8,h9,c];refine⟨?_,rfl⟩;rcases hk with h | ⟨h,_⟩<;>omega
  have:=L.goes xs (i+1) (L.nx s q) e2 e3 (fun z hz=>hv z (List.mem_cons_of_mem _ hz)) (fun j hj=>by have:=ht (j+1) (by simpa using hj); omega);rw[show i+1+xs.length=i+(q::xs).length from by simp; omega] at this;simp only[List.foldl_cons];rw[<- e1];exact this
theorem Lv.start_ok{L:Lv}(h:L.ok=true):L.s0=⟨0,L.x,L.y,0,0,0,0,false,false⟩/\L.ev L.s0=true:=by
 have e:L.s0=⟨0,L.x,L.y,0,0,0,0,false,false⟩:=by unfold Lv.s0; rw[h]; rfl
 exact⟨e,by rw[e]; exact JK h⟩
theorem CP{L:Lv}{xs:List In}{n:Nat}{k0:Int}:FW L xs n k0=true↔(0<=k0/\k0<=n)/\L.ok=true/\GW L.t L.b xs=-1:=by
 simp only[FW,Bool.and_eq_true,decide_eq_true_eq];constructor
 . rintro⟨h1,h2,h3⟩;cases h:L.ok
   . have h:Cd L.i L.t L.x L.y L.ws L.gs L.fp L.fq L.fs L.fz L.b=false:=h;simp[Jm,h] at h3
   . have h':Cd L.i L.t L.x L.y L.ws L.gs L.fp L.fq L.fs L.fz L.b=true:=h;simp only[Jm,h',if_true] at h3;exact⟨⟨h1,h2⟩,rfl,h3⟩
 . rintro⟨⟨h1,h2⟩,h,h3⟩;have h':Cd L.i L.t L.x L.y L.ws L.gs L.fp L.fq L.fs L.fz L.b=true:=h;exact⟨h1,h2,by simp only[Jm,h',if_true]; exact h3⟩
theorem KS{L:Lv}{xs:List In}{n:Nat}{k0:Int}(hl:xs.length=n)(h:FW L xs n k0=true) :
 L.run (xs.take k0.toNat)=toS L.ws L.gs L.fp L.fq L.fs L.fz ⟨0,L.x,L.y,0,0,0,0,false,false⟩ (xs.take k0.toNat)/\L.ev (L.run (xs.take k0.toNat))=true /\
  ((L.run (xs.take k0.toNat)).k=k0\/((L.run (xs.take k0.toNat)).k<k0/\((L.run (xs.take k0.toNat)).d||(L.run (xs.take k0.toNat)).o)=true)):=by
 obtain⟨⟨h1,h2⟩,hok,hlg⟩:=CP.1 h;obtain⟨e0,ev0⟩:=Lv.start_ok hok;obtain⟨hin,hlt⟩:=GF L.t L.b (xs.take k0.toNat) 0 0 0 (by omega) (Iy L.t L.b xs k0.toNat 0 0 0 (by omega) hlg);have:=L.goes (xs.take k0.toNat) 0 L.s0 ev0 (.inl (by rw[e0]; rfl)) hin (fun j hj=>by have:=hlt j hj; omega);have el:((0+(xs.take k0.toNat).length:Nat):Int)=k0:=by
  rw[List.length_take];omega
 rw[el] at this;refine⟨?_,this.2.1,this.2.2⟩
 show(xs.take k0.toNat).foldl L.nx L.s0=_
 rw[this.1,e0];rfl
theorem E0(L:Lv)(D:Option Addr)(k cc:Nat)(xs:List In)(w:World)(I:Boxes w L.A L.n L.ws)(J:Boxes w L.G L.m L.gs)(hn:L.n<=281474976710656)(hm:L.m<=281474976710656)(Y:Inputs w D k xs)(hk:k<=281474976710656) :
 Calls Tryz.prog 81 #[L.val,.slice D k cc] w fun e w'=>e=.returned (.bool (decide (Jm L.i L.t L.x L.y L.ws L.gs L.fp L.fq L.fs L.fz L.b xs=-1)))/\Below w.heap.size w w':=by
 have V:=fun(W:World) (Z:Boxes W L.A L.n L.ws) (X:Boxes W L.G L.m L.gs)=>DR L.i L.t L.x L.y L.A L.n L.c L.G L.m L.kk L.fp L.fq L.fs L.fz L.b L.ws L.gs W Z X hn hm;have P:CellsAt (w.alloc (.cells #[.int .i64 L.i,.int .i64 L.t,.int .i64 L.x,.int .i64 L.y,.slice L.A L.n L.c,.slice L.G L.m L.kk,.int .i64 L.fp,.int .i64 L.fq,.int .i64 L.fs,.int .i64 L.fz,.int .i64 L.b] 62)) w.heap.size L.cs:=CellsAt.new w _ _ _ rfl;have I:=hid (I.alloc (.cells #[.int .i64 L.i,.int .i64 L.t,.int .i64 L.x,.int .i64 L.y,.slice L.A L.n L.c,.slice L.G L.m L.kk,.int .i64 L.fp,.int .i64 L.fq,.int .i64 L.fs,.int .i64 L.fz,.int .i64 L.b] 62))
 have J:=hid (J.alloc (.cells #[.int .i64 L.i,.int .i64 L.t,.int .i64 L.x,.int .i64 L.y,.slice L.A L.n L.c,.slice L.G L.m L.kk,.int .i64 L.fp,.int .i64 L.fq,.int .i64 L.fs,.int .i64 L.fz,.int .i64 L.b] 62));have Y:=hid Y;have H:=hid (Ab (Ac w) (.cells #[.int .i64 L.i,.int .i64 L.t,.int .i64 L.x,.int .i64 L.y,.slice L.A L.n L.c,.slice L.G L.m L.kk,.int .i64 L.fp,.int .i64 L.fq,.int .i64 L.fs,.int .i64 L.fz,.int .i64 L.b] 62));cases h:Cd L.i L.t L.x L.y L.ws L.gs L.fp L.fq L.fs L.fz L.b
 . rw[h] at V;have E:=hid (show decide (Jm L.i L.t L.x L.y L.ws L.gs L.fp L.fq L.fs L.fz L.b xs=-1)=false by simp[Jm,h]);have V:=hid V;clear h;go_enter Tryz.func81,Tryz.ntmps81;go_upto_region 1 with fail;refine wp_region_lit ?_;refine Ag rfl 62 (.tmp 2) rfl w.heap.size rfl L.cs P Tryz.underlying62 rfl Am ?_;go_wp;refine(V.out _ I.out J.out).mono ?_;rintro e w1 ⟨rfl,B⟩;have H:=hid (Aa H.out B);clear B;go_wp2;go_ret;exact⟨by rw[E.out]; rfl,H.out⟩
 . obtain⟨b0,b3⟩:=LD h;have hb:=Lc L.t L.b xs 0 0 0;have E:=hid (show decide (Jm L.i L.t L.x L.y L.ws L.gs L.fp L.fq L.fs L.fz L.b xs=-1)=decide (GW L.t L.b xs<0) by
    simp only[Jm,h,if_true];have hb:GW L.t L.b xs=-1\/_:=hb;apply Bool.eq_iff_iff.2;simp only[decide_eq_true_eq];have:F8 L.t L.b xs 0 0 0=GW L.t L.b xs:=rfl;omega)
   rw[h] at V;have V:=hid V;have C:=hid (fun(W:World) (Z:Inputs W D k xs)=>CX L.i L.t L.x L.y L.A L.n L.c L.G L.m L.kk L.fp L.fq L.fs L.fz L.b D k cc xs W Z hk b0 b3);clear h hb;go_enter Tryz.func81,Tryz.ntmps81;go_upto_region 1 with fail;refine wp_region_lit ?_;refine Ag rfl 62 (.tmp 2) rfl w.heap.size rfl L.cs P Tryz.underlying62 rfl Am ?_;go_wp;refine(V.out _ I.out J.out).mono ?_;rintro e w1 ⟨rfl,B⟩;have P1:=P.step B;have H:=hid (Aa H.out B);clear B;dsimp only
   iterate 4 go_step
   refine Dr (by simp[Region.wanted,yielded]) 62 (.tmp 2) rfl w.heap.size rfl L.cs P1 Tryz.underlying62 rfl Am ?_;go_wp;rename_i K hK;refine(C.out _ (Y.out.step H.out)).mono ?_;rintro e w2 ⟨rfl,B⟩;have H:=hid (Aa H.out B);clear B P1;dsimp only;apply hK;go_wp2;go_ret;exact⟨by rw[E.out]; rfl,H.out⟩
theorem Mv{L:Lv}(h:L.ok=true):(C8 L.ws=true/\(-1000000<=L.x/\L.x<=1000000))/\(-1000000<=L.y/\L.y<=1000000):=by
 have h':Cd L.i L.t L.x L.y L.ws L.gs L.fp L.fq L.fs L.fz L.b=true:=h;obtain⟨_,_,h3,_,h5,_⟩:=(Dy ..).1 h';simp only[AD,okB,Ax,Bool.and_eq_true,decide_eq_true_eq] at h3;exact⟨⟨h5,by omega⟩,by omega⟩
open Go.RowKit
open M
abbrev Lv.at(L:Lv)(xs:List In)(j:Nat):St:=L.run (xs.take j)
theorem LO{L:Lv}{xs:List In}{n j:Nat}(h:FW L xs n (n:Int)=true)(hj:j<=n):FW L xs n (j:Int)=true:=by
 obtain⟨_,hok,hlg⟩:=CP.1 h;exact CP.2 ⟨⟨by omega,by omega⟩,hok,hlg⟩
open Go.RowKit
open M
theorem Ie{L:Lv}{xs:List In}{k:Nat}:FW L xs k (k:Int)=decide (Jm L.i L.t L.x L.y L.ws L.gs L.fp L.fq L.fs L.fz L.b xs=-1):=by
 simp[FW]
theorem IX(L:Lv)(D:Option Addr)(k cc:Nat)(xs:List In)(w:World)(I:Boxes w L.A L.n L.ws)(J:Boxes w L.G L.m L.gs)(hn:L.n<=281474976710656)(hm:L.m<=281474976710656)(Y:Inputs w D k xs)(hk:k<=1000) :
 Calls Tryz.prog 82 #[L.val,.slice D k cc] w fun e w'=>e=.returned (.int .i64 (L.score xs k))/\Below w.heap.size w w':=by
 have hl:=Y.1;have P:CellsAt (w.alloc (.cells #[.int .i64 L.i,.int .i64 L.t,.int .i64 L.x,.int .i64 L.y,.slice L.A L.n L.c,.slice L.G L.m L.kk,.int .i64 L.fp,.int .i64 L.fq,.int .i64 L.fs,.int .i64 L.fz,.int .i64 L.b] 62)) w.heap.size L.cs:=CellsAt.new w _ _ _ rfl;have V:=hid (E0 L D k cc xs (w.alloc (.cells #[.int .i64 L.i,.int .i64 L.t,.int .i64 L.x,.int .i64 L.y,.slice L.A L.n L.c,.slice L.G L.m L.kk,.int .i64 L.fp,.int .i64 L.fq,.int .i64 L.fs,.int .i64 L.fz,.int .i64 L.b] 62)) (I.alloc _) (J.alloc _) hn hm (Y.alloc _) (by omega))
 have H:=hid (Ab (Ac w) (.cells #[.int .i64 L.i,.int .i64 L.t,.int .i64 L.x,.int .i64 L.y,.slice L.A L.n L.c,.slice L.G L.m L.kk,.int .i64 L.fp,.int .i64 L.fq,.int .i64 L.fs,.int .i64 L.fz,.int .i64 L.b] 62));have I:=hid I;have J:=hid J;have Y:=hid Y;have e0:=Ie (L:=L) (xs:=xs) (k:=k);go_enter Tryz.func82,Tryz.ntmps82;go_upto_region 1 with fail;refine wp_region_lit ?_;refine Ag rfl 62 (.tmp 2) rfl w.heap.size rfl L.cs P Tryz.underlying62 rfl Am ?_;go_wp;refine V.out.mono ?_;rintro e w1 ⟨rfl,B⟩;have P:=P.step B;replace H:=hid (Aa H.out B);clear B V;dsimp only
 cases hI:decide (Jm L.i L.t L.x L.y L.ws L.gs L.fp L.fq L.fs L.fz L.b xs=-1)
 . have E:=hid (show L.score xs k=-1 by rw[Lv.score,e0,hI]; rfl);clear hI e0;go_wp2;go_ret;exact⟨by rw[E.out]; rfl,H.out⟩
 . have hok:FW L xs k (k:Int)=true:=e0.trans hI;obtain⟨_,hlv,hlg⟩:=CP.1 hok;have er:=(KS hl hok).1;obtain⟨⟨hb,hx⟩,hy⟩:=Mv hlv;have E:=hid (show L.score xs k=if (toS L.ws L.gs L.fp L.fq L.fs L.fz ⟨0,L.x,L.y,0,0,0,0,false,false⟩ (xs.take k)).d then (toS L.ws L.gs L.fp L.fq L.fs L.fz ⟨0,L.x,L.y,0,0,0,0,false,false⟩ (xs.take k)).k else -1 by
    have f1:L.fin xs k k=toS L.ws L.gs L.fp L.fq L.fs L.fz ⟨0,L.x,L.y,0,0,0,0,false,false⟩ (xs.take k):=by unfold Lv.fin; rw[if_pos hok]; exact er
    rw[Lv.score,hok,f1];simp[Ob])
   have vx:VIn xs:=(GF L.t L.b xs 0 0 0 (by omega) hlg).1;have T:=hid (KR L.i L.t L.x L.y L.A L.n L.c L.G L.m L.kk L.fp L.fq L.fs L.fz L.b L.ws L.gs D k cc xs k w1 (I.out.step H.out) (J.out.step H.out) (Y.out.step H.out) hb hn hm hk (Nat.le_refl _) vx hx hy);clear hI hok er vx hlg hlv I J Y e0;generalize toS L.ws L.gs L.fp L.fq L.fs L.fz ⟨0,L.x,L.y,0,0,0,0,false,false⟩ (xs.take k)=s at *;go_upto_region 3 with fail;refine wp_region_lit ?_;refine Ag rfl 62 (.tmp 2) rfl w.heap.size rfl L.cs P Tryz.underlying62 rfl Am ?_;go_wp;refine T.out.mono ?_;rintro e w2 ⟨rfl,B⟩;replace H:=hid (Aa H.out B);clear B T P;dsimp only
   iterate 4 go_step
   have hz:=H.out.size;refine Ah rfl 132 (.tmp 5) (.tmp 14) rfl w2.heap.size rfl (svs s) rfl _ (CellsAt.new w2 _ [_,_,_,_,_,_,_,_,_] 132 rfl) (Nat.le_refl _) Ad rfl ?_;intro w3 K S;have H:=hid (Au (Ab H.out (.cells #[.int .i64 0,.int .i64 0,.int .i64 0,.int .i64 0,.int .i64 0,.int .i64 0,.int .i64 0,.bool false,.bool false] 132)) K hz);have s0:=S.cell 0 _ rfl;have s7:=S.cell 7 _ rfl;have sl:=S.lt;clear K;cases hd:s.d
   . rw[hd] at s7 E;clear hd;go_wp2;go_ret;exact⟨by rw[E.out]; rfl,H.out⟩
   . rw[hd] at s7 E;clear hd;go_wp2;go_ret;exact⟨by rw[E.out]; rfl,H.out⟩
end Go.Proofs.YtgbiagonfbnooaaGreatDoor
