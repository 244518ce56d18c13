import Derived.Test.YtaemcekcancpdaaGreatDoorZDrawAny
set_option linter.all false
set_option maxRecDepth 100000
set_option maxHeartbeats 8000000
open Go.Lib
namespace Go.Proofs.YtaemcekcancpdaaGreatDoor
open Go.RowKit
open M
def M.toS(ws gs:List Bx)(p q r z:Int)(s:St)(xs:List In):St:=xs.foldl (stS ws gs p q r z) s
theorem M.toS_next{ws gs:List Bx}{p q r z:Int}{s:St}{xs:List In}{j:Nat}(h:j<xs.length):toS ws gs p q r z s (xs.take (j+1))=stS ws gs p q r z (toS ws gs p q r z s (xs.take j)) (xs.getD j iz):=by
 unfold toS;rw[List.take_succ_eq_append_getElem h,List.foldl_append,List.getD_eq_getElem?_getD,List.getElem?_eq_getElem h];rfl
theorem VIn.at{xs:List In}(h:VIn xs){j:Nat}(hj:j<xs.length):DY (xs.getD j iz).s (xs.getD j iz).p (xs.getD j iz).z=true:=h _ (by
 rw[List.getD_eq_getElem?_getD,List.getElem?_eq_getElem hj];exact List.getElem_mem hj)
def UL(w:World)(sb m j0:Nat)(ws gs:List Bx)(fp fq fs fz x y:Int)(xs:List In)(vs:List Value)(iv:Value)(W:World):Prop :=
 ∃(j:Nat) (st:St),j<=j0/\iv=.int .i64 j/\st=toS ws gs fp fq fs fz ⟨0,x,y,0,0,0,0,false,false⟩ (xs.take j)/\StB m st/\st.k<=j/\CellsAt W w.heap.size vs/\CellsAt W (w.heap.size+1) (AB 0 0 0 0 0 0 0 false false)/\CellsAt W sb (AB st.k st.ax st.ay st.fx st.fy st.u st.g st.d st.o)/\Below w.heap.size w W
def TB(w:World)(st:St)(e:Ending)(w':World):Prop:=e=.returned (Cd st.k st.ax st.ay st.fx st.fy st.u st.g st.d st.o)/\Below w.heap.size w w'
theorem Qw(i t x y:Int)(A:Option Addr)(n c:Nat)(G:Option Addr)(m kk:Nat)(fp fq fs fz b:Int)(ws gs:List Bx)(Q:Option Addr)(N cc:Nat)(xs:List In)(j0:Nat)(w:World)(I:Boxes w A n ws)(J:Boxes w G m gs)(Y:Inputs w Q N xs)(ok:Dh ws=true)(hn:n<=281474976710656)(hm:m<=281474976710656)(hN:N<=1000)(hj0:j0<=N)(vx:VIn xs)(hx:-1000000<=x/\x<=1000000)(hy:-1000000<=y/\y<=1000000) :
 Calls Tryz.prog 28 #[CX i t x y A n c G m kk fp fq fs fz b,.slice Q N cc,.int .i64 j0] w (TB w (toS ws gs fp fq fs fz ⟨0,x,y,0,0,0,0,false,false⟩ (xs.take j0))):=by
 have hl:=hid Y.1;have gl:=J.1;have I:=hid I;have J:=hid J;have Y:=hid Y;have vx:=hid vx;have ok:=hid ok;have L:CellsAt ((w.alloc (.cells #[.int .i64 i,.int .i64 t,.int .i64 x,.int .i64 y,.slice A n c,.slice G m kk,.int .i64 fp,.int .i64 fq,.int .i64 fs,.int .i64 fz,.int .i64 b] 29)).alloc (.cells #[.int .i64 0,.int .i64 0,.int .i64 0,.int .i64 0,.int .i64 0,.int .i64 0,.int .i64 0,.bool false,.bool false] 34)) w.heap.size (AX i t x y A n c G m kk fp fq fs fz b):=(CellsAt.new w _ _ _ rfl).alloc _
 have D:CellsAt ((w.alloc (.cells #[.int .i64 i,.int .i64 t,.int .i64 x,.int .i64 y,.slice A n c,.slice G m kk,.int .i64 fp,.int .i64 fq,.int .i64 fs,.int .i64 fz,.int .i64 b] 29)).alloc (.cells #[.int .i64 0,.int .i64 0,.int .i64 0,.int .i64 0,.int .i64 0,.int .i64 0,.int .i64 0,.bool false,.bool false] 34)) (w.heap.size+1) (AB 0 0 0 0 0 0 0 false false):=CellsAt.new _ _ _ _ (by simp)
 have H:=hid (Aa (Aa (Ac w) (.cells #[.int .i64 i,.int .i64 t,.int .i64 x,.int .i64 y,.slice A n c,.slice G m kk,.int .i64 fp,.int .i64 fq,.int .i64 fs,.int .i64 fz,.int .i64 b] 29)) (.cells #[.int .i64 0,.int .i64 0,.int .i64 0,.int .i64 0,.int .i64 0,.int .i64 0,.int .i64 0,.bool false,.bool false] 34));go_enter Tryz.func28,Tryz.ntmps28;obtain⟨Lc0,Lc1,Lc2,Lc3,Lc4,Lc5,Lc6,Lc7,Lc8,Lc9,Lc10⟩:=AL L;have Ll:=L.lt;go_wp2_with fail;refine(Jc i t x y A n c G m kk fp fq fs fz b _).mono ?_;rintro e w1 ⟨rfl,B⟩;replace L:=L.step B;replace D:=D.step B;replace H:=hid (Ab H.out B)
 clear B Lc0 Lc1 Lc2 Lc3 Lc4 Lc5 Lc6 Lc7 Lc8 Lc9 Lc10 Ll;go_upto_region 2 with fail;refine AD (fun W'=>CellsAt W' w.heap.size (AX i t x y A n c G m kk fp fq fs fz b)/\CellsAt W' (w.heap.size+1) (AB 0 0 0 0 0 0 0 false false)/\CellsAt W' w1.heap.size (AB 0 x y 0 0 0 0 false false)/\Below w.heap.size w W') ⟨L.alloc _,D.alloc _,CellsAt.new _ _ _ _ rfl,Aa H.out _⟩ ?_;have hsb:w.heap.size+1<w1.heap.size:=D.lt;clear L D H;generalize w1.heap.size=sb at *;rintro w2 ⟨L,D,S,H⟩;go_wp2
 go_loopw [8] (UL w sb m j0 ws gs fp fq fs fz x y xs (AX i t x y A n c G m kk fp fq fs fz b)) (fun i _=>j0-(intOf i).toNat)
 case atStart=>exact⟨0,⟨0,x,y,0,0,0,0,false,false⟩,Nat.zero_le _,rfl,rfl,MO hx hy,Int.le_refl _,L,D,S,H⟩
 case round =>
  clear L D S H;obtain⟨j,st,hj,rfl,est,hB,hk,L,D,S,H⟩:=hrel;by_cases hlt:j<j0
  . obtain⟨bb,off,rfl,hb,hcell⟩:=Y.out.2 (by omega);have Z:=((hcell j (by omega)).lie hb).of (H.block bb hb) H.size;have hjl:j<xs.length:=by have:=hl.out; omega
    have hjN:j<N:=by omega
    have vq:=vx.out.at hjl;have en:=toS_next (ws:=ws) (gs:=gs) (p:=fp) (q:=fq) (r:=fs) (z:=fz) (s:=⟨0,x,y,0,0,0,0,false,false⟩) hjl;rw[<- est] at en;clear hcell hjl;generalize xs.getD j iz=q at *;obtain⟨s,p,z⟩:=q;simp only at Z vq;have sb1:=(E4 vq).1;have ks:=MY (ws:=ws) (gs:=gs) (p:=fp) (q:=fq) (r:=fs) (z:=fz) (x:=⟨s,p,z⟩) hB (by omega) gl sb1.1 sb1.2;obtain⟨sk,sax,say,sfx,sfy,su,sg,sd,so⟩:=st;simp only at hk S;have H:=hid H;have en:=hid en;have ks:=hid ks
    have C:=fun(W:World) (Z:Boxes W A n ws) (Y:Boxes W G m gs)=>HG i t x y A n c G m kk fp fq fs fz b ws gs sk sax say sfx sfy su sg.toNat sd so s p z W Z Y ok.out hn hm (by
     have:=hB.g.1;simp only at this;rw[Int.toNat_of_nonneg this];exact hB) (by omega) sb1.1 sb1.2
    rw[Int.toNat_of_nonneg (show 0<=sg from hB.g.1)] at C;have C:=hid C;clear est hB vq;go_wp2_with fail;refine wp_region_held_drew (S:=fun w'=>CellsAt w' w.heap.size (AX i t x y A n c G m kk fp fq fs fz b)/\(w'.cell? ⟨bb,off+j*3,none⟩=some (.int .i64 s)/\w'.cell? ⟨bb,off+j*3+1,none⟩=some (.int .i64 p)/\w'.cell? ⟨bb,off+j*3+2,none⟩=some (.bool z))) (by kernel_rfl) ⟨L.drew,BI Z.drew⟩ (fun hHeld=>?_);replace L:=L.drew;replace D:=D.drew;replace S:=S.drew;replace Z:=Z.drew;replace H:=hid (AE H.out)
    refine wpAnyH_take (i:=0) (oi:=_) (v:=.agg (AX i t x y A n c G m kk fp fq fs fz b).toArray) rfl (by kernel_rfl) (by kernel_rfl) (by kernel_rfl) (fun _ _ _ h=>h) (yieldsIf_load_mid (by rfl) 29 (.tmp 3) rfl w.heap.size 0 rfl (AX i t x y A n c G m kk fp fq fs fz b) _ (fun W hS=>hS.1.range) Tryz.underlying29 rfl Ad) hHeld ?_
    try simp only[Act.put,sx]
    refine tl 2 ?_ ?_ hHeld ?_;rotate_left
    . intro w hSw
      try dsimp only at hSw
      go_simp
      all_goals with_reducible rfl
    try simp only[Act.put,sx]
    refine tl 3 ?_ ?_ hHeld ?_;rotate_left
    . intro w hSw
      try dsimp only at hSw
      go_simp
      all_goals with_reducible rfl
    try simp only[Act.put,sx]
    refine tl 4 ?_ ?_ hHeld ?_;rotate_left
    . intro w hSw
      try dsimp only at hSw
      go_simp
      all_goals with_reducible rfl
    try simp only[Act.put,sx]
    refine tl 5 ?_ ?_ hHeld ?_;rotate_left
    . intro w hSw;obtain⟨_,d0,d1,d2⟩:=hSw;go_simp
      all_goals with_reducible rfl
    try simp only[Act.put,sx]
    refine rd 1 fun K hK=>?_;refine wp_load_mid 34 (.tmp 7) rfl sb 0 rfl (AB sk sax say sfx sfy su sg sd so) _ S.range Tryz.underlying34 rfl Ae ?_;clear hHeld;refine hK.out _ _ ⟨L,BI Z⟩ (fun hHeld=>?_);clear hK K
    try simp only[Act.put,sx]
    refine rd 6 fun K hK=>?_;refine Ax ⟨_,Tryz.func43,by kernel_rfl,by rfl⟩ _ _ rfl #[CX i t x y A n c G m kk fp fq fs fz b,Cd sk sax say sfx sfy su sg sd so,DZ s p z] (by simp only[List.map_toArray,List.map_cons,List.map_nil]; rfl) (C.out _ (I.out.step H.out) (J.out.step H.out)) ?_;rintro e w5 ⟨⟨nk,nx,ny,nf,ng,nu,nv,nd,no,eM,rfl⟩,B⟩;refine⟨_,rfl,?_⟩;replace L:=L.step B;replace D:=D.step B;replace S:=S.step B;replace Z:=Z.step B;replace H:=hid (Ab H.out B);replace en:=hid (en.out.trans eM);replace ks:=hid (show StB m ⟨nk,nx,ny,nf,ng,nu,nv,nd,no⟩/\nk<=sk+1 from by have:=ks.out; rw[eM] at this; exact this);clear B hHeld eM
    refine hK.out _ _ ⟨L,BI Z⟩ (fun hHeld=>?_);clear hK K
    try simp only[Act.put,sx]
    refine rd 7 fun K hK=>?_;refine Au 34 (.tmp 7) (.tmp 22) rfl sb rfl (AB nk nx ny nf ng nu nv nd no) rfl _ S (by simp) Ae rfl ?_;intro w6 K N6;have nz:bb≠sb:=by have:=hsb; have hb2:=hb; omega
    replace L:=L.kept K (by omega);replace D:=D.kept K (by omega);replace S:=N6;replace Z:=Z.of (K.block bb Z.lt nz) K.size;replace H:=hid (Ao H.out K (by omega));clear K N6 hHeld;refine hK.out _ _ ⟨L,BI Z⟩ (fun hHeld=>?_);clear hK K
    try simp only[Act.put,List.getElem_toArray,List.getElem_cons_succ,List.getElem_cons_zero]
    refine wpAnyH_done (by kernel_rfl) ?_ _;have kk2:=ks.out.2;go_wp2
    go_roundw
    case rel=>exact⟨j+1,⟨nk,nx,ny,nf,ng,nu,nv,nd,no⟩,by omega,by go_num,en.out.symm,ks.out.1,(show nk<=((j+1:Nat):Int) by omega),L,D,S,H.out⟩
    case measure=>simp[intOf]; omega
  . obtain rfl:j=j0:=by omega
    clear hB;obtain⟨sk,sax,say,sfx,sfy,su,sg,sd,so⟩:=st;simp only at hk S;replace est:=hid est;go_upto_region 6 with fail;refine wp_region_lit ?_;refine Af rfl 34 (.tmp 7) rfl sb rfl (AB sk sax say sfx sfy su sg sd so) S Tryz.underlying34 rfl Ae ?_;refine Ai rfl 34 (.tmp 6) (.tmp 23) rfl (w.heap.size+1) rfl (AB sk sax say sfx sfy su sg sd so) rfl _ D (by simp) Ae rfl ?_;intro w5 K N5;go_wp2;exact bodyPost_ret (v:=Cd sk sax say sfx sfy su sg sd so) (An rfl (w.heap.size+1) rfl (AB sk sax say sfx sfy su sg sd so) N5 Tryz.underlying34 rfl Ae) rfl ⟨by rw[<- est.out],Ao H K (by omega)⟩
open Go.RowKit
open M
def NB(w:World)(e:Ending)(w':World):Prop :=
 ∃(i t x y:Int) (A:Option Addr) (n c:Nat) (G:Option Addr) (m kk:Nat) (fp fq fs fz b:Int) (ws gs:List Bx) (D:Option Addr) (N cc:Nat) (xs:List In),e=.returned (.tuple #[CX i t x y A n c G m kk fp fq fs fz b,.slice D N cc])/\((n=0->Cel w' A)/\(m=0->Cel w' G)/\Cel w' D)/\(n<=20/\n<=c)/\(m<=20/\m<=kk)/\(N<=63/\N<=cc)/\Boxes w' A n ws/\Boxes w' G m gs/\Inputs w' D N xs/\(Dw w.heap.size A/\Dw w.heap.size G/\Dw w.heap.size D)/\Below w.heap.size w w'
theorem LD(a:Option Addr)(len cap:Nat)(zs:List Int)(w:World)(h:IsRow .u8 w a len cap zs):Calls Tryz.prog 30 #[.slice a len cap] w (NB w):=by
 have h1:=h.below (w':=w.alloc (.cells #[.int .i64 0,.int .i64 0,.int .i64 0,.int .i64 0,.slice none 0 0,.slice none 0 0,.int .i64 0,.int .i64 0,.int .i64 0,.int .i64 0,.int .i64 0] 29)) (Aa (Ac w) _);have D:CellsAt (w.alloc (.cells #[.int .i64 0,.int .i64 0,.int .i64 0,.int .i64 0,.slice none 0 0,.slice none 0 0,.int .i64 0,.int .i64 0,.int .i64 0,.int .i64 0,.int .i64 0] 29)) w.heap.size (AX 0 0 0 0 none 0 0 none 0 0 0 0 0 0 0):=CellsAt.new w _ _ _ rfl;have H:=hid (Aa (Ac w) (.cells #[.int .i64 0,.int .i64 0,.int .i64 0,.int .i64 0,.slice none 0 0,.slice none 0 0,.int .i64 0,.int .i64 0,.int .i64 0,.int .i64 0,.int .i64 0] 29))
 go_enter Tryz.func30,Tryz.ntmps30;go_wp2_with fail;refine(KS a len cap zs (w.alloc (.cells #[.int .i64 0,.int .i64 0,.int .i64 0,.int .i64 0,.slice none 0 0,.slice none 0 0,.int .i64 0,.int .i64 0,.int .i64 0,.int .i64 0,.int .i64 0] 29)) h1).mono ?_;rintro e w1 ⟨rfl,R1,B⟩;simp at R1;have z1:=R1.base;replace D:=D.step B;replace H:=hid (Ab H.out B);clear B h1 h;go_wp2_with fail;refine(FH _ 0 _ R1 (by omega)).mono ?_;rintro e w2 ⟨i',t',x',y',A',n',c',G',m',kk',p',q',s',z',b',ws',gs',⟨CA,CG⟩,rfl,hn',hm',HL',I2,J2,MA',MG',R2,K⟩;have z2:=K.size
 replace D:=(D.kept K (by omega)).alloc (.cells #[.int .i64 i',.int .i64 t',.int .i64 x',.int .i64 y',.slice A' n' c',.slice G' m' kk',.int .i64 p',.int .i64 q',.int .i64 s',.int .i64 z',.int .i64 b'] 29);replace H:=hid (Aa (Ao H.out K (by omega)) (.cells #[.int .i64 i',.int .i64 t',.int .i64 x',.int .i64 y',.slice A' n' c',.slice G' m' kk',.int .i64 p',.int .i64 q',.int .i64 s',.int .i64 z',.int .i64 b'] 29))
 have L:CellsAt (w2.alloc (.cells #[.int .i64 i',.int .i64 t',.int .i64 x',.int .i64 y',.slice A' n' c',.slice G' m' kk',.int .i64 p',.int .i64 q',.int .i64 s',.int .i64 z',.int .i64 b'] 29)) w2.heap.size (AX i' t' x' y' A' n' c' G' m' kk' p' q' s' z' b'):=CellsAt.new _ _ _ _ rfl;replace I2:=I2.alloc (.cells #[.int .i64 i',.int .i64 t',.int .i64 x',.int .i64 y',.slice A' n' c',.slice G' m' kk',.int .i64 p',.int .i64 q',.int .i64 s',.int .i64 z',.int .i64 b'] 29);replace J2:=J2.alloc (.cells #[.int .i64 i',.int .i64 t',.int .i64 x',.int .i64 y',.slice A' n' c',.slice G' m' kk',.int .i64 p',.int .i64 q',.int .i64 s',.int .i64 z',.int .i64 b'] 29)
 replace R2:=R2.alloc (.cells #[.int .i64 i',.int .i64 t',.int .i64 x',.int .i64 y',.slice A' n' c',.slice G' m' kk',.int .i64 p',.int .i64 q',.int .i64 s',.int .i64 z',.int .i64 b'] 29);have MA2:Dw _ A':=fun g off e=>by have:=MA' g off e; exact Nat.le_trans z1 this
 have MG2:Dw _ G':=fun g off e=>by have:=MG' g off e; exact Nat.le_trans z1 this
 replace CA:Cel _ A':=CA.of fun a ha=>(Aa (Ac w2) (.cells #[.int .i64 i',.int .i64 t',.int .i64 x',.int .i64 y',.slice A' n' c',.slice G' m' kk',.int .i64 p',.int .i64 q',.int .i64 s',.int .i64 z',.int .i64 b'] 29)).block _ (CA.lt ha);replace CG:Cel _ G':=CG.of fun a ha=>(Aa (Ac w2) (.cells #[.int .i64 i',.int .i64 t',.int .i64 x',.int .i64 y',.slice A' n' c',.slice G' m' kk',.int .i64 p',.int .i64 q',.int .i64 s',.int .i64 z',.int .i64 b'] 29)).block _ (CG.lt ha);clear R1 K MA' MG';obtain⟨Lc0,Lc1,Lc2,Lc3,Lc4,Lc5,Lc6,Lc7,Lc8,Lc9,Lc10⟩:=AL L;have Ll:=L.lt;go_wp2_with fail
 refine(HE _ _ i' t' x' y' A' n' c' G' m' kk' p' q' s' z' b' ws' gs' _ R2 (by omega) (by omega) I2 J2 MA2 MG2 HL'.1.ok hn'.1 hm'.1 HL'.2).mono ?_;rintro e w3 ⟨E,N,cc,xs,CE,rfl,hN,Y,ME,R3,K⟩;have z3:=K.size;simp at z3;clear Lc0 Lc1 Lc2 Lc3 Lc4 Lc5 Lc6 Lc7 Lc8 Lc9 Lc10 Ll;replace D:=D.kept K (by omega);replace L:=L.kept K (by omega);replace H:=hid (Ao H.out K (by omega));replace I2:=I2.kept K (fun _ g off e=>by have:=MA2 g off e; omega);replace J2:=J2.kept K (fun _ g off e=>by have:=MG2 g off e; omega);replace CA:=CA.kept K (fun g off e=>by have:=MA2 g off e; omega);replace CG:=CG.kept K (fun g off e=>by have:=MG2 g off e; omega)
 clear R2 K;obtain⟨Lc0,Lc1,Lc2,Lc3,Lc4,Lc5,Lc6,Lc7,Lc8,Lc9,Lc10⟩:=AL L;have Ll:=L.lt;go_wp2_with fail;refine(GT _ _ i' t' x' y' A' n' c' G' m' kk' p' q' s' z' b' ws' gs' _ R3 (by omega) (by omega) I2 J2 MA2 MG2 hn' hm' HL'.1.lows).mono ?_;rintro e w4 ⟨i,t,x,y,A,n,c,G,m,kk,fp,fq,fs,fz,b,ws,gs,⟨ZA,ZG⟩,rfl,hn,hm,HL,I,J,MA,MG,R4,K⟩;have z4:=K.size;clear Lc0 Lc1 Lc2 Lc3 Lc4 Lc5 Lc6 Lc7 Lc8 Lc9 Lc10 Ll hn' hm' HL' I2 J2 L R3;replace D:=D.kept K (by omega);replace H:=hid (Ao H.out K (by omega));replace Y:=hid (Y.kept K (fun _ g off e=>by have:=ME g off e; simp at this; omega))
 replace CA:=CA.kept K (fun g off e=>by have:=MA2 g off e; omega);replace CG:=CG.kept K (fun g off e=>by have:=MG2 g off e; omega);replace CE:=CE.kept K (fun g off e=>by have:=ME g off e; simp at this; omega);replace I:=hid I;replace J:=hid J;clear K HL;clear R4;go_wp2_with (refine Ai rfl 29 (.tmp 2) (.tmp 16) rfl w.heap.size rfl (AX i t x y A n c G m kk fp fq fs fz b) rfl _ D (by simp) Ad rfl ?_);intro w8 K N8;have Y8:=hid (Y.out.kept K (fun _ g off e=>by have:=ME g off e; simp at this; omega));have I8:=hid (I.out.kept K (fun _ g off e=>by have:=MA g off e; omega));have J8:=hid (J.out.kept K (fun _ g off e=>by have:=MG g off e; omega))
 have H8:=hid (Ao H.out K (by omega));replace CA:=CA.kept K (fun g off e=>by have:=MA2 g off e; omega);replace CG:=CG.kept K (fun g off e=>by have:=MG2 g off e; omega);replace CE:=CE.kept K (fun g off e=>by have:=ME g off e; simp at this; omega);clear K Y I J H D;go_wp2
 exact bodyPost_ret (v:=.tuple #[CX i t x y A n c G m kk fp fq fs fz b,.slice E N cc]) (AY rfl w.heap.size rfl (AX i t x y A n c G m kk fp fq fs fz b) N8 (.slice E N cc) rfl Tryz.underlying29 rfl Ad) rfl ⟨i,t,x,y,A,n,c,G,m,kk,fp,fq,fs,fz,b,ws,gs,E,N,cc,xs,rfl,⟨fun h=>ZA h▸CA,fun h=>ZG h▸CG,CE⟩,hn,hm,hN,I8.out,J8.out,Y8.out,⟨fun g off e=>by have:=MA g off e; omega,fun g off e=>by have:=MG g off e; omega,fun g off e=>by have:=ME g off e; simp at this; omega⟩,H8.out⟩
theorem Ej(a:Option Addr)(len cap:Nat)(zs:List Int)(w:World)(h:IsRow .u8 w a len cap zs):Calls Tryz.prog 14 #[.slice a len cap] w (NB w):=by
 have D:CellsAt (w.alloc (.cells #[.int .i64 0,.int .i64 0,.int .i64 0,.int .i64 0,.slice none 0 0,.slice none 0 0,.int .i64 0,.int .i64 0,.int .i64 0,.int .i64 0,.int .i64 0] 29)) w.heap.size (AX 0 0 0 0 none 0 0 none 0 0 0 0 0 0 0):=CellsAt.new w _ _ _ rfl;have C:=hid (LD a len cap zs (w.alloc (.cells #[.int .i64 0,.int .i64 0,.int .i64 0,.int .i64 0,.slice none 0 0,.slice none 0 0,.int .i64 0,.int .i64 0,.int .i64 0,.int .i64 0,.int .i64 0] 29)) (h.below (Aa (Ac w) _)))
 have H:=hid (Aa (Ac w) (.cells #[.int .i64 0,.int .i64 0,.int .i64 0,.int .i64 0,.slice none 0 0,.slice none 0 0,.int .i64 0,.int .i64 0,.int .i64 0,.int .i64 0,.int .i64 0] 29));go_enter Tryz.func14,Tryz.ntmps14;go_wp2_with fail;refine C.out.mono ?_;rintro e w1 ⟨i,t,x,y,A,n,c,G,m,kk,fp,fq,fs,fz,b,ws,gs,E,N,cc,xs,rfl,⟨CA,CG,CE⟩,hn,hm,hN,I,J,Y,⟨MA,MG,MD⟩,B⟩;replace H:=hid (Ab H.out B);have D1:=D.step B;dsimp only;go_wp2_with (refine Ai rfl 29 (.tmp 2) (.tmp 6) rfl w.heap.size rfl (AX i t x y A n c G m kk fp fq fs fz b) rfl _ D1 (by simp) Ad rfl ?_);intro w8 K N8
 have qA:∀ g off,A=some ⟨g,off,none⟩->g≠w.heap.size:=fun g off e=>by have:=MA g off e; simp at this; omega
 have qG:∀ g off,G=some ⟨g,off,none⟩->g≠w.heap.size:=fun g off e=>by have:=MG g off e; simp at this; omega
 have qD:∀ g off,E=some ⟨g,off,none⟩->g≠w.heap.size:=fun g off e=>by have:=MD g off e; simp at this; omega
 have Y8:=hid (Y.kept K (fun _ g off e=>qD g off e));have I8:=hid (I.kept K (fun _ g off e=>qA g off e));have J8:=hid (J.kept K (fun _ g off e=>qG g off e));have H8:=hid (Ao H.out K (Nat.le_refl _));have C1:n=0->Cel w8 A:=fun h=>(CA h).kept K qA;have C2:m=0->Cel w8 G:=fun h=>(CG h).kept K qG;replace CE:=CE.kept K qD;clear K Y I J H D D1 C;go_wp2
 exact bodyPost_ret (v:=.tuple #[CX i t x y A n c G m kk fp fq fs fz b,.slice E N cc]) (AY rfl w.heap.size rfl (AX i t x y A n c G m kk fp fq fs fz b) N8 (.slice E N cc) rfl Tryz.underlying29 rfl Ad) rfl ⟨i,t,x,y,A,n,c,G,m,kk,fp,fq,fs,fz,b,ws,gs,E,N,cc,xs,rfl,⟨C1,C2,CE⟩,hn,hm,hN,I8.out,J8.out,Y8.out,⟨fun g off e=>by have:=MA g off e; simp at this; omega,fun g off e=>by have:=MG g off e; simp at this; omega,fun g off e=>by have:=MD g off e; simp at this; omega⟩,H8.out⟩
end Go.Proofs.YtaemcekcancpdaaGreatDoor
