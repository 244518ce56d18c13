import Derived.Test.YtgbiagonfbnooaaDoorZDrawRun
set_option linter.all false
set_option maxRecDepth 100000
set_option maxHeartbeats 8000000
open Go.Lib
namespace Go.Proofs.YtgbiagonfbnooaaDoor
open Go.RowKit
open M
def M.toS(ws gs:List Bx)(p q r z:Int)(s:St)(xs:List In):St:=xs.foldl (C7 ws gs p q r z) s
theorem M.toS_next{ws gs:List Bx}{p q r z:Int}{s:St}{xs:List In}{j:Nat}(h:j<xs.length):toS ws gs p q r z s (xs.take (j+1))=C7 ws gs p q r z (toS ws gs p q r z s (xs.take j)) (xs.getD j iz):=by
 unfold toS;rw[List.take_succ_eq_append_getElem h,List.foldl_append,List.getD_eq_getElem?_getD,List.getElem?_eq_getElem h];rfl
theorem VIn.at{xs:List In}(h:VIn xs){j:Nat}(hj:j<xs.length):A5 (xs.getD j iz).s (xs.getD j iz).p (xs.getD j iz).z=true:=h _ (by
 rw[List.getD_eq_getElem?_getD,List.getElem?_eq_getElem hj];exact List.getElem_mem hj)
def LN(w:World)(sb m j0:Nat)(ws gs:List Bx)(fp fq fs fz x y:Int)(xs:List In)(vs:List Value)(iv:Value)(W:World):Prop :=
 ∃(j:Nat) (st:St),j<=j0/\iv=.int .i64 j/\st=toS ws gs fp fq fs fz ⟨0,x,y,0,0,0,0,false,false⟩ (xs.take j)/\StB m st/\st.k<=j/\CellsAt W w.heap.size vs/\CellsAt W (w.heap.size+1) (AC 0 0 0 0 0 0 0 false false)/\CellsAt W sb (AC st.k st.ax st.ay st.fx st.fy st.u st.g st.d st.o)/\Below w.heap.size w W
def Lr(w:World)(st:St)(e:Ending)(w':World):Prop:=e=.returned (CO st.k st.ax st.ay st.fx st.fy st.u st.g st.d st.o)/\Below w.heap.size w w'
theorem Jt(i t x y:Int)(A:Option Addr)(n c:Nat)(G:Option Addr)(m kk:Nat)(fp fq fs fz b:Int)(ws gs:List Bx)(Q:Option Addr)(N cc:Nat)(xs:List In)(j0:Nat)(w:World)(I:Boxes w A n ws)(J:Boxes w G m gs)(Y:Inputs w Q N xs)(ok:Cs ws=true)(hn:n<=281474976710656)(hm:m<=281474976710656)(hN:N<=1000)(hj0:j0<=N)(vx:VIn xs)(hx:-1000000<=x/\x<=1000000)(hy:-1000000<=y/\y<=1000000) :
 Calls Tryd.prog 114 #[Eu i t x y A n c G m kk fp fq fs fz b,.slice Q N cc,.int .i64 j0] w (Lr w (toS ws gs fp fq fs fz ⟨0,x,y,0,0,0,0,false,false⟩ (xs.take j0))):=by
 have hl:=hid Y.1;have gl:=J.1;have I:=hid I;have J:=hid J;have Y:=hid Y;have vx:=hid vx;have ok:=hid ok;have L:CellsAt ((w.alloc (.cells #[.int .i64 i,.int .i64 t,.int .i64 x,.int .i64 y,.slice A n c,.slice G m kk,.int .i64 fp,.int .i64 fq,.int .i64 fs,.int .i64 fz,.int .i64 b] 72)).alloc (.cells #[.int .i64 0,.int .i64 0,.int .i64 0,.int .i64 0,.int .i64 0,.int .i64 0,.int .i64 0,.bool false,.bool false] 145)) w.heap.size (AR i t x y A n c G m kk fp fq fs fz b):=(CellsAt.new w _ _ _ rfl).alloc _
 have D:CellsAt ((w.alloc (.cells #[.int .i64 i,.int .i64 t,.int .i64 x,.int .i64 y,.slice A n c,.slice G m kk,.int .i64 fp,.int .i64 fq,.int .i64 fs,.int .i64 fz,.int .i64 b] 72)).alloc (.cells #[.int .i64 0,.int .i64 0,.int .i64 0,.int .i64 0,.int .i64 0,.int .i64 0,.int .i64 0,.bool false,.bool false] 145)) (w.heap.size+1) (AC 0 0 0 0 0 0 0 false false):=CellsAt.new _ _ _ _ (by simp)
 have H:=hid (Ab (Ab (Ac w) (.cells #[.int .i64 i,.int .i64 t,.int .i64 x,.int .i64 y,.slice A n c,.slice G m kk,.int .i64 fp,.int .i64 fq,.int .i64 fs,.int .i64 fz,.int .i64 b] 72)) (.cells #[.int .i64 0,.int .i64 0,.int .i64 0,.int .i64 0,.int .i64 0,.int .i64 0,.int .i64 0,.bool false,.bool false] 145));go_enter Tryd.func114,Tryd.ntmps114;obtain⟨Lc0,Lc1,Lc2,Lc3,Lc4,Lc5,Lc6,Lc7,Lc8,Lc9,Lc10⟩:=AV L;have Ll:=L.lt;go_wp2_with fail;refine(Ep i t x y A n c G m kk fp fq fs fz b _).mono ?_;rintro e w1 ⟨rfl,B⟩;replace L:=L.step B;replace D:=D.step B;replace H:=hid (Aa H.out B)
 clear B Lc0 Lc1 Lc2 Lc3 Lc4 Lc5 Lc6 Lc7 Lc8 Lc9 Lc10 Ll;go_upto_region 2 with fail;refine Au (fun W'=>CellsAt W' w.heap.size (AR i t x y A n c G m kk fp fq fs fz b)/\CellsAt W' (w.heap.size+1) (AC 0 0 0 0 0 0 0 false false)/\CellsAt W' w1.heap.size (AC 0 x y 0 0 0 0 false false)/\Below w.heap.size w W') ⟨L.alloc _,D.alloc _,CellsAt.new _ _ _ _ rfl,Ab H.out _⟩ ?_;have hsb:w.heap.size+1<w1.heap.size:=D.lt;clear L D H;generalize w1.heap.size=sb at *;rintro w2 ⟨L,D,S,H⟩;go_wp2
 go_loopw [8] (LN w sb m j0 ws gs fp fq fs fz x y xs (AR i t x y A n c G m kk fp fq fs fz b)) (fun i _=>j0-(intOf i).toNat)
 case atStart=>exact⟨0,⟨0,x,y,0,0,0,0,false,false⟩,Nat.zero_le _,rfl,rfl,Gw hx hy,Int.le_refl _,L,D,S,H⟩
 case round =>
  clear L D S H;obtain⟨j,st,hj,rfl,est,hB,hk,L,D,S,H⟩:=hrel;by_cases hlt:j<j0
  . obtain⟨bb,off,rfl,hb,hcell⟩:=Y.out.2 (by omega);have Z:=((hcell j (by omega)).lie hb).of (H.block bb hb) H.size;have hjl:j<xs.length:=by have:=hl.out; omega
    have hjN:j<N:=by omega
    have vq:=vx.out.at hjl;have en:=toS_next (ws:=ws) (gs:=gs) (p:=fp) (q:=fq) (r:=fs) (z:=fz) (s:=⟨0,x,y,0,0,0,0,false,false⟩) hjl;rw[<- est] at en;clear hcell hjl;generalize xs.getD j iz=q at *;obtain⟨s,p,z⟩:=q;simp only at Z vq;have sb1:=(Cy vq).1;have ks:=Gz (ws:=ws) (gs:=gs) (p:=fp) (q:=fq) (r:=fs) (z:=fz) (x:=⟨s,p,z⟩) hB (by omega) gl sb1.1 sb1.2;obtain⟨sk,sax,say,sfx,sfy,su,sg,sd,so⟩:=st;simp only at hk S;have H:=hid H;have en:=hid en;have ks:=hid ks
    have C:=fun(W:World) (Z:Boxes W A n ws) (Y:Boxes W G m gs)=>Dv i t x y A n c G m kk fp fq fs fz b ws gs sk sax say sfx sfy su sg.toNat sd so s p z W Z Y ok.out hn hm (by
     have:=hB.g.1;simp only at this;rw[Int.toNat_of_nonneg this];exact hB) (by omega) sb1.1 sb1.2
    rw[Int.toNat_of_nonneg (show 0<=sg from hB.g.1)] at C;have C:=hid C;clear est hB vq;go_wp2_with fail;refine wp_region_held_drew (S:=fun w'=>CellsAt w' w.heap.size (AR i t x y A n c G m kk fp fq fs fz b)/\(w'.cell? ⟨bb,off+j*3,none⟩=some (.int .i64 s)/\w'.cell? ⟨bb,off+j*3+1,none⟩=some (.int .i64 p)/\w'.cell? ⟨bb,off+j*3+2,none⟩=some (.bool z))) (by kernel_rfl) ⟨L.drew,AE Z.drew⟩ (fun hHeld=>?_);replace L:=L.drew;replace D:=D.drew;replace S:=S.drew;replace Z:=Z.drew;replace H:=hid (Aw H.out)
    refine wpAnyH_take (i:=0) (oi:=_) (v:=.agg (AR i t x y A n c G m kk fp fq fs fz b).toArray) rfl (by kernel_rfl) (by kernel_rfl) (by kernel_rfl) (fun _ _ _ h=>h) (yieldsIf_load_mid (by rfl) 72 (.tmp 3) rfl w.heap.size 0 rfl (AR i t x y A n c G m kk fp fq fs fz b) _ (fun W hS=>hS.1.range) Tryd.underlying72 rfl Al) hHeld ?_
    try simp only[Act.put,sx]
    refine tl 2 ?_ ?_ hHeld ?_;rotate_left
    . intro w hSw
      try dsimp only at hSw
      go_simp
      all_goals with_reducible rfl
    try simp only[Act.put,sx]
    refine tl 3 ?_ ?_ hHeld ?_;rotate_left
    . intro w hSw
      try dsimp only at hSw
      go_simp
      all_goals with_reducible rfl
    try simp only[Act.put,sx]
    refine tl 4 ?_ ?_ hHeld ?_;rotate_left
    . intro w hSw
      try dsimp only at hSw
      go_simp
      all_goals with_reducible rfl
    try simp only[Act.put,sx]
    refine tl 5 ?_ ?_ hHeld ?_;rotate_left
    . intro w hSw;obtain⟨_,d0,d1,d2⟩:=hSw;go_simp
      all_goals with_reducible rfl
    try simp only[Act.put,sx]
    refine rd 1 fun K hK=>?_;refine wp_load_mid 145 (.tmp 7) rfl sb 0 rfl (AC sk sax say sfx sfy su sg sd so) _ S.range Tryd.underlying145 rfl Ad ?_;clear hHeld;refine hK.out _ _ ⟨L,AE Z⟩ (fun hHeld=>?_);clear hK K
    try simp only[Act.put,sx]
    refine rd 6 fun K hK=>?_;refine F7 ⟨_,Tryd.func99,by kernel_rfl,by rfl⟩ _ _ rfl #[Eu i t x y A n c G m kk fp fq fs fz b,CO sk sax say sfx sfy su sg sd so,Bw s p z] (by simp only[List.map_toArray,List.map_cons,List.map_nil]; rfl) (C.out _ (I.out.step H.out) (J.out.step H.out)) ?_;rintro e w5 ⟨⟨nk,nx,ny,nf,ng,nu,nv,nd,no,eM,rfl⟩,B⟩;refine⟨_,rfl,?_⟩;replace L:=L.step B;replace D:=D.step B;replace S:=S.step B;replace Z:=Z.step B;replace H:=hid (Aa H.out B);replace en:=hid (en.out.trans eM);replace ks:=hid (show StB m ⟨nk,nx,ny,nf,ng,nu,nv,nd,no⟩/\nk<=sk+1 from by have:=ks.out; rw[eM] at this; exact this);clear B hHeld eM
    refine hK.out _ _ ⟨L,AE Z⟩ (fun hHeld=>?_);clear hK K
    try simp only[Act.put,sx]
    refine rd 7 fun K hK=>?_;refine Aq 145 (.tmp 7) (.tmp 22) rfl sb rfl (AC nk nx ny nf ng nu nv nd no) rfl _ S (by simp) Ad rfl ?_;intro w6 K N6;have nz:bb≠sb:=by have:=hsb; have hb2:=hb; omega
    replace L:=L.kept K (by omega);replace D:=D.kept K (by omega);replace S:=N6;replace Z:=Z.of (K.block bb Z.lt nz) K.size;replace H:=hid (As H.out K (by omega));clear K N6 hHeld;refine hK.out _ _ ⟨L,AE Z⟩ (fun hHeld=>?_);clear hK K
    try simp only[Act.put,List.getElem_toArray,List.getElem_cons_succ,List.getElem_cons_zero]
    refine wpAnyH_done (by kernel_rfl) ?_ _;have kk2:=ks.out.2;go_wp2
    go_roundw
    case rel=>exact⟨j+1,⟨nk,nx,ny,nf,ng,nu,nv,nd,no⟩,by omega,by go_num,en.out.symm,ks.out.1,(show nk<=((j+1:Nat):Int) by omega),L,D,S,H.out⟩
    case measure=>simp[intOf]; omega
  . obtain rfl:j=j0:=by omega
    clear hB;obtain⟨sk,sax,say,sfx,sfy,su,sg,sd,so⟩:=st;simp only at hk S;replace est:=hid est;go_upto_region 6 with fail;refine wp_region_lit ?_;refine Af rfl 145 (.tmp 7) rfl sb rfl (AC sk sax say sfx sfy su sg sd so) S Tryd.underlying145 rfl Ad ?_;refine Ah rfl 145 (.tmp 6) (.tmp 23) rfl (w.heap.size+1) rfl (AC sk sax say sfx sfy su sg sd so) rfl _ D (by simp) Ad rfl ?_;intro w5 K N5;go_wp2;exact bodyPost_ret (v:=CO sk sax say sfx sfy su sg sd so) (Ag rfl (w.heap.size+1) rfl (AC sk sax say sfx sfy su sg sd so) N5 Tryd.underlying145 rfl Ad) rfl ⟨by rw[<- est.out],As H K (by omega)⟩
end Go.Proofs.YtgbiagonfbnooaaDoor
