import Derived.Test.YtaemcekcancpdaaGreatDoorZEngD
import Derived.Test.YtaemcekcancpdaaGreatDoorZLevImpl
import Derived.Test.YtaemcekcancpdaaGreatDoorZ0
set_option linter.all false
set_option maxRecDepth 100000
set_option maxHeartbeats 8000000
open Go.Lib
namespace Go.Proofs.YtaemcekcancpdaaGreatDoor
open Go.RowKit
open M
structure MvW(w W:World)(vs us:List Value):Prop where
 S:CellsAt W w.heap.size vs
 D:CellsAt W (w.heap.size+1) us
 H:Below w.heap.size w W
theorem MvW.step{w W W':World}{vs us:List Value}(h:MvW w W vs us)(B:Below W.heap.size W W'):MvW w W' vs us:=⟨h.S.step B,h.D.step B,Ab h.H B⟩
theorem MvW.kept{w W W':World}{vs us:List Value}(h:MvW w W vs us){r:Nat}(K:Kept r W W')(hr:w.heap.size+1<r):MvW w W' vs us:=⟨h.S.kept K (by omega),h.D.kept K (by omega),Ao h.H K (by omega)⟩
theorem MvW.far{w W:World}{vs us:List Value}(h:MvW w W vs us){r:Nat}(hr:w.heap.size+1<r)(o:Nat)(v:Value):MvW w (W.setCell ⟨r,o,none⟩ v) vs us:=h.kept (OZ (Kept.refl r W) o v) hr
theorem MvW.drew{w W:World}{vs us:List Value}(h:MvW w W vs us):MvW w W.drew vs us:=⟨h.S.drew,h.D.drew,AE h.H⟩
theorem Bf{w:World}{o:Oper}{a:Act}{K:Act->World->Prop}{Q:Exit->Act->World->Prop}(ho:o.op=.alloc 80)
 (h:∀(g:Nat) (w':World),Below w.heap.size w w'->w.heap.size<=g->CellsAt w' g [.int .i64 0,.int .i64 0]->K (a.put o.dst (.pointer (some ⟨g,0,none⟩))) w'):o.wp Tryz.prog a w K Q:=by
 have e:(execOp a.eval o).run Tryz.prog w=.ok (.value (.pointer (some ⟨w.heap.size,0,none⟩))) (w.alloc (.cells #[.int .i64 0,.int .i64 0] 80)):=by
  unfold execOp;simp only[ho];go_simp
 unfold Oper.wp;rw[e,Oper.upon_value];exact h _ _ (Aa (Ac w) _) (Nat.le_refl _) (CellsAt.new _ _ _ _ rfl)
theorem AU:(Tryz.prog.info? 80).map (·.size)=some 2:=by kernel_rfl
theorem M.mvS_any{ws:List Bx}{ax ay fx fy X Y P Q:Int}(e:Gp ws ⟨0,ax,ay,fx,fy,0,0,false,false⟩=⟨0,X,Y,P,Q,0,0,false,false⟩)(k u g:Int)(d o:Bool):Gp ws ⟨k,ax,ay,fx,fy,u,g,d,o⟩=⟨k,X,Y,P,Q,u,g,d,o⟩:=by
 unfold Gp at e ⊢;simp only[St.mk.injEq,true_and,and_true] at e ⊢;exact e
theorem M.mvA_bd{b:Bool}{a f X:Int}(e:IZ b a f=X)(a1:-1000000<=a)(a2:a<=1000000)(x1:-2000<=f)(x2:f<=2000):-1002000<=X/\X<=1002000:=by
 subst e;cases b
 . show -1002000<=a/\a<=1002000
   omega
 . show -1002000<=a+f/\a+f<=1002000
   omega
def SU(w:World)(ws:List Bx)(vs us:List Value)(a f:Nat)(ax ay fx fy:Int)(i:Value)(W:World):Prop :=
 ∃ X Y P Q:Int,MvW w W vs us/\CellsAt W a [.int .i64 X,.int .i64 Y]/\CellsAt W f [.int .i64 P,.int .i64 Q] /\
  ((i=.int .i64 0/\ax=X/\ay=Y/\fx=P/\fy=Q)\/(i=.int .i64 1/\IZ (Cw ws (ax+fx) ay) ax fx=X/\ay=Y/\MX (Cw ws (ax+fx) ay) fx=P/\fy=Q) \/
   (i=.int .i64 2/\Gp ws ⟨0,ax,ay,fx,fy,0,0,false,false⟩=⟨0,X,Y,P,Q,0,0,false,false⟩))
def SV(w:World)(vs us:List Value)(ax ay fx fy:Int)(p q:Value)(W:World):Prop :=
 ∃ a f:Nat,p=.pointer (some ⟨a,0,none⟩)/\q=.pointer (some ⟨f,0,none⟩)/\MvW w W vs us/\CellsAt W a [.int .i64 ax,.int .i64 ay]/\CellsAt W f [.int .i64 fx,.int .i64 fy]/\w.heap.size+1<a/\w.heap.size+1<f/\a≠f
theorem Db(ws:List Bx)(pp:Option Addr)(lo:Nat)(k ax ay fx fy u g:Int)(d o:Bool)(w:World)(C:Chain w lo ws (.pointer pp))(ok:Dh ws=true)(a1:-1000000<=ax)(a2:ax<=1000000)(a3:-1000000<=ay)(a4:ay<=1000000)(x1:-2000<=fx)(x2:fx<=2000)(y1:-2000<=fy)(y2:fy<=2000) :
 Calls Tryz.prog 86 #[Cd k ax ay fx fy u g d o,.pointer pp] w fun e w'=>(∃ X Y P Q,Gp ws ⟨k,ax,ay,fx,fy,u,g,d,o⟩=⟨k,X,Y,P,Q,u,g,d,o⟩/\e=.returned (Cd k X Y P Q u g d o))/\Below w.heap.size w w':=by
 have C:=hid C;have ok:=hid ok
 have M0:MvW w ((w.alloc (.cells #[.int .i64 k,.int .i64 ax,.int .i64 ay,.int .i64 fx,.int .i64 fy,.int .i64 u,.int .i64 g,.bool d,.bool o] 34)).alloc (.cells #[.int .i64 0,.int .i64 0,.int .i64 0,.int .i64 0,.int .i64 0,.int .i64 0,.int .i64 0,.bool false,.bool false] 34)) (AB k ax ay fx fy u g d o) (AB 0 0 0 0 0 0 0 false false):=⟨(CellsAt.new w _ _ _ rfl).alloc _,CellsAt.new _ _ _ _ (by simp),Aa (Aa (Ac w) (.cells #[.int .i64 k,.int .i64 ax,.int .i64 ay,.int .i64 fx,.int .i64 fy,.int .i64 u,.int .i64 g,.bool d,.bool o] 34)) (.cells #[.int .i64 0,.int .i64 0,.int .i64 0,.int .i64 0,.int .i64 0,.int .i64 0,.int .i64 0,.bool false,.bool false] 34)⟩
 have c1:=M0.S.cell 1 _ rfl;have c2:=M0.S.cell 2 _ rfl;have c3:=M0.S.cell 3 _ rfl;have c4:=M0.S.cell 4 _ rfl;go_enter Tryz.func86,Tryz.ntmps86;go_upto_region 1 with fail;clear c1 c2 c3 c4
 go_cut [5,6] (fun p q W'=>SV w (AB k ax ay fx fy u g d o) (AB 0 0 0 0 0 0 0 false false) ax ay fx fy p q W')
 case first =>
  go_wp2_with fail;refine wp_region_held_drew (S:=fun w'=>CellsAt w' w.heap.size (AB k ax ay fx fy u g d o)) (by kernel_rfl) M0.S.drew (fun hHeld=>?_);replace M0:=M0.drew;refine tl 0 ?_ ?_ hHeld ?_;rotate_left
  . intro w hSw
    try dsimp only at hSw
    go_simp
    all_goals with_reducible rfl
  try simp only[Act.put,sx]
  refine tl 1 ?_ ?_ hHeld ?_;rotate_left
  . intro w hSw;have c1:=hSw.cell 1 _ rfl;have c2:=hSw.cell 2 _ rfl;go_simp
    all_goals with_reducible rfl
  try simp only[Act.put,sx]
  refine tl 3 ?_ ?_ hHeld ?_;rotate_left
  . intro w hSw
    try dsimp only at hSw
    go_simp
    all_goals with_reducible rfl
  try simp only[Act.put,sx]
  refine tl 4 ?_ ?_ hHeld ?_;rotate_left
  . intro w hSw;have c3:=hSw.cell 3 _ rfl;have c4:=hSw.cell 4 _ rfl;go_simp
    all_goals with_reducible rfl
  try simp only[Act.put,sx]
  refine wpAnyH_ready (rs:=[2,6,7]) (by kernel_rfl) (by simp) ?_;refine(AllReadyH.cons (o:=_) rfl (fun K hK=>?_) (AllReadyH.cons (o:=_) rfl (fun K hK=>?_) (AllReadyH.cons (o:=_) rfl (fun K hK=>?_) AllReadyH.nil)))
  . skip
    rw[if_pos (by rfl)];refine Ax ⟨_,Tryz.func66,by kernel_rfl,by rfl⟩ _ _ rfl #[Bs ax ay] (by simp only[List.map_toArray,List.map_cons,List.map_nil]; rfl) (A6 ax ay _) (AW fun v1 B=>?_);replace M0:=M0.step B;clear B hHeld;refine hK.out _ _ M0.S (fun hHeld=>?_);clear hK K
    try simp only[Act.put,sx]
    refine wpAnyH_ready (rs:=[5,6,7]) (by kernel_rfl) (by simp) ?_;refine(AllReadyH.cons (o:=_) rfl (fun K hK=>?_) (AllReadyH.cons (o:=_) rfl (fun K hK=>?_) (AllReadyH.cons (o:=_) rfl (fun K hK=>?_) AllReadyH.nil)))
    . skip
      rw[if_pos (by rfl)];refine Ax ⟨_,Tryz.func66,by kernel_rfl,by rfl⟩ _ _ rfl #[Bs fx fy] (by simp only[List.map_toArray,List.map_cons,List.map_nil]; rfl) (A6 fx fy _) (AW fun v2 B=>?_);replace M0:=M0.step B;clear B hHeld;refine hK.out _ _ M0.S (fun hHeld=>?_);clear hK K
      try simp only[Act.put,sx]
      refine wpAnyH_ready (rs:=[6,7]) (by kernel_rfl) (by simp) ?_;refine(AllReadyH.cons (o:=_) rfl (fun K hK=>?_) (AllReadyH.cons (o:=_) rfl (fun K hK=>?_) AllReadyH.nil))
      . skip
        rw[if_pos (by rfl)];refine Bf rfl ?_;intro a v3 B h0 A;have ha:=Nat.lt_of_lt_of_le M0.D.lt h0;replace M0:=M0.step B;clear B h0 hHeld;refine hK.out _ _ M0.S (fun hHeld=>?_);clear hK K
        try simp only[Act.put,sx]
        refine rd 7 fun K hK=>?_;refine Bf rfl ?_;intro f v4 B h0 G;have hf:=Nat.lt_of_lt_of_le M0.D.lt h0;have hne:a≠f:=Nat.ne_of_lt (Nat.lt_of_lt_of_le A.lt h0);replace M0:=M0.step B; replace A:=A.step B;clear B h0 hHeld;refine hK.out _ _ M0.S (fun hHeld=>?_);clear hK K
        try simp only[Act.put,sx]
        refine rd 8 fun K hK=>?_;refine Au 80 (.tmp 5) (.tmp 11) rfl a rfl [.int .i64 (ax),.int .i64 (ay)] rfl _ A (by simp) AU rfl ?_;intro v5 K N;replace A:=N; replace M0:=M0.kept K ha;replace G:=G.kept K hne.symm;clear K N hHeld;refine hK.out _ _ M0.S (fun hHeld=>?_);clear hK K
        try simp only[Act.put,List.getElem_toArray,List.getElem_cons_succ,List.getElem_cons_zero]
        refine rd 9 fun K hK=>?_;refine Au 80 (.tmp 6) (.tmp 14) rfl f rfl [.int .i64 (fx),.int .i64 (fy)] rfl _ G (by simp) AU rfl ?_;intro v6 K N;replace G:=N; replace M0:=M0.kept K hf;replace A:=A.kept K hne;clear K N hHeld;refine hK.out _ _ M0.S (fun hHeld=>?_);clear hK K
        try simp only[Act.put,List.getElem_toArray,List.getElem_cons_succ,List.getElem_cons_zero]
        refine wpAnyH_done (by kernel_rfl) ?_ _;go_wp2_with fail
        go_meet
        case rel=>exact⟨_,_,rfl,rfl,M0,A,G,ha,hf,hne⟩
      . skip
        rw[if_pos (by rfl)];refine Bf rfl ?_;intro f v7 B h0 G;have hf:=Nat.lt_of_lt_of_le M0.D.lt h0;replace M0:=M0.step B;clear B h0 hHeld;refine hK.out _ _ M0.S (fun hHeld=>?_);clear hK K
        try simp only[Act.put,sx]
        refine rd 6 fun K hK=>?_;refine Bf rfl ?_;intro a v8 B h0 A;have ha:=Nat.lt_of_lt_of_le M0.D.lt h0;have hne:a≠f:=(Nat.ne_of_lt (Nat.lt_of_lt_of_le G.lt h0)).symm;replace M0:=M0.step B; replace G:=G.step B;clear B h0 hHeld;refine hK.out _ _ M0.S (fun hHeld=>?_);clear hK K
        try simp only[Act.put,sx]
        refine rd 8 fun K hK=>?_;refine Au 80 (.tmp 5) (.tmp 11) rfl a rfl [.int .i64 (ax),.int .i64 (ay)] rfl _ A (by simp) AU rfl ?_;intro v9 K N;replace A:=N; replace M0:=M0.kept K ha;replace G:=G.kept K hne.symm;clear K N hHeld;refine hK.out _ _ M0.S (fun hHeld=>?_);clear hK K
        try simp only[Act.put,List.getElem_toArray,List.getElem_cons_succ,List.getElem_cons_zero]
        refine rd 9 fun K hK=>?_;refine Au 80 (.tmp 6) (.tmp 14) rfl f rfl [.int .i64 (fx),.int .i64 (fy)] rfl _ G (by simp) AU rfl ?_;intro v10 K N;replace G:=N; replace M0:=M0.kept K hf;replace A:=A.kept K hne;clear K N hHeld;refine hK.out _ _ M0.S (fun hHeld=>?_);clear hK K
        try simp only[Act.put,List.getElem_toArray,List.getElem_cons_succ,List.getElem_cons_zero]
        refine wpAnyH_done (by kernel_rfl) ?_ _;go_wp2_with fail
        go_meet
        case rel=>exact⟨_,_,rfl,rfl,M0,A,G,ha,hf,hne⟩
    . skip
      rw[if_pos (by rfl)];refine Bf rfl ?_;intro a v11 B h0 A;have ha:=Nat.lt_of_lt_of_le M0.D.lt h0;replace M0:=M0.step B;clear B h0 hHeld;refine hK.out _ _ M0.S (fun hHeld=>?_);clear hK K
      try simp only[Act.put,sx]
      refine wpAnyH_ready (rs:=[5,7]) (by kernel_rfl) (by simp) ?_;refine(AllReadyH.cons (o:=_) rfl (fun K hK=>?_) (AllReadyH.cons (o:=_) rfl (fun K hK=>?_) AllReadyH.nil))
      . skip
        rw[if_pos (by rfl)];refine Ax ⟨_,Tryz.func66,by kernel_rfl,by rfl⟩ _ _ rfl #[Bs fx fy] (by simp only[List.map_toArray,List.map_cons,List.map_nil]; rfl) (A6 fx fy _) (AW fun v12 B=>?_);replace M0:=M0.step B; replace A:=A.step B;clear B hHeld;refine hK.out _ _ M0.S (fun hHeld=>?_);clear hK K
        try simp only[Act.put,sx]
        refine rd 7 fun K hK=>?_;refine Bf rfl ?_;intro f v13 B h0 G;have hf:=Nat.lt_of_lt_of_le M0.D.lt h0;have hne:a≠f:=Nat.ne_of_lt (Nat.lt_of_lt_of_le A.lt h0);replace M0:=M0.step B; replace A:=A.step B;clear B h0 hHeld;refine hK.out _ _ M0.S (fun hHeld=>?_);clear hK K
        try simp only[Act.put,sx]
        refine rd 8 fun K hK=>?_;refine Au 80 (.tmp 5) (.tmp 11) rfl a rfl [.int .i64 (ax),.int .i64 (ay)] rfl _ A (by simp) AU rfl ?_;intro v14 K N;replace A:=N; replace M0:=M0.kept K ha;replace G:=G.kept K hne.symm;clear K N hHeld;refine hK.out _ _ M0.S (fun hHeld=>?_);clear hK K
        try simp only[Act.put,List.getElem_toArray,List.getElem_cons_succ,List.getElem_cons_zero]
        refine rd 9 fun K hK=>?_;refine Au 80 (.tmp 6) (.tmp 14) rfl f rfl [.int .i64 (fx),.int .i64 (fy)] rfl _ G (by simp) AU rfl ?_;intro v15 K N;replace G:=N; replace M0:=M0.kept K hf;replace A:=A.kept K hne;clear K N hHeld;refine hK.out _ _ M0.S (fun hHeld=>?_);clear hK K
        try simp only[Act.put,List.getElem_toArray,List.getElem_cons_succ,List.getElem_cons_zero]
        refine wpAnyH_done (by kernel_rfl) ?_ _;go_wp2_with fail
        go_meet
        case rel=>exact⟨_,_,rfl,rfl,M0,A,G,ha,hf,hne⟩
      . skip
        rw[if_pos (by rfl)];refine Bf rfl ?_;intro f v16 B h0 G;have hf:=Nat.lt_of_lt_of_le M0.D.lt h0;have hne:a≠f:=Nat.ne_of_lt (Nat.lt_of_lt_of_le A.lt h0);replace M0:=M0.step B; replace A:=A.step B;clear B h0 hHeld;refine hK.out _ _ M0.S (fun hHeld=>?_);clear hK K
        try simp only[Act.put,sx]
        refine rd 5 fun K hK=>?_;refine Ax ⟨_,Tryz.func66,by kernel_rfl,by rfl⟩ _ _ rfl #[Bs fx fy] (by simp only[List.map_toArray,List.map_cons,List.map_nil]; rfl) (A6 fx fy _) (AW fun v17 B=>?_);replace M0:=M0.step B; replace A:=A.step B; replace G:=G.step B;clear B hHeld;refine hK.out _ _ M0.S (fun hHeld=>?_);clear hK K
        try simp only[Act.put,sx]
        refine rd 8 fun K hK=>?_;refine Au 80 (.tmp 5) (.tmp 11) rfl a rfl [.int .i64 (ax),.int .i64 (ay)] rfl _ A (by simp) AU rfl ?_;intro v18 K N;replace A:=N; replace M0:=M0.kept K ha;replace G:=G.kept K hne.symm;clear K N hHeld;refine hK.out _ _ M0.S (fun hHeld=>?_);clear hK K
        try simp only[Act.put,List.getElem_toArray,List.getElem_cons_succ,List.getElem_cons_zero]
        refine rd 9 fun K hK=>?_;refine Au 80 (.tmp 6) (.tmp 14) rfl f rfl [.int .i64 (fx),.int .i64 (fy)] rfl _ G (by simp) AU rfl ?_;intro v19 K N;replace G:=N; replace M0:=M0.kept K hf;replace A:=A.kept K hne;clear K N hHeld;refine hK.out _ _ M0.S (fun hHeld=>?_);clear hK K
        try simp only[Act.put,List.getElem_toArray,List.getElem_cons_succ,List.getElem_cons_zero]
        refine wpAnyH_done (by kernel_rfl) ?_ _;go_wp2_with fail
        go_meet
        case rel=>exact⟨_,_,rfl,rfl,M0,A,G,ha,hf,hne⟩
    . skip
      rw[if_pos (by rfl)];refine Bf rfl ?_;intro f v20 B h0 G;have hf:=Nat.lt_of_lt_of_le M0.D.lt h0;replace M0:=M0.step B;clear B h0 hHeld;refine hK.out _ _ M0.S (fun hHeld=>?_);clear hK K
      try simp only[Act.put,sx]
      refine wpAnyH_ready (rs:=[5,6]) (by kernel_rfl) (by simp) ?_;refine(AllReadyH.cons (o:=_) rfl (fun K hK=>?_) (AllReadyH.cons (o:=_) rfl (fun K hK=>?_) AllReadyH.nil))
      . skip
        rw[if_pos (by rfl)];refine Ax ⟨_,Tryz.func66,by kernel_rfl,by rfl⟩ _ _ rfl #[Bs fx fy] (by simp only[List.map_toArray,List.map_cons,List.map_nil]; rfl) (A6 fx fy _) (AW fun v21 B=>?_);replace M0:=M0.step B; replace G:=G.step B;clear B hHeld;refine hK.out _ _ M0.S (fun hHeld=>?_);clear hK K
        try simp only[Act.put,sx]
        refine rd 6 fun K hK=>?_;refine Bf rfl ?_;intro a v22 B h0 A;have ha:=Nat.lt_of_lt_of_le M0.D.lt h0;have hne:a≠f:=(Nat.ne_of_lt (Nat.lt_of_lt_of_le G.lt h0)).symm;replace M0:=M0.step B; replace G:=G.step B;clear B h0 hHeld;refine hK.out _ _ M0.S (fun hHeld=>?_);clear hK K
        try simp only[Act.put,sx]
        refine rd 8 fun K hK=>?_;refine Au 80 (.tmp 5) (.tmp 11) rfl a rfl [.int .i64 (ax),.int .i64 (ay)] rfl _ A (by simp) AU rfl ?_;intro v23 K N;replace A:=N; replace M0:=M0.kept K ha;replace G:=G.kept K hne.symm;clear K N hHeld;refine hK.out _ _ M0.S (fun hHeld=>?_);clear hK K
        try simp only[Act.put,List.getElem_toArray,List.getElem_cons_succ,List.getElem_cons_zero]
        refine rd 9 fun K hK=>?_;refine Au 80 (.tmp 6) (.tmp 14) rfl f rfl [.int .i64 (fx),.int .i64 (fy)] rfl _ G (by simp) AU rfl ?_;intro v24 K N;replace G:=N; replace M0:=M0.kept K hf;replace A:=A.kept K hne;clear K N hHeld;refine hK.out _ _ M0.S (fun hHeld=>?_);clear hK K
        try simp only[Act.put,List.getElem_toArray,List.getElem_cons_succ,List.getElem_cons_zero]
        refine wpAnyH_done (by kernel_rfl) ?_ _;go_wp2_with fail
        go_meet
        case rel=>exact⟨_,_,rfl,rfl,M0,A,G,ha,hf,hne⟩
      . skip
        rw[if_pos (by rfl)];refine Bf rfl ?_;intro a v25 B h0 A;have ha:=Nat.lt_of_lt_of_le M0.D.lt h0;have hne:a≠f:=(Nat.ne_of_lt (Nat.lt_of_lt_of_le G.lt h0)).symm;replace M0:=M0.step B; replace G:=G.step B;clear B h0 hHeld;refine hK.out _ _ M0.S (fun hHeld=>?_);clear hK K
        try simp only[Act.put,sx]
        refine rd 5 fun K hK=>?_;refine Ax ⟨_,Tryz.func66,by kernel_rfl,by rfl⟩ _ _ rfl #[Bs fx fy] (by simp only[List.map_toArray,List.map_cons,List.map_nil]; rfl) (A6 fx fy _) (AW fun v26 B=>?_);replace M0:=M0.step B; replace A:=A.step B; replace G:=G.step B;clear B hHeld;refine hK.out _ _ M0.S (fun hHeld=>?_);clear hK K
        try simp only[Act.put,sx]
        refine rd 8 fun K hK=>?_;refine Au 80 (.tmp 5) (.tmp 11) rfl a rfl [.int .i64 (ax),.int .i64 (ay)] rfl _ A (by simp) AU rfl ?_;intro v27 K N;replace A:=N; replace M0:=M0.kept K ha;replace G:=G.kept K hne.symm;clear K N hHeld;refine hK.out _ _ M0.S (fun hHeld=>?_);clear hK K
        try simp only[Act.put,List.getElem_toArray,List.getElem_cons_succ,List.getElem_cons_zero]
        refine rd 9 fun K hK=>?_;refine Au 80 (.tmp 6) (.tmp 14) rfl f rfl [.int .i64 (fx),.int .i64 (fy)] rfl _ G (by simp) AU rfl ?_;intro v28 K N;replace G:=N; replace M0:=M0.kept K hf;replace A:=A.kept K hne;clear K N hHeld;refine hK.out _ _ M0.S (fun hHeld=>?_);clear hK K
        try simp only[Act.put,List.getElem_toArray,List.getElem_cons_succ,List.getElem_cons_zero]
        refine wpAnyH_done (by kernel_rfl) ?_ _;go_wp2_with fail
        go_meet
        case rel=>exact⟨_,_,rfl,rfl,M0,A,G,ha,hf,hne⟩
  . skip
    rw[if_pos (by rfl)];refine Bf rfl ?_;intro a v29 B h0 A;have ha:=Nat.lt_of_lt_of_le M0.D.lt h0;replace M0:=M0.step B;clear B h0 hHeld;refine hK.out _ _ M0.S (fun hHeld=>?_);clear hK K
    try simp only[Act.put,sx]
    refine wpAnyH_ready (rs:=[2,7]) (by kernel_rfl) (by simp) ?_;refine(AllReadyH.cons (o:=_) rfl (fun K hK=>?_) (AllReadyH.cons (o:=_) rfl (fun K hK=>?_) AllReadyH.nil))
    . skip
      rw[if_pos (by rfl)];refine Ax ⟨_,Tryz.func66,by kernel_rfl,by rfl⟩ _ _ rfl #[Bs ax ay] (by simp only[List.map_toArray,List.map_cons,List.map_nil]; rfl) (A6 ax ay _) (AW fun v30 B=>?_);replace M0:=M0.step B; replace A:=A.step B;clear B hHeld;refine hK.out _ _ M0.S (fun hHeld=>?_);clear hK K
      try simp only[Act.put,sx]
      refine wpAnyH_ready (rs:=[5,7]) (by kernel_rfl) (by simp) ?_;refine(AllReadyH.cons (o:=_) rfl (fun K hK=>?_) (AllReadyH.cons (o:=_) rfl (fun K hK=>?_) AllReadyH.nil))
      . skip
        rw[if_pos (by rfl)];refine Ax ⟨_,Tryz.func66,by kernel_rfl,by rfl⟩ _ _ rfl #[Bs fx fy] (by simp only[List.map_toArray,List.map_cons,List.map_nil]; rfl) (A6 fx fy _) (AW fun v31 B=>?_);replace M0:=M0.step B; replace A:=A.step B;clear B hHeld;refine hK.out _ _ M0.S (fun hHeld=>?_);clear hK K
        try simp only[Act.put,sx]
        refine rd 7 fun K hK=>?_;refine Bf rfl ?_;intro f v32 B h0 G;have hf:=Nat.lt_of_lt_of_le M0.D.lt h0;have hne:a≠f:=Nat.ne_of_lt (Nat.lt_of_lt_of_le A.lt h0);replace M0:=M0.step B; replace A:=A.step B;clear B h0 hHeld;refine hK.out _ _ M0.S (fun hHeld=>?_);clear hK K
        try simp only[Act.put,sx]
        refine rd 8 fun K hK=>?_;refine Au 80 (.tmp 5) (.tmp 11) rfl a rfl [.int .i64 (ax),.int .i64 (ay)] rfl _ A (by simp) AU rfl ?_;intro v33 K N;replace A:=N; replace M0:=M0.kept K ha;replace G:=G.kept K hne.symm;clear K N hHeld;refine hK.out _ _ M0.S (fun hHeld=>?_);clear hK K
        try simp only[Act.put,List.getElem_toArray,List.getElem_cons_succ,List.getElem_cons_zero]
        refine rd 9 fun K hK=>?_;refine Au 80 (.tmp 6) (.tmp 14) rfl f rfl [.int .i64 (fx),.int .i64 (fy)] rfl _ G (by simp) AU rfl ?_;intro v34 K N;replace G:=N; replace M0:=M0.kept K hf;replace A:=A.kept K hne;clear K N hHeld;refine hK.out _ _ M0.S (fun hHeld=>?_);clear hK K
        try simp only[Act.put,List.getElem_toArray,List.getElem_cons_succ,List.getElem_cons_zero]
        refine wpAnyH_done (by kernel_rfl) ?_ _;go_wp2_with fail
        go_meet
        case rel=>exact⟨_,_,rfl,rfl,M0,A,G,ha,hf,hne⟩
      . skip
        rw[if_pos (by rfl)];refine Bf rfl ?_;intro f v35 B h0 G;have hf:=Nat.lt_of_lt_of_le M0.D.lt h0;have hne:a≠f:=Nat.ne_of_lt (Nat.lt_of_lt_of_le A.lt h0);replace M0:=M0.step B; replace A:=A.step B;clear B h0 hHeld;refine hK.out _ _ M0.S (fun hHeld=>?_);clear hK K
        try simp only[Act.put,sx]
        refine rd 5 fun K hK=>?_;refine Ax ⟨_,Tryz.func66,by kernel_rfl,by rfl⟩ _ _ rfl #[Bs fx fy] (by simp only[List.map_toArray,List.map_cons,List.map_nil]; rfl) (A6 fx fy _) (AW fun v36 B=>?_);replace M0:=M0.step B; replace A:=A.step B; replace G:=G.step B;clear B hHeld;refine hK.out _ _ M0.S (fun hHeld=>?_);clear hK K
        try simp only[Act.put,sx]
        refine rd 8 fun K hK=>?_;refine Au 80 (.tmp 5) (.tmp 11) rfl a rfl [.int .i64 (ax),.int .i64 (ay)] rfl _ A (by simp) AU rfl ?_;intro v37 K N;replace A:=N; replace M0:=M0.kept K ha;replace G:=G.kept K hne.symm;clear K N hHeld;refine hK.out _ _ M0.S (fun hHeld=>?_);clear hK K
        try simp only[Act.put,List.getElem_toArray,List.getElem_cons_succ,List.getElem_cons_zero]
        refine rd 9 fun K hK=>?_;refine Au 80 (.tmp 6) (.tmp 14) rfl f rfl [.int .i64 (fx),.int .i64 (fy)] rfl _ G (by simp) AU rfl ?_;intro v38 K N;replace G:=N; replace M0:=M0.kept K hf;replace A:=A.kept K hne;clear K N hHeld;refine hK.out _ _ M0.S (fun hHeld=>?_);clear hK K
        try simp only[Act.put,List.getElem_toArray,List.getElem_cons_succ,List.getElem_cons_zero]
        refine wpAnyH_done (by kernel_rfl) ?_ _;go_wp2_with fail
        go_meet
        case rel=>exact⟨_,_,rfl,rfl,M0,A,G,ha,hf,hne⟩
    . skip
      rw[if_pos (by rfl)];refine Bf rfl ?_;intro f v39 B h0 G;have hf:=Nat.lt_of_lt_of_le M0.D.lt h0;have hne:a≠f:=Nat.ne_of_lt (Nat.lt_of_lt_of_le A.lt h0);replace M0:=M0.step B; replace A:=A.step B;clear B h0 hHeld;refine hK.out _ _ M0.S (fun hHeld=>?_);clear hK K
      try simp only[Act.put,sx]
      refine rd 2 fun K hK=>?_;refine Ax ⟨_,Tryz.func66,by kernel_rfl,by rfl⟩ _ _ rfl #[Bs ax ay] (by simp only[List.map_toArray,List.map_cons,List.map_nil]; rfl) (A6 ax ay _) (AW fun v40 B=>?_);replace M0:=M0.step B; replace A:=A.step B; replace G:=G.step B;clear B hHeld;refine hK.out _ _ M0.S (fun hHeld=>?_);clear hK K
      try simp only[Act.put,sx]
      refine rd 5 fun K hK=>?_;refine Ax ⟨_,Tryz.func66,by kernel_rfl,by rfl⟩ _ _ rfl #[Bs fx fy] (by simp only[List.map_toArray,List.map_cons,List.map_nil]; rfl) (A6 fx fy _) (AW fun v41 B=>?_);replace M0:=M0.step B; replace A:=A.step B; replace G:=G.step B;clear B hHeld;refine hK.out _ _ M0.S (fun hHeld=>?_);clear hK K
      try simp only[Act.put,sx]
      refine rd 8 fun K hK=>?_;refine Au 80 (.tmp 5) (.tmp 11) rfl a rfl [.int .i64 (ax),.int .i64 (ay)] rfl _ A (by simp) AU rfl ?_;intro v42 K N;replace A:=N; replace M0:=M0.kept K ha;replace G:=G.kept K hne.symm;clear K N hHeld;refine hK.out _ _ M0.S (fun hHeld=>?_);clear hK K
      try simp only[Act.put,List.getElem_toArray,List.getElem_cons_succ,List.getElem_cons_zero]
      refine rd 9 fun K hK=>?_;refine Au 80 (.tmp 6) (.tmp 14) rfl f rfl [.int .i64 (fx),.int .i64 (fy)] rfl _ G (by simp) AU rfl ?_;intro v43 K N;replace G:=N; replace M0:=M0.kept K hf;replace A:=A.kept K hne;clear K N hHeld;refine hK.out _ _ M0.S (fun hHeld=>?_);clear hK K
      try simp only[Act.put,List.getElem_toArray,List.getElem_cons_succ,List.getElem_cons_zero]
      refine wpAnyH_done (by kernel_rfl) ?_ _;go_wp2_with fail
      go_meet
      case rel=>exact⟨_,_,rfl,rfl,M0,A,G,ha,hf,hne⟩
  . skip
    rw[if_pos (by rfl)];refine Bf rfl ?_;intro f v44 B h0 G;have hf:=Nat.lt_of_lt_of_le M0.D.lt h0;replace M0:=M0.step B;clear B h0 hHeld;refine hK.out _ _ M0.S (fun hHeld=>?_);clear hK K
    try simp only[Act.put,sx]
    refine wpAnyH_ready (rs:=[2,6]) (by kernel_rfl) (by simp) ?_;refine(AllReadyH.cons (o:=_) rfl (fun K hK=>?_) (AllReadyH.cons (o:=_) rfl (fun K hK=>?_) AllReadyH.nil))
    . skip
      rw[if_pos (by rfl)];refine Ax ⟨_,Tryz.func66,by kernel_rfl,by rfl⟩ _ _ rfl #[Bs ax ay] (by simp only[List.map_toArray,List.map_cons,List.map_nil]; rfl) (A6 ax ay _) (AW fun v45 B=>?_);replace M0:=M0.step B; replace G:=G.step B;clear B hHeld;refine hK.out _ _ M0.S (fun hHeld=>?_);clear hK K
      try simp only[Act.put,sx]
      refine wpAnyH_ready (rs:=[5,6]) (by kernel_rfl) (by simp) ?_;refine(AllReadyH.cons (o:=_) rfl (fun K hK=>?_) (AllReadyH.cons (o:=_) rfl (fun K hK=>?_) AllReadyH.nil))
      . skip
        rw[if_pos (by rfl)];refine Ax ⟨_,Tryz.func66,by kernel_rfl,by rfl⟩ _ _ rfl #[Bs fx fy] (by simp only[List.map_toArray,List.map_cons,List.map_nil]; rfl) (A6 fx fy _) (AW fun v46 B=>?_);replace M0:=M0.step B; replace G:=G.step B;clear B hHeld;refine hK.out _ _ M0.S (fun hHeld=>?_);clear hK K
        try simp only[Act.put,sx]
        refine rd 6 fun K hK=>?_;refine Bf rfl ?_;intro a v47 B h0 A;have ha:=Nat.lt_of_lt_of_le M0.D.lt h0;have hne:a≠f:=(Nat.ne_of_lt (Nat.lt_of_lt_of_le G.lt h0)).symm;replace M0:=M0.step B; replace G:=G.step B;clear B h0 hHeld;refine hK.out _ _ M0.S (fun hHeld=>?_);clear hK K
        try simp only[Act.put,sx]
        refine rd 8 fun K hK=>?_;refine Au 80 (.tmp 5) (.tmp 11) rfl a rfl [.int .i64 (ax),.int .i64 (ay)] rfl _ A (by simp) AU rfl ?_;intro v48 K N;replace A:=N; replace M0:=M0.kept K ha;replace G:=G.kept K hne.symm;clear K N hHeld;refine hK.out _ _ M0.S (fun hHeld=>?_);clear hK K
        try simp only[Act.put,List.getElem_toArray,List.getElem_cons_succ,List.getElem_cons_zero]
        refine rd 9 fun K hK=>?_;refine Au 80 (.tmp 6) (.tmp 14) rfl f rfl [.int .i64 (fx),.int .i64 (fy)] rfl _ G (by simp) AU rfl ?_;intro v49 K N;replace G:=N; replace M0:=M0.kept K hf;replace A:=A.kept K hne;clear K N hHeld;refine hK.out _ _ M0.S (fun hHeld=>?_);clear hK K
        try simp only[Act.put,List.getElem_toArray,List.getElem_cons_succ,List.getElem_cons_zero]
        refine wpAnyH_done (by kernel_rfl) ?_ _;go_wp2_with fail
        go_meet
        case rel=>exact⟨_,_,rfl,rfl,M0,A,G,ha,hf,hne⟩
      . skip
        rw[if_pos (by rfl)];refine Bf rfl ?_;intro a v50 B h0 A;have ha:=Nat.lt_of_lt_of_le M0.D.lt h0;have hne:a≠f:=(Nat.ne_of_lt (Nat.lt_of_lt_of_le G.lt h0)).symm;replace M0:=M0.step B; replace G:=G.step B;clear B h0 hHeld;refine hK.out _ _ M0.S (fun hHeld=>?_);clear hK K
        try simp only[Act.put,sx]
        refine rd 5 fun K hK=>?_;refine Ax ⟨_,Tryz.func66,by kernel_rfl,by rfl⟩ _ _ rfl #[Bs fx fy] (by simp only[List.map_toArray,List.map_cons,List.map_nil]; rfl) (A6 fx fy _) (AW fun v51 B=>?_);replace M0:=M0.step B; replace A:=A.step B; replace G:=G.step B;clear B hHeld;refine hK.out _ _ M0.S (fun hHeld=>?_);clear hK K
        try simp only[Act.put,sx]
        refine rd 8 fun K hK=>?_;refine Au 80 (.tmp 5) (.tmp 11) rfl a rfl [.int .i64 (ax),.int .i64 (ay)] rfl _ A (by simp) AU rfl ?_;intro v52 K N;replace A:=N; replace M0:=M0.kept K ha;replace G:=G.kept K hne.symm;clear K N hHeld;refine hK.out _ _ M0.S (fun hHeld=>?_);clear hK K
        try simp only[Act.put,List.getElem_toArray,List.getElem_cons_succ,List.getElem_cons_zero]
        refine rd 9 fun K hK=>?_;refine Au 80 (.tmp 6) (.tmp 14) rfl f rfl [.int .i64 (fx),.int .i64 (fy)] rfl _ G (by simp) AU rfl ?_;intro v53 K N;replace G:=N; replace M0:=M0.kept K hf;replace A:=A.kept K hne;clear K N hHeld;refine hK.out _ _ M0.S (fun hHeld=>?_);clear hK K
        try simp only[Act.put,List.getElem_toArray,List.getElem_cons_succ,List.getElem_cons_zero]
        refine wpAnyH_done (by kernel_rfl) ?_ _;go_wp2_with fail
        go_meet
        case rel=>exact⟨_,_,rfl,rfl,M0,A,G,ha,hf,hne⟩
    . skip
      rw[if_pos (by rfl)];refine Bf rfl ?_;intro a v54 B h0 A;have ha:=Nat.lt_of_lt_of_le M0.D.lt h0;have hne:a≠f:=(Nat.ne_of_lt (Nat.lt_of_lt_of_le G.lt h0)).symm;replace M0:=M0.step B; replace G:=G.step B;clear B h0 hHeld;refine hK.out _ _ M0.S (fun hHeld=>?_);clear hK K
      try simp only[Act.put,sx]
      refine rd 2 fun K hK=>?_;refine Ax ⟨_,Tryz.func66,by kernel_rfl,by rfl⟩ _ _ rfl #[Bs ax ay] (by simp only[List.map_toArray,List.map_cons,List.map_nil]; rfl) (A6 ax ay _) (AW fun v55 B=>?_);replace M0:=M0.step B; replace A:=A.step B; replace G:=G.step B;clear B hHeld;refine hK.out _ _ M0.S (fun hHeld=>?_);clear hK K
      try simp only[Act.put,sx]
      refine rd 5 fun K hK=>?_;refine Ax ⟨_,Tryz.func66,by kernel_rfl,by rfl⟩ _ _ rfl #[Bs fx fy] (by simp only[List.map_toArray,List.map_cons,List.map_nil]; rfl) (A6 fx fy _) (AW fun v56 B=>?_);replace M0:=M0.step B; replace A:=A.step B; replace G:=G.step B;clear B hHeld;refine hK.out _ _ M0.S (fun hHeld=>?_);clear hK K
      try simp only[Act.put,sx]
      refine rd 8 fun K hK=>?_;refine Au 80 (.tmp 5) (.tmp 11) rfl a rfl [.int .i64 (ax),.int .i64 (ay)] rfl _ A (by simp) AU rfl ?_;intro v57 K N;replace A:=N; replace M0:=M0.kept K ha;replace G:=G.kept K hne.symm;clear K N hHeld;refine hK.out _ _ M0.S (fun hHeld=>?_);clear hK K
      try simp only[Act.put,List.getElem_toArray,List.getElem_cons_succ,List.getElem_cons_zero]
      refine rd 9 fun K hK=>?_;refine Au 80 (.tmp 6) (.tmp 14) rfl f rfl [.int .i64 (fx),.int .i64 (fy)] rfl _ G (by simp) AU rfl ?_;intro v58 K N;replace G:=N; replace M0:=M0.kept K hf;replace A:=A.kept K hne;clear K N hHeld;refine hK.out _ _ M0.S (fun hHeld=>?_);clear hK K
      try simp only[Act.put,List.getElem_toArray,List.getElem_cons_succ,List.getElem_cons_zero]
      refine wpAnyH_done (by kernel_rfl) ?_ _;go_wp2_with fail
      go_meet
      case rel=>exact⟨_,_,rfl,rfl,M0,A,G,ha,hf,hne⟩
 clear M0;obtain⟨a,f,rfl,rfl,M0,A,G,ha,hf,hne⟩:=hcut;go_wp2
 go_loopw [15] (SU w ws (AB k ax ay fx fy u g d o) (AB 0 0 0 0 0 0 0 false false) a f ax ay fx fy) (fun i _=>2-(intOf i).toNat)
 case atStart=>exact⟨ax,ay,fx,fy,M0,A,G,Or.inl ⟨rfl,rfl,rfl,rfl,rfl⟩⟩
 case round =>
  clear M0 A G;obtain⟨X,Y,P,Q,M0,A,G,hi⟩:=hrel;rcases hi with⟨rfl,rfl,rfl,rfl,rfl⟩ | ⟨rfl,eX,rfl,eP,rfl⟩ | ⟨rfl,eM⟩
  . have h1:=Df x1 x2;have hw1:wrap64 (-fx.tdiv 2)=-fx.tdiv 2:=IntWalk.wrap64_in _ (by omega);clear h1;have A0:=A.cell 0 _ rfl;have A1:=A.cell 1 _ rfl;have Al:=A.lt;go_upto_region 6 with fail;refine AD (fun W'=>MvW w W' (AB k ax ay fx fy u g d o) (AB 0 0 0 0 0 0 0 false false)/\CellsAt W' a [.int .i64 (ax),.int .i64 (ay)]/\CellsAt W' f [.int .i64 (fx),.int .i64 (fy)]/\CellsAt W' wr.heap.size [.int .i64 (ax),.int .i64 (ay)]) ⟨M0.step (Aa (Ac _) _),A.alloc _,G.alloc _,CellsAt.new _ _ _ _ rfl⟩ ?_;have ta:=Nat.ne_of_lt A.lt;have tf:=Nat.ne_of_lt G.lt;have t0:w.heap.size+1<wr.heap.size:=M0.D.lt;clear M0 A G A0 A1 Al
    generalize wr.heap.size=tb at *;rintro w1 ⟨M0,A,G,T⟩;have T0:=T.cell 0 _ rfl;have Tf0:=T.fr 0;have T1:=T.cell 1 _ rfl;have Tf1:=T.fr 1;have Tl:=T.lt;have G0:=G.cell 0 _ rfl;have G1:=G.cell 1 _ rfl;have Gl:=G.lt;go_wp2_with fail
    go_region
    all_goals
     replace M0:=(M0.far t0 0 (.int .i64 (ax+fx))).drew;replace A:=(A.far ta.symm 0 (.int .i64 (ax+fx))).drew;replace G:=(G.far tf.symm 0 (.int .i64 (ax+fx))).drew;replace T:CellsAt _ tb [.int .i64 ((ax+fx)),.int .i64 (ay)]:=(T.set 0 (by simp) (.int .i64 (ax+fx))).drew;clear T0 Tf0 T1 Tf1 Tl G0 G1 Gl;have T0:=T.cell 0 _ rfl;have T1:=T.cell 1 _ rfl;have Tl:=T.lt;go_wp2_with fail;refine(DJ (ax+fx) ay _).mono ?_;rintro e w2 ⟨rfl,B⟩;replace M0:=M0.step B;replace A:=A.step B;replace G:=G.step B;replace T:=T.step B;clear B T0 T1 Tl
     have CF:=fun(W:World) (Z:Chain W lo ws (.pointer pp))=>Ed ws pp lo (ax+fx) ay W Z ok.out (by omega) (by omega) (by omega) (by omega);cases fl:Cw ws (ax+fx) ay
     . skip
       rw[fl] at CF;replace CF:=hid CF;replace fl:=hid fl;go_wp2_with fail;refine(CF.out _ (Chain.step M0.H C.out)).mono ?_;rintro e w3 ⟨rfl,B⟩;replace M0:=M0.step B;replace A:=A.step B;replace G:=G.step B;replace T:=T.step B;clear B CF;have G0:=G.cell 0 _ rfl;have Gf0:=G.fr 0;have G1:=G.cell 1 _ rfl;have Gf1:=G.fr 1;have Gl:=G.lt;go_wp2
       go_roundw
       case rel=>exact⟨ax,ay,-fx.tdiv 2,fy,M0.far hf _ _,A.far hne.symm _ _,G.set 0 (by simp) _,Or.inr (Or.inl ⟨by go_num,by rw[fl.out]; rfl,rfl,by rw[fl.out]; rfl,rfl⟩)⟩
       case measure=>simp[intOf]
     . skip
       rw[fl] at CF;replace CF:=hid CF;replace fl:=hid fl;go_wp2_with fail;refine(CF.out _ (Chain.step M0.H C.out)).mono ?_;rintro e w3 ⟨rfl,B⟩;replace M0:=M0.step B;replace A:=A.step B;replace G:=G.step B;replace T:=T.step B;clear B CF;have T0:=T.cell 0 _ rfl;have T1:=T.cell 1 _ rfl;have Tl:=T.lt;have A0:=A.cell 0 _ rfl;have Af0:=A.fr 0;have A1:=A.cell 1 _ rfl;have Af1:=A.fr 1;have Al:=A.lt;go_wp2
       go_roundw
       case rel=>exact⟨ax+fx,ay,fx,fy,(M0.far ha _ _).far ha _ _,(A.set 0 (by simp) _).set 1 (by simp) _,(G.far hne _ _).far hne _ _,Or.inr (Or.inl ⟨by go_num,by rw[fl.out]; rfl,rfl,by rw[fl.out]; rfl,rfl⟩)⟩
       case measure=>simp[intOf]
  . have h1:=Df y1 y2;have hw1:wrap64 (-fy.tdiv 2)=-fy.tdiv 2:=IntWalk.wrap64_in _ (by omega);obtain⟨X1,X2⟩:=mvA_bd eX a1 a2 x1 x2;replace eX:=hid eX;replace eP:=hid eP;clear h1;have A0:=A.cell 0 _ rfl;have A1:=A.cell 1 _ rfl;have Al:=A.lt;go_upto_region 6 with fail;refine AD (fun W'=>MvW w W' (AB k ax ay fx fy u g d o) (AB 0 0 0 0 0 0 0 false false)/\CellsAt W' a [.int .i64 (X),.int .i64 (ay)]/\CellsAt W' f [.int .i64 (P),.int .i64 (fy)]/\CellsAt W' wr.heap.size [.int .i64 (X),.int .i64 (ay)]) ⟨M0.step (Aa (Ac _) _),A.alloc _,G.alloc _,CellsAt.new _ _ _ _ rfl⟩ ?_;have ta:=Nat.ne_of_lt A.lt;have tf:=Nat.ne_of_lt G.lt
    have t0:w.heap.size+1<wr.heap.size:=M0.D.lt;clear M0 A G A0 A1 Al;generalize wr.heap.size=tb at *;rintro w1 ⟨M0,A,G,T⟩;have T0:=T.cell 0 _ rfl;have Tf0:=T.fr 0;have T1:=T.cell 1 _ rfl;have Tf1:=T.fr 1;have Tl:=T.lt;have G0:=G.cell 0 _ rfl;have G1:=G.cell 1 _ rfl;have Gl:=G.lt;go_wp2_with fail
    go_region
    all_goals
     replace M0:=(M0.far t0 1 (.int .i64 (ay+fy))).drew;replace A:=(A.far ta.symm 1 (.int .i64 (ay+fy))).drew;replace G:=(G.far tf.symm 1 (.int .i64 (ay+fy))).drew;replace T:CellsAt _ tb [.int .i64 (X),.int .i64 ((ay+fy))]:=(T.set 1 (by simp) (.int .i64 (ay+fy))).drew;clear T0 Tf0 T1 Tf1 Tl G0 G1 Gl;have T0:=T.cell 0 _ rfl;have T1:=T.cell 1 _ rfl;have Tl:=T.lt;go_wp2_with fail;refine(DJ X (ay+fy) _).mono ?_;rintro e w2 ⟨rfl,B⟩;replace M0:=M0.step B;replace A:=A.step B;replace G:=G.step B;replace T:=T.step B;clear B T0 T1 Tl
     have CF:=fun(W:World) (Z:Chain W lo ws (.pointer pp))=>Ed ws pp lo X (ay+fy) W Z ok.out (by omega) (by omega) (by omega) (by omega);cases fl:Cw ws X (ay+fy)
     . skip
       rw[fl] at CF;replace CF:=hid CF;replace fl:=hid fl;go_wp2_with fail;refine(CF.out _ (Chain.step M0.H C.out)).mono ?_;rintro e w3 ⟨rfl,B⟩;replace M0:=M0.step B;replace A:=A.step B;replace G:=G.step B;replace T:=T.step B;clear B CF;have G0:=G.cell 0 _ rfl;have Gf0:=G.fr 0;have G1:=G.cell 1 _ rfl;have Gf1:=G.fr 1;have Gl:=G.lt;go_wp2
       go_roundw
       case rel=>exact⟨X,ay,P,-fy.tdiv 2,M0.far hf _ _,A.far hne.symm _ _,G.set 1 (by simp) _,Or.inr (Or.inr ⟨by go_num,by
        show St.mk 0 (IZ (Cw ws (ax+fx) ay) ax fx) (IZ (Cw ws (IZ (Cw ws (ax+fx) ay) ax fx) (ay+fy)) ay fy) (MX (Cw ws (ax+fx) ay) fx) (MX (Cw ws (IZ (Cw ws (ax+fx) ay) ax fx) (ay+fy)) fy) 0 0 false false=_
        rw[eX.out,eP.out,fl.out];rfl⟩)⟩
       case measure=>simp[intOf]
     . skip
       rw[fl] at CF;replace CF:=hid CF;replace fl:=hid fl;go_wp2_with fail;refine(CF.out _ (Chain.step M0.H C.out)).mono ?_;rintro e w3 ⟨rfl,B⟩;replace M0:=M0.step B;replace A:=A.step B;replace G:=G.step B;replace T:=T.step B;clear B CF;have T0:=T.cell 0 _ rfl;have T1:=T.cell 1 _ rfl;have Tl:=T.lt;have A0:=A.cell 0 _ rfl;have Af0:=A.fr 0;have A1:=A.cell 1 _ rfl;have Af1:=A.fr 1;have Al:=A.lt;go_wp2
       go_roundw
       case rel=>exact⟨X,ay+fy,P,fy,(M0.far ha _ _).far ha _ _,(A.set 0 (by simp) _).set 1 (by simp) _,(G.far hne _ _).far hne _ _,Or.inr (Or.inr ⟨by go_num,by
        show St.mk 0 (IZ (Cw ws (ax+fx) ay) ax fx) (IZ (Cw ws (IZ (Cw ws (ax+fx) ay) ax fx) (ay+fy)) ay fy) (MX (Cw ws (ax+fx) ay) fx) (MX (Cw ws (IZ (Cw ws (ax+fx) ay) ax fx) (ay+fy)) fy) 0 0 false false=_
        rw[eX.out,eP.out,fl.out];rfl⟩)⟩
       case measure=>simp[intOf]
  . have E:=hid (mvS_any eM k u g d o);clear eM;go_wp2_with fail;refine wp_region_held_drew (S:=fun w'=>CellsAt w' a [.int .i64 (X),.int .i64 (Y)]/\CellsAt w' f [.int .i64 (P),.int .i64 (Q)]) (by kernel_rfl) ⟨A.drew,G.drew⟩ (fun hHeld=>?_);replace M0:=M0.drew;replace A:=A.drew;replace G:=G.drew;refine tl 0 ?_ ?_ hHeld ?_;rotate_left
    . intro w hSw;have c1:=hSw.1.cell 0 _ rfl;have c2:=hSw.1.cell 1 _ rfl;go_simp
      all_goals with_reducible rfl
    try simp only[Act.put,sx]
    refine tl 2 ?_ ?_ hHeld ?_;rotate_left
    . intro w hSw;have c1:=hSw.2.cell 0 _ rfl;have c2:=hSw.2.cell 1 _ rfl;go_simp
      all_goals with_reducible rfl
    try simp only[Act.put,sx]
    refine rd 1 fun K hK=>?_;refine Ax ⟨_,Tryz.func67,by kernel_rfl,by rfl⟩ _ _ rfl #[Bs X Y] (by simp only[List.map_toArray,List.map_cons,List.map_nil]; rfl) (DJ X Y _) (AW fun w1 B=>?_);replace M0:=M0.step B;replace A:=A.step B;replace G:=G.step B;clear B hHeld;refine hK.out _ _ ⟨A,G⟩ (fun hHeld=>?_);clear hK K
    try simp only[Act.put,sx]
    refine tl 4 ?_ ?_ hHeld ?_;rotate_left
    . intro w hSw
      try dsimp only at hSw
      go_simp
      all_goals with_reducible rfl
    try simp only[Act.put,sx]
    refine rd 3 fun K hK=>?_;refine Ax ⟨_,Tryz.func67,by kernel_rfl,by rfl⟩ _ _ rfl #[Bs P Q] (by simp only[List.map_toArray,List.map_cons,List.map_nil]; rfl) (DJ P Q _) (AW fun w2 B=>?_);replace M0:=M0.step B;replace A:=A.step B;replace G:=G.step B;clear B hHeld;refine hK.out _ _ ⟨A,G⟩ (fun hHeld=>?_);clear hK K
    try simp only[Act.put,sx]
    obtain⟨MS,MD,MH⟩:=M0;have s1:=MS.cell 1 _ rfl;have f1:=MS.fr 1;have s2:=MS.cell 2 _ rfl;have f2:=MS.fr 2;have s3:=MS.cell 3 _ rfl;have f3:=MS.fr 3;have s4:=MS.cell 4 _ rfl;have f4:=MS.fr 4;have msl:=MS.lt;refine wpAnyH_ready (rs:=[5]) (by kernel_rfl) (by simp) ?_;apply AllReadyH.cons rfl ?_ AllReadyH.nil;intro K hK;go_simp;replace A:=(A.far (show w.heap.size≠_ by omega) 1 (.int .i64 X)).far (show w.heap.size≠_ by omega) 2 (.int .i64 Y);replace G:=(G.far (show w.heap.size≠_ by omega) 1 (.int .i64 X)).far (show w.heap.size≠_ by omega) 2 (.int .i64 Y);refine hK.out _ _ ⟨A,G⟩ (fun hHeld=>?_);clear hK K
    try simp only[Act.put,sx]
    refine tl 6 ?_ ?_ hHeld ?_;rotate_left
    . intro w hSw
      try dsimp only at hSw
      go_simp
      all_goals with_reducible rfl
    try simp only[Act.put,sx]
    refine wpAnyH_ready (rs:=[7]) (by kernel_rfl) (by simp) ?_;apply AllReadyH.cons rfl ?_ AllReadyH.nil;intro K hK;go_simp;replace A:=(A.far (show w.heap.size≠_ by omega) 3 (.int .i64 P)).far (show w.heap.size≠_ by omega) 4 (.int .i64 Q);replace G:=(G.far (show w.heap.size≠_ by omega) 3 (.int .i64 P)).far (show w.heap.size≠_ by omega) 4 (.int .i64 Q);refine hK.out _ _ ⟨A,G⟩ (fun hHeld=>?_);clear hK K
    try simp only[Act.put,sx]
    refine wpAnyH_done (by kernel_rfl) ?_ _;go_upto_region 12 with fail;refine AD (fun W'=>CellsAt W' w.heap.size (AB k X Y P Q u g d o)/\CellsAt W' (w.heap.size+1) (AB 0 0 0 0 0 0 0 false false)/\Below w.heap.size w W') ⟨(((MS.set 1 (by simp) _).set 2 (by simp) _).set 3 (by simp) _).set 4 (by simp) _,(((MD.far (by omega) _ _).far (by omega) _ _).far (by omega) _ _).far (by omega) _ _,Ap (Ap (Ap (Ap MH _ _ _ (by omega)) _ _ _ (by omega)) _ _ _ (by omega)) _ _ _ (by omega)⟩ ?_;clear MS MD MH A G hHeld s1 f1 s2 f2 s3 f3 s4 f4 msl;rintro w3 ⟨S,D,H⟩;refine wp_region_lit ?_
    refine Af rfl 34 (.tmp 2) rfl w.heap.size rfl (AB k X Y P Q u g d o) S Tryz.underlying34 rfl Ae ?_;refine Ai rfl 34 (.tmp 4) (.tmp 46) rfl (w.heap.size+1) rfl (AB k X Y P Q u g d o) rfl _ D (by simp) Ae rfl ?_;intro w5 K N;go_wp2;exact bodyPost_ret (v:=Cd k X Y P Q u g d o) (An rfl (w.heap.size+1) rfl (AB k X Y P Q u g d o) N Tryz.underlying34 rfl Ae) rfl ⟨⟨_,_,_,_,E.out,rfl⟩,Ao H K (by omega)⟩
end Go.Proofs.YtaemcekcancpdaaGreatDoor
