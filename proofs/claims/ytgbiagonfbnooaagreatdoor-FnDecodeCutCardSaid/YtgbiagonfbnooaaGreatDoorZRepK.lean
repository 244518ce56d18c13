import Derived.Test.YtgbiagonfbnooaaGreatDoorZRepJ
set_option linter.all false
set_option maxRecDepth 100000
set_option maxHeartbeats 8000000
open Go.Lib
namespace Go.Proofs.YtgbiagonfbnooaaGreatDoor
open Go.RowKit
open M
def M.make0(L:Lv)(p:Int)(xs:List In)(N:Nat):Rep:=⟨L.i,p,max (L.score xs N) 0,xs,rhs L xs N,0⟩
def M.rmake(L:Lv)(p k:Int)(xs:List In)(N:Nat):Option Rep :=
 if FW L xs N (N:Int)&&(Ax p 0 9&&Ax k 1 9999) then some { make0 L p xs N with t:=tg k (repL (make0 L p xs N)) } else none
theorem AJ{w:World}{o:Oper}{a:Act}{K:Act->World->Prop}{Q:Exit->Act->World->Prop}(s x:Operand)
 (ho:o.op=.call { callee:=.builtin .append,args:=#[s,x],argTypes:=#[23,23] }) (base:Nat) (v:Value) (n:Nat) (qs:List In) (hs:a.eval s=v) (hown:w.ownsRow base 89 3 v n (AZ qs))
 (A:Option Addr) (m c:Nat) (xs:List In) (hx:a.eval x=.slice A m c) (I:Inputs w A m xs) (hn:n+m<=10000000) (hb:base<=w.heap.size)
 (h:∀ v' w',w'.ownsRow base 89 3 v' (n+m) (AZ (qs++xs))->w.grownBy w' v.ownBlock->(v'.ownBlock=v.ownBlock\/v'.ownBlock=some w.heap.size)->K (a.put o.dst v') w'):o.wp Tryz.prog a w K Q:=by
 obtain⟨v',w',hr,h2,h3,h4⟩:=AX w base o.type v n qs hown A m c xs I hn hb;unfold Oper.wp execOp;simp only[ho,resolve,invoke,builtin,Sem.run_bind,Sem.run_pure,Result.andThen_ok,List.map_toArray,List.map_cons,List.map_nil,hs,hx,hr];exact h v' w' h2 h3 h4
def NC(w:World)(l p s:Int)(N:Nat)(xs:List In)(hs:List Int)(v:Value)(W:World):Prop :=
 ∃(g:Nat) (A:Option Addr) (c:Nat) (E:Option Addr) (c2:Nat),v=.pointer (some ⟨g,0,none⟩)/\w.heap.size+1<g/\CellsAt W g (AR l p s A N c E hs.length c2 0)/\(Lies (w.heap.size+2) W.heap.size A/\Lies (w.heap.size+2) W.heap.size E)/\((∀ k off,A=some ⟨k,off,none⟩->k≠g)/\∀ k off,E=some ⟨k,off,none⟩->k≠g)/\Inputs W A N xs/\Ints W E hs.length hs/\CellsAt W (w.heap.size+1) Bp/\Below w.heap.size w W
theorem Dh(L:Lv)(p k:Int)(D:Option Addr)(N cc:Nat)(xs:List In)(w:World)(I:Boxes w L.A L.n L.ws)(J:Boxes w L.G L.m L.gs)(hn:L.n<=281474976710656)(hm:L.m<=281474976710656)(Y:Inputs w D N xs)(hN:N<=1000) :
 Calls Tryz.prog 55 #[L.val,.int .i64 p,.int .i64 k,.slice D N cc] w (FP w (rmake L p k xs N)):=by
 have hl:=Y.1;have P:CellsAt ((w.alloc (.cells #[.int .i64 L.i,.int .i64 L.t,.int .i64 L.x,.int .i64 L.y,.slice L.A L.n L.c,.slice L.G L.m L.kk,.int .i64 L.fp,.int .i64 L.fq,.int .i64 L.fs,.int .i64 L.fz,.int .i64 L.b] 62)).alloc (.cells #[.int .i64 0,.int .i64 0,.int .i64 0,.slice none 0 0,.slice none 0 0,.int .i64 0] 26)) w.heap.size L.cs:=CellsAt.alloc (CellsAt.new w _ L.cs 62 rfl) _
 have R:CellsAt ((w.alloc (.cells #[.int .i64 L.i,.int .i64 L.t,.int .i64 L.x,.int .i64 L.y,.slice L.A L.n L.c,.slice L.G L.m L.kk,.int .i64 L.fp,.int .i64 L.fq,.int .i64 L.fs,.int .i64 L.fz,.int .i64 L.b] 62)).alloc (.cells #[.int .i64 0,.int .i64 0,.int .i64 0,.slice none 0 0,.slice none 0 0,.int .i64 0] 26)) (w.heap.size+1) Bp:=CellsAt.new _ _ Bp 26 (by simp)
 have B:=hid (Ab (Ab (Ac w) (.cells #[.int .i64 L.i,.int .i64 L.t,.int .i64 L.x,.int .i64 L.y,.slice L.A L.n L.c,.slice L.G L.m L.kk,.int .i64 L.fp,.int .i64 L.fq,.int .i64 L.fs,.int .i64 L.fz,.int .i64 L.b] 62)) (.cells #[.int .i64 0,.int .i64 0,.int .i64 0,.slice none 0 0,.slice none 0 0,.int .i64 0] 26));have V:=fun(W:World) (BB:Below w.heap.size w W)=>E0 L D N cc xs W (I.step BB) (J.step BB) hn hm (Y.step BB) (by omega);have S:=fun(W:World) (BB:Below w.heap.size w W)=>IX L D N cc xs W (I.step BB) (J.step BB) hn hm (Y.step BB) hN
 have H:=fun(W:World) (BB:Below w.heap.size w W)=>LR L D N cc xs W (I.step BB) (J.step BB) hn hm (Y.step BB) hN;have e0:=Ie (L:=L) (xs:=xs) (k:=N);rw[<- e0] at V;replace V:=hid V;replace S:=hid S;replace H:=hid H;replace I:=hid I;replace J:=hid J;replace Y:=hid Y;replace R:=hid R;have EE:=hid (show rmake L p k xs N=if FW L xs N (N:Int)&&(Ax p 0 9&&Ax k 1 9999) then some { make0 L p xs N with t:=tg k (repL (make0 L p xs N)) } else none from rfl);generalize rmake L p k xs N=RR at *;clear e0;go_enter Tryz.func55,Tryz.ntmps55;go_upto_region 1 with fail;refine wp_region_lit ?_
 refine Ag rfl 62 (.tmp 4) rfl w.heap.size rfl L.cs P Tryz.underlying62 rfl Am ?_;go_wp;refine(V.out _ B.out).mono ?_;rintro e w1 ⟨rfl,BB⟩;replace P:=P.step BB;replace R:=hid (R.out.step BB);replace B:=hid (Aa B.out BB);clear BB V;dsimp only;cases hok:FW L xs N (N:Int)
 ·
  have eR:=hid (show RR=none from EE.out.trans (by simp[hok]));go_upto_region 2 with fail;refine wp_region_lit ?_
  iterate 3 go_step
  refine Av rfl 26 (.tmp 8) (.tmp 25) rfl (w.heap.size+1) rfl Bp rfl Bp R.out (by simp) Ae rfl ?_;go_wp2;exact bodyPost_ret (v:=.tuple #[CH 0 0 0 none 0 0 none 0 0 0,.bool false]) (Ay rfl (w.heap.size+1) rfl Bp (R.out.all Bp (by simp)) (.bool false) rfl Tryz.underlying26 rfl Ae) rfl (BG eR.out (Bj B.out (by omega) _ _))
 cases hp:Ax p 0 9
 . replace hp:=hid hp;go_wp2_with fail;refine(Ak p 0 9 false _ hp.out).mono ?_;rintro e w' ⟨rfl,rfl⟩;have hp:=hp.out;have eR:=hid (show RR=none from EE.out.trans (by simp[hp]));go_upto_region 2 with fail;refine wp_region_lit ?_
   iterate 3 go_step
   refine Av rfl 26 (.tmp 8) (.tmp 25) rfl (w.heap.size+1) rfl Bp rfl Bp R.out (by simp) Ae rfl ?_;go_wp2;exact bodyPost_ret (v:=.tuple #[CH 0 0 0 none 0 0 none 0 0 0,.bool false]) (Ay rfl (w.heap.size+1) rfl Bp (R.out.all Bp (by simp)) (.bool false) rfl Tryz.underlying26 rfl Ae) rfl (BG eR.out (Bj B.out (by omega) _ _))
 cases hk:Ax k 1 9999
 . replace hp:=hid hp;replace hk:=hid hk;go_wp2_with fail;refine(Ak p 0 9 true _ hp.out).mono ?_;rintro e w' ⟨rfl,rfl⟩;go_wp2_with fail;refine(Ak k 1 9999 false _ hk.out).mono ?_;rintro e w' ⟨rfl,rfl⟩;have hk:=hk.out;have eR:=hid (show RR=none from EE.out.trans (by simp[hk]));go_upto_region 2 with fail;refine wp_region_lit ?_
   iterate 3 go_step
   refine Av rfl 26 (.tmp 8) (.tmp 25) rfl (w.heap.size+1) rfl Bp rfl Bp R.out (by simp) Ae rfl ?_;go_wp2;exact bodyPost_ret (v:=.tuple #[CH 0 0 0 none 0 0 none 0 0 0,.bool false]) (Ay rfl (w.heap.size+1) rfl Bp (R.out.all Bp (by simp)) (.bool false) rfl Tryz.underlying26 rfl Ae) rfl (BG eR.out (Bj B.out (by omega) _ _))
 replace EE:=hid (EE.out.trans (by rw[hok,hp,hk]; rfl):RR=some { make0 L p xs N with t:=tg k (repL (make0 L p xs N)) });obtain⟨hval,hN60,hi⟩:=M9 hl hok;have hxs:Dz xs=true:=AO.2 ⟨hval,by omega⟩;replace hp:=hid hp;replace hk:=hid hk;replace hxs:=hid hxs;clear hval hok;go_wp2_with fail;refine(Ak p 0 9 true _ hp.out).mono ?_;rintro e w' ⟨rfl,rfl⟩;go_wp2_with fail;refine(Ak k 1 9999 true _ hk.out).mono ?_;rintro e w' ⟨rfl,rfl⟩;go_upto_region 3 with fail;have hmx:=Hz
 go_cut [10] from 26 to 39 (NC w L.i p (max (L.score xs N) 0) N xs (rhs L xs N))
 case first =>
  refine wp_region_held_drew (S:=fun w'=>CellsAt w' w.heap.size L.cs) (by kernel_rfl) P.drew (fun hHeld=>?_);replace P:=P.drew;replace R:=hid R.out.drew;replace B:=hid (Az B.out);generalize w1.drew=w2 at *;refine tl 0 ?_ ?_ hHeld ?_;rotate_left
  . intro w hSw
    try dsimp only at hSw
    go_simp
    all_goals with_reducible rfl
  try simp only[Act.put,sx]
  refine tl 1 ?_ ?_ hHeld ?_;rotate_left
  . intro w hSw;have cj:=hSw.cell 0 _ rfl;go_simp
    all_goals with_reducible rfl
  try simp only[Act.put,sx]
  refine tl 2 ?_ ?_ hHeld ?_;rotate_left
  . intro w hSw
    try dsimp only at hSw
    go_simp
    all_goals with_reducible rfl
  try simp only[Act.put,sx]
  refine wpAnyH_take (i:=3) (oi:=_) (v:=.agg (L.cs).toArray) rfl (by kernel_rfl) (by kernel_rfl) (by kernel_rfl) (fun _ _ _ h=>h) (yieldsIf_load_mid (by rfl) 62 (.tmp 4) rfl w.heap.size 0 rfl (L.cs) _ (fun W hS=>hS.range) Tryz.underlying62 rfl Am) hHeld ?_
  try simp only[Act.put,sx]
  refine tl 4 ?_ ?_ hHeld ?_;rotate_left
  . intro w hSw
    try dsimp only at hSw
    go_simp
    all_goals with_reducible rfl
  try simp only[Act.put,sx]
  refine tl 8 ?_ ?_ hHeld ?_;rotate_left
  . intro w hSw
    try dsimp only at hSw
    go_simp
    all_goals with_reducible rfl
  try simp only[Act.put,sx]
  refine wpAnyH_take (i:=10) (oi:=_) (v:=.agg (L.cs).toArray) rfl (by kernel_rfl) (by kernel_rfl) (by kernel_rfl) (fun _ _ _ h=>h) (yieldsIf_load_mid (by rfl) 62 (.tmp 4) rfl w.heap.size 0 rfl (L.cs) _ (fun W hS=>hS.range) Tryz.underlying62 rfl Am) hHeld ?_
  try simp only[Act.put,sx]
  refine tl 11 ?_ ?_ hHeld ?_;rotate_left
  . intro w hSw
    try dsimp only at hSw
    go_simp
    all_goals with_reducible rfl
  try simp only[Act.put,sx]
  refine wpAnyH_ready (rs:=[5,7,14]) (by kernel_rfl) (by simp) ?_;refine(AllReadyH.cons (o:=_) rfl (fun K hK=>?_) (AllReadyH.cons (o:=_) rfl (fun K hK=>?_) (AllReadyH.cons (o:=_) rfl (fun K hK=>?_) AllReadyH.nil)))
  . skip
    go_simp
    go_at_call 82
    refine(S.out _ B.out).mono ?_;rintro e wn ⟨rfl,BB⟩;replace P:=P.step BB;replace R:=hid (R.out.step BB);replace B:=hid (Aa B.out BB);clear BB;clear hHeld;go_wp2_with fail;refine hK.out _ _ P (fun hHeld=>?_);clear hK K
    try simp only[Act.put,sx]
    refine tl 6 ?_ ?_ hHeld ?_;rotate_left
    . intro w hSw
      try dsimp only at hSw
      go_simp
      all_goals with_reducible rfl
    try simp only[Act.put,sx]
    refine wpAnyH_ready (rs:=[7,14]) (by kernel_rfl) (by simp) ?_;refine(AllReadyH.cons (o:=_) rfl (fun K hK=>?_) (AllReadyH.cons (o:=_) rfl (fun K hK=>?_) AllReadyH.nil))
    . skip
      dsimp only[List.getElem_toArray,List.getElem_cons_succ,List.getElem_cons_zero];rw[if_pos (by rfl)];refine Bc rfl ?_;intro g7 wn BB hg7 O7;replace O7:=hid O7;have hg7R:w.heap.size+1<g7:=by have:=R.out.lt; omega
      replace P:=P.step BB;replace R:=hid (R.out.step BB);replace B:=hid (Aa B.out BB);clear BB hHeld;refine hK.out _ _ P (fun hHeld=>?_);clear hK K
      try simp only[Act.put,sx]
      refine wpAnyH_ready (rs:=[9,14]) (by kernel_rfl) (by simp) ?_;refine(AllReadyH.cons (o:=_) rfl (fun K hK=>?_) (AllReadyH.cons (o:=_) rfl (fun K hK=>?_) AllReadyH.nil))
      . skip
        dsimp only[List.getElem_toArray,List.getElem_cons_succ,List.getElem_cons_zero];rw[if_pos (by rfl)];refine AJ (.tmp 33) (.tmp 34) rfl g7 (Value.slice (some (⟨g7,0,none⟩:Addr)) 0 0) 0 [] rfl O7.out D N cc xs rfl (Y.out.step B.out) (by omega) (Nat.le_of_lt (O7.out.lt g7 rfl).2) ?_;intro v9 wn O9 G9 h9;rw[Nat.zero_add,List.nil_append] at O9;obtain⟨A6,c6,rfl,I6,_⟩:=Inputs.of_own O9;have L6:Lies (w.heap.size+2) wn.heap.size A6:=fun k off e=>by
         subst e;have:=O9.lt k rfl;exact⟨by omega,this.2⟩
        replace I6:=hid I6;replace P:=P.grown G9 (fun e=>by have h:g7=w.heap.size:=Option.some.inj e; omega);replace R:=hid (R.out.grown G9 (fun e=>by have h:g7=w.heap.size+1:=Option.some.inj e; omega));replace B:=hid (B.out.grown G9 B.out.size (fun k e=>by have h:g7=k:=Option.some.inj e; omega));clear O9 G9 h9 O7 hHeld;refine hK.out _ _ P (fun hHeld=>?_);clear hK K
        try simp only[Act.put,sx]
        refine wpAnyH_ready (rs:=[12,14]) (by kernel_rfl) (by simp) ?_;refine(AllReadyH.cons (o:=_) rfl (fun K hK=>?_) (AllReadyH.cons (o:=_) rfl (fun K hK=>?_) AllReadyH.nil))
        . skip
          go_simp
          go_at_call 83
          refine(H.out _ B.out).mono ?_;rintro e wn ⟨⟨E6,cE,rfl,IE,LE⟩,BB⟩;replace LE:Lies (w.heap.size+2) wn.heap.size E6:=fun k off e=>⟨by have:=(LE k off e).1; have:=R.out.lt; omega,(LE k off e).2⟩;replace IE:=hid IE;replace P:=P.step BB;replace R:=hid (R.out.step BB);replace I6:=hid (I6.out.step BB);replace L6:=L6.up (BB).size;replace B:=hid (Aa B.out BB);clear BB;clear hHeld;go_wp2_with fail;refine hK.out _ _ P (fun hHeld=>?_);clear hK K
          try simp only[Act.put,sx]
          refine tl 13 ?_ ?_ hHeld ?_;rotate_left
          . intro w hSw
            try dsimp only at hSw
            go_simp
            all_goals with_reducible rfl
          try simp only[Act.put,sx]
          refine wpAnyH_ready (rs:=[14]) (by kernel_rfl) (by simp) ?_;apply AllReadyH.cons rfl ?_ AllReadyH.nil;intro K hK;dsimp only[List.getElem_toArray,List.getElem_cons_succ,List.getElem_cons_zero];rw[if_pos (by rfl)];refine AG rfl ?_;intro g wn BB hg X;have hgR:w.heap.size+1<g:=by have:=R.out.lt; omega
          replace X:=hid X;have h6g:∀ k off,A6=some ⟨k,off,none⟩->k≠g:=fun k off e=>by have:=(L6 k off e).2; omega
          have hEg:∀ k off,E6=some ⟨k,off,none⟩->k≠g:=fun k off e=>by have:=(LE k off e).2; omega
          replace P:=P.step BB;replace R:=hid (R.out.step BB);replace I6:=hid (I6.out.step BB);replace L6:=L6.up (BB).size;replace IE:=hid (IE.out.step BB);replace LE:=LE.up (BB).size;replace B:=hid (Aa B.out BB);clear BB hHeld;refine hK.out _ _ P (fun hHeld=>?_);clear hK K
          try simp only[Act.put,sx]
          refine wpAnyH_ready (rs:=[15]) (by kernel_rfl) (by simp) ?_;apply AllReadyH.cons rfl ?_ AllReadyH.nil;intro K hK;dsimp only[List.getElem_toArray,List.getElem_cons_succ,List.getElem_cons_zero];rw[if_pos (by rfl)];refine Ao 26 (.tmp 10) (.tmp 39) rfl g rfl ((AR L.i p (max (L.score xs N) 0) A6 N c6 E6 (rhs L xs N).length cE 0)) rfl _ X.out (by simp) Ae rfl ?_;intro wZ KZ XZ;replace P:=P.kept KZ (by omega);replace R:=hid (R.out.kept KZ (by omega));replace I6:=hid (I6.out.kept KZ (fun hn k off e=>h6g k off e));replace IE:=hid (Ints.keptX IE.out KZ (fun hn k off e=>hEg k off e));replace L6:=L6.up KZ.size;replace LE:=LE.up KZ.size
          replace B:=hid (B.out.trans (KZ.below B.out.size (by omega)));clear KZ hHeld;refine hK.out _ _ P (fun hHeld=>?_);clear hK K
          try simp only[Act.put,sx]
          refine wpAnyH_done (by kernel_rfl) ?_ _;go_wp2_with fail
          go_meet
          case rel=>exact⟨g,A6,c6,E6,cE,rfl,hgR,XZ,⟨L6,LE⟩,⟨h6g,hEg⟩,I6.out,IE.out,R.out,B.out⟩
        . skip
          dsimp only[List.getElem_toArray,List.getElem_cons_succ,List.getElem_cons_zero];rw[if_pos (by rfl)];refine AG rfl ?_;intro g wn BB hg X;have hgR:w.heap.size+1<g:=by have:=R.out.lt; omega
          replace X:=hid X;have h6g:∀ k off,A6=some ⟨k,off,none⟩->k≠g:=fun k off e=>by have:=(L6 k off e).2; omega
          replace P:=P.step BB;replace R:=hid (R.out.step BB);replace I6:=hid (I6.out.step BB);replace L6:=L6.up (BB).size;replace B:=hid (Aa B.out BB);clear BB hHeld;refine hK.out _ _ P (fun hHeld=>?_);clear hK K
          try simp only[Act.put,sx]
          refine wpAnyH_ready (rs:=[12]) (by kernel_rfl) (by simp) ?_;apply AllReadyH.cons rfl ?_ AllReadyH.nil;intro K hK;go_simp
          go_at_call 83
          refine(H.out _ B.out).mono ?_;rintro e wn ⟨⟨E6,cE,rfl,IE,LE⟩,BB⟩;have hEg:∀ k off,E6=some ⟨k,off,none⟩->k≠g:=fun k off e=>by have:=(LE k off e).1; have:=X.out.lt; omega
          replace LE:Lies (w.heap.size+2) wn.heap.size E6:=fun k off e=>⟨by have:=(LE k off e).1; have:=R.out.lt; omega,(LE k off e).2⟩;replace IE:=hid IE;replace P:=P.step BB;replace R:=hid (R.out.step BB);replace I6:=hid (I6.out.step BB);replace L6:=L6.up (BB).size;replace X:=hid (X.out.step BB);replace B:=hid (Aa B.out BB);clear BB;clear hHeld;go_wp2_with fail;refine hK.out _ _ P (fun hHeld=>?_);clear hK K
          try simp only[Act.put,sx]
          refine tl 13 ?_ ?_ hHeld ?_;rotate_left
          . intro w hSw
            try dsimp only at hSw
            go_simp
            all_goals with_reducible rfl
          try simp only[Act.put,sx]
          refine wpAnyH_ready (rs:=[15]) (by kernel_rfl) (by simp) ?_;apply AllReadyH.cons rfl ?_ AllReadyH.nil;intro K hK;dsimp only[List.getElem_toArray,List.getElem_cons_succ,List.getElem_cons_zero];rw[if_pos (by rfl)];refine Ao 26 (.tmp 10) (.tmp 39) rfl g rfl ((AR L.i p (max (L.score xs N) 0) A6 N c6 E6 (rhs L xs N).length cE 0)) rfl _ X.out (by simp) Ae rfl ?_;intro wZ KZ XZ;replace P:=P.kept KZ (by omega);replace R:=hid (R.out.kept KZ (by omega));replace I6:=hid (I6.out.kept KZ (fun hn k off e=>h6g k off e));replace IE:=hid (Ints.keptX IE.out KZ (fun hn k off e=>hEg k off e));replace L6:=L6.up KZ.size;replace LE:=LE.up KZ.size
          replace B:=hid (B.out.trans (KZ.below B.out.size (by omega)));clear KZ hHeld;refine hK.out _ _ P (fun hHeld=>?_);clear hK K
          try simp only[Act.put,sx]
          refine wpAnyH_done (by kernel_rfl) ?_ _;go_wp2_with fail
          go_meet
          case rel=>exact⟨g,A6,c6,E6,cE,rfl,hgR,XZ,⟨L6,LE⟩,⟨h6g,hEg⟩,I6.out,IE.out,R.out,B.out⟩
      . skip
        dsimp only[List.getElem_toArray,List.getElem_cons_succ,List.getElem_cons_zero];rw[if_pos (by rfl)];refine AG rfl ?_;intro g wn BB hg X;have hgR:w.heap.size+1<g:=by have:=R.out.lt; omega
        replace X:=hid X;have hg7g:g7≠g:=by have:=(O7.out.lt g7 rfl).2; omega
        replace P:=P.step BB;replace R:=hid (R.out.step BB);replace O7:=hid (As O7.out BB);replace B:=hid (Aa B.out BB);clear BB hHeld;refine hK.out _ _ P (fun hHeld=>?_);clear hK K
        try simp only[Act.put,sx]
        refine wpAnyH_ready (rs:=[9]) (by kernel_rfl) (by simp) ?_;apply AllReadyH.cons rfl ?_ AllReadyH.nil;intro K hK;dsimp only[List.getElem_toArray,List.getElem_cons_succ,List.getElem_cons_zero];rw[if_pos (by rfl)];refine AJ (.tmp 33) (.tmp 34) rfl g7 (Value.slice (some (⟨g7,0,none⟩:Addr)) 0 0) 0 [] rfl O7.out D N cc xs rfl (Y.out.step B.out) (by omega) (Nat.le_of_lt (O7.out.lt g7 rfl).2) ?_;intro v9 wn O9 G9 h9;rw[Nat.zero_add,List.nil_append] at O9;obtain⟨A6,c6,rfl,I6,_⟩:=Inputs.of_own O9;have L6:Lies (w.heap.size+2) wn.heap.size A6:=fun k off e=>by
         subst e;have:=O9.lt k rfl;exact⟨by omega,this.2⟩
        have h6g:∀ k off,A6=some ⟨k,off,none⟩->k≠g:=fun k off e=>by
         subst e;have hx:=X.out.lt;rcases h9 with e | e
         . have h:k=g7:=Option.some.inj e; omega
         . have h:k=_:=Option.some.inj e; omega
        replace I6:=hid I6;replace P:=P.grown G9 (fun e=>by have h:g7=w.heap.size:=Option.some.inj e; omega);replace R:=hid (R.out.grown G9 (fun e=>by have h:g7=w.heap.size+1:=Option.some.inj e; omega));replace X:=hid (X.out.grown G9 (fun e=>hg7g (Option.some.inj e)));replace B:=hid (B.out.grown G9 B.out.size (fun k e=>by have h:g7=k:=Option.some.inj e; omega));clear O9 G9 h9 O7 hHeld;refine hK.out _ _ P (fun hHeld=>?_);clear hK K
        try simp only[Act.put,sx]
        refine wpAnyH_ready (rs:=[12]) (by kernel_rfl) (by simp) ?_;apply AllReadyH.cons rfl ?_ AllReadyH.nil;intro K hK;go_simp
        go_at_call 83
        refine(H.out _ B.out).mono ?_;rintro e wn ⟨⟨E6,cE,rfl,IE,LE⟩,BB⟩;have hEg:∀ k off,E6=some ⟨k,off,none⟩->k≠g:=fun k off e=>by have:=(LE k off e).1; have:=X.out.lt; omega
        replace LE:Lies (w.heap.size+2) wn.heap.size E6:=fun k off e=>⟨by have:=(LE k off e).1; have:=R.out.lt; omega,(LE k off e).2⟩;replace IE:=hid IE;replace P:=P.step BB;replace R:=hid (R.out.step BB);replace I6:=hid (I6.out.step BB);replace L6:=L6.up (BB).size;replace X:=hid (X.out.step BB);replace B:=hid (Aa B.out BB);clear BB;clear hHeld;go_wp2_with fail;refine hK.out _ _ P (fun hHeld=>?_);clear hK K
        try simp only[Act.put,sx]
        refine tl 13 ?_ ?_ hHeld ?_;rotate_left
        . intro w hSw
          try dsimp only at hSw
          go_simp
          all_goals with_reducible rfl
        try simp only[Act.put,sx]
        refine wpAnyH_ready (rs:=[15]) (by kernel_rfl) (by simp) ?_;apply AllReadyH.cons rfl ?_ AllReadyH.nil;intro K hK;dsimp only[List.getElem_toArray,List.getElem_cons_succ,List.getElem_cons_zero];rw[if_pos (by rfl)];refine Ao 26 (.tmp 10) (.tmp 39) rfl g rfl ((AR L.i p (max (L.score xs N) 0) A6 N c6 E6 (rhs L xs N).length cE 0)) rfl _ X.out (by simp) Ae rfl ?_;intro wZ KZ XZ;replace P:=P.kept KZ (by omega);replace R:=hid (R.out.kept KZ (by omega));replace I6:=hid (I6.out.kept KZ (fun hn k off e=>h6g k off e));replace IE:=hid (Ints.keptX IE.out KZ (fun hn k off e=>hEg k off e));replace L6:=L6.up KZ.size;replace LE:=LE.up KZ.size
        replace B:=hid (B.out.trans (KZ.below B.out.size (by omega)));clear KZ hHeld;refine hK.out _ _ P (fun hHeld=>?_);clear hK K
        try simp only[Act.put,sx]
        refine wpAnyH_done (by kernel_rfl) ?_ _;go_wp2_with fail
        go_meet
        case rel=>exact⟨g,A6,c6,E6,cE,rfl,hgR,XZ,⟨L6,LE⟩,⟨h6g,hEg⟩,I6.out,IE.out,R.out,B.out⟩
    . skip
      dsimp only[List.getElem_toArray,List.getElem_cons_succ,List.getElem_cons_zero];rw[if_pos (by rfl)];refine AG rfl ?_;intro g wn BB hg X;have hgR:w.heap.size+1<g:=by have:=R.out.lt; omega
      replace X:=hid X;replace P:=P.step BB;replace R:=hid (R.out.step BB);replace B:=hid (Aa B.out BB);clear BB hHeld;refine hK.out _ _ P (fun hHeld=>?_);clear hK K
      try simp only[Act.put,sx]
      refine wpAnyH_ready (rs:=[7]) (by kernel_rfl) (by simp) ?_;apply AllReadyH.cons rfl ?_ AllReadyH.nil;intro K hK;dsimp only[List.getElem_toArray,List.getElem_cons_succ,List.getElem_cons_zero];rw[if_pos (by rfl)];refine Bc rfl ?_;intro g7 wn BB hg7 O7;replace O7:=hid O7;have hg7R:w.heap.size+1<g7:=by have:=R.out.lt; omega
      have hg7g:g7≠g:=by have:=X.out.lt; omega
      replace P:=P.step BB;replace R:=hid (R.out.step BB);replace X:=hid (X.out.step BB);replace B:=hid (Aa B.out BB);clear BB hHeld;refine hK.out _ _ P (fun hHeld=>?_);clear hK K
      try simp only[Act.put,sx]
      refine wpAnyH_ready (rs:=[9]) (by kernel_rfl) (by simp) ?_;apply AllReadyH.cons rfl ?_ AllReadyH.nil;intro K hK;dsimp only[List.getElem_toArray,List.getElem_cons_succ,List.getElem_cons_zero];rw[if_pos (by rfl)];refine AJ (.tmp 33) (.tmp 34) rfl g7 (Value.slice (some (⟨g7,0,none⟩:Addr)) 0 0) 0 [] rfl O7.out D N cc xs rfl (Y.out.step B.out) (by omega) (Nat.le_of_lt (O7.out.lt g7 rfl).2) ?_;intro v9 wn O9 G9 h9;rw[Nat.zero_add,List.nil_append] at O9;obtain⟨A6,c6,rfl,I6,_⟩:=Inputs.of_own O9;have L6:Lies (w.heap.size+2) wn.heap.size A6:=fun k off e=>by
       subst e;have:=O9.lt k rfl;exact⟨by omega,this.2⟩
      have h6g:∀ k off,A6=some ⟨k,off,none⟩->k≠g:=fun k off e=>by
       subst e;have hx:=X.out.lt;rcases h9 with e | e
       . have h:k=g7:=Option.some.inj e; omega
       . have h:k=_:=Option.some.inj e; omega
      replace I6:=hid I6;replace P:=P.grown G9 (fun e=>by have h:g7=w.heap.size:=Option.some.inj e; omega);replace R:=hid (R.out.grown G9 (fun e=>by have h:g7=w.heap.size+1:=Option.some.inj e; omega));replace X:=hid (X.out.grown G9 (fun e=>hg7g (Option.some.inj e)));replace B:=hid (B.out.grown G9 B.out.size (fun k e=>by have h:g7=k:=Option.some.inj e; omega));clear O9 G9 h9 O7 hHeld;refine hK.out _ _ P (fun hHeld=>?_);clear hK K
      try simp only[Act.put,sx]
      refine wpAnyH_ready (rs:=[12]) (by kernel_rfl) (by simp) ?_;apply AllReadyH.cons rfl ?_ AllReadyH.nil;intro K hK;go_simp
      go_at_call 83
      refine(H.out _ B.out).mono ?_;rintro e wn ⟨⟨E6,cE,rfl,IE,LE⟩,BB⟩;have hEg:∀ k off,E6=some ⟨k,off,none⟩->k≠g:=fun k off e=>by have:=(LE k off e).1; have:=X.out.lt; omega
      replace LE:Lies (w.heap.size+2) wn.heap.size E6:=fun k off e=>⟨by have:=(LE k off e).1; have:=R.out.lt; omega,(LE k off e).2⟩;replace IE:=hid IE;replace P:=P.step BB;replace R:=hid (R.out.step BB);replace I6:=hid (I6.out.step BB);replace L6:=L6.up (BB).size;replace X:=hid (X.out.step BB);replace B:=hid (Aa B.out BB);clear BB;clear hHeld;go_wp2_with fail;refine hK.out _ _ P (fun hHeld=>?_);clear hK K
      try simp only[Act.put,sx]
      refine tl 13 ?_ ?_ hHeld ?_;rotate_left
      . intro w hSw
        try dsimp only at hSw
        go_simp
        all_goals with_reducible rfl
      try simp only[Act.put,sx]
      refine wpAnyH_ready (rs:=[15]) (by kernel_rfl) (by simp) ?_;apply AllReadyH.cons rfl ?_ AllReadyH.nil;intro K hK;dsimp only[List.getElem_toArray,List.getElem_cons_succ,List.getElem_cons_zero];rw[if_pos (by rfl)];refine Ao 26 (.tmp 10) (.tmp 39) rfl g rfl ((AR L.i p (max (L.score xs N) 0) A6 N c6 E6 (rhs L xs N).length cE 0)) rfl _ X.out (by simp) Ae rfl ?_;intro wZ KZ XZ;replace P:=P.kept KZ (by omega);replace R:=hid (R.out.kept KZ (by omega));replace I6:=hid (I6.out.kept KZ (fun hn k off e=>h6g k off e));replace IE:=hid (Ints.keptX IE.out KZ (fun hn k off e=>hEg k off e));replace L6:=L6.up KZ.size;replace LE:=LE.up KZ.size
      replace B:=hid (B.out.trans (KZ.below B.out.size (by omega)));clear KZ hHeld;refine hK.out _ _ P (fun hHeld=>?_);clear hK K
      try simp only[Act.put,sx]
      refine wpAnyH_done (by kernel_rfl) ?_ _;go_wp2_with fail
      go_meet
      case rel=>exact⟨g,A6,c6,E6,cE,rfl,hgR,XZ,⟨L6,LE⟩,⟨h6g,hEg⟩,I6.out,IE.out,R.out,B.out⟩
  . skip
    dsimp only[List.getElem_toArray,List.getElem_cons_succ,List.getElem_cons_zero];rw[if_pos (by rfl)];refine Bc rfl ?_;intro g7 wn BB hg7 O7;replace O7:=hid O7;have hg7R:w.heap.size+1<g7:=by have:=R.out.lt; omega
    replace P:=P.step BB;replace R:=hid (R.out.step BB);replace B:=hid (Aa B.out BB);clear BB hHeld;refine hK.out _ _ P (fun hHeld=>?_);clear hK K
    try simp only[Act.put,sx]
    refine wpAnyH_ready (rs:=[5,14]) (by kernel_rfl) (by simp) ?_;refine(AllReadyH.cons (o:=_) rfl (fun K hK=>?_) (AllReadyH.cons (o:=_) rfl (fun K hK=>?_) AllReadyH.nil))
    . skip
      go_simp
      go_at_call 82
      refine(S.out _ B.out).mono ?_;rintro e wn ⟨rfl,BB⟩;replace P:=P.step BB;replace R:=hid (R.out.step BB);replace O7:=hid (As O7.out BB);replace B:=hid (Aa B.out BB);clear BB;clear hHeld;go_wp2_with fail;refine hK.out _ _ P (fun hHeld=>?_);clear hK K
      try simp only[Act.put,sx]
      refine tl 6 ?_ ?_ hHeld ?_;rotate_left
      . intro w hSw
        try dsimp only at hSw
        go_simp
        all_goals with_reducible rfl
      try simp only[Act.put,sx]
      refine wpAnyH_ready (rs:=[9,14]) (by kernel_rfl) (by simp) ?_;refine(AllReadyH.cons (o:=_) rfl (fun K hK=>?_) (AllReadyH.cons (o:=_) rfl (fun K hK=>?_) AllReadyH.nil))
      . skip
        dsimp only[List.getElem_toArray,List.getElem_cons_succ,List.getElem_cons_zero];rw[if_pos (by rfl)];refine AJ (.tmp 33) (.tmp 34) rfl g7 (Value.slice (some (⟨g7,0,none⟩:Addr)) 0 0) 0 [] rfl O7.out D N cc xs rfl (Y.out.step B.out) (by omega) (Nat.le_of_lt (O7.out.lt g7 rfl).2) ?_;intro v9 wn O9 G9 h9;rw[Nat.zero_add,List.nil_append] at O9;obtain⟨A6,c6,rfl,I6,_⟩:=Inputs.of_own O9;have L6:Lies (w.heap.size+2) wn.heap.size A6:=fun k off e=>by
         subst e;have:=O9.lt k rfl;exact⟨by omega,this.2⟩
        replace I6:=hid I6;replace P:=P.grown G9 (fun e=>by have h:g7=w.heap.size:=Option.some.inj e; omega);replace R:=hid (R.out.grown G9 (fun e=>by have h:g7=w.heap.size+1:=Option.some.inj e; omega));replace B:=hid (B.out.grown G9 B.out.size (fun k e=>by have h:g7=k:=Option.some.inj e; omega));clear O9 G9 h9 O7 hHeld;refine hK.out _ _ P (fun hHeld=>?_);clear hK K
        try simp only[Act.put,sx]
        refine wpAnyH_ready (rs:=[12,14]) (by kernel_rfl) (by simp) ?_;refine(AllReadyH.cons (o:=_) rfl (fun K hK=>?_) (AllReadyH.cons (o:=_) rfl (fun K hK=>?_) AllReadyH.nil))
        . skip
          go_simp
          go_at_call 83
          refine(H.out _ B.out).mono ?_;rintro e wn ⟨⟨E6,cE,rfl,IE,LE⟩,BB⟩;replace LE:Lies (w.heap.size+2) wn.heap.size E6:=fun k off e=>⟨by have:=(LE k off e).1; have:=R.out.lt; omega,(LE k off e).2⟩;replace IE:=hid IE;replace P:=P.step BB;replace R:=hid (R.out.step BB);replace I6:=hid (I6.out.step BB);replace L6:=L6.up (BB).size;replace B:=hid (Aa B.out BB);clear BB;clear hHeld;go_wp2_with fail;refine hK.out _ _ P (fun hHeld=>?_);clear hK K
          try simp only[Act.put,sx]
          refine tl 13 ?_ ?_ hHeld ?_;rotate_left
          . intro w hSw
            try dsimp only at hSw
            go_simp
            all_goals with_reducible rfl
          try simp only[Act.put,sx]
          refine wpAnyH_ready (rs:=[14]) (by kernel_rfl) (by simp) ?_;apply AllReadyH.cons rfl ?_ AllReadyH.nil;intro K hK;dsimp only[List.getElem_toArray,List.getElem_cons_succ,List.getElem_cons_zero];rw[if_pos (by rfl)];refine AG rfl ?_;intro g wn BB hg X;have hgR:w.heap.size+1<g:=by have:=R.out.lt; omega
          replace X:=hid X;have h6g:∀ k off,A6=some ⟨k,off,none⟩->k≠g:=fun k off e=>by have:=(L6 k off e).2; omega
          have hEg:∀ k off,E6=some ⟨k,off,none⟩->k≠g:=fun k off e=>by have:=(LE k off e).2; omega
          replace P:=P.step BB;replace R:=hid (R.out.step BB);replace I6:=hid (I6.out.step BB);replace L6:=L6.up (BB).size;replace IE:=hid (IE.out.step BB);replace LE:=LE.up (BB).size;replace B:=hid (Aa B.out BB);clear BB hHeld;refine hK.out _ _ P (fun hHeld=>?_);clear hK K
          try simp only[Act.put,sx]
          refine wpAnyH_ready (rs:=[15]) (by kernel_rfl) (by simp) ?_;apply AllReadyH.cons rfl ?_ AllReadyH.nil;intro K hK;dsimp only[List.getElem_toArray,List.getElem_cons_succ,List.getElem_cons_zero];rw[if_pos (by rfl)];refine Ao 26 (.tmp 10) (.tmp 39) rfl g rfl ((AR L.i p (max (L.score xs N) 0) A6 N c6 E6 (rhs L xs N).length cE 0)) rfl _ X.out (by simp) Ae rfl ?_;intro wZ KZ XZ;replace P:=P.kept KZ (by omega);replace R:=hid (R.out.kept KZ (by omega));replace I6:=hid (I6.out.kept KZ (fun hn k off e=>h6g k off e));replace IE:=hid (Ints.keptX IE.out KZ (fun hn k off e=>hEg k off e));replace L6:=L6.up KZ.size;replace LE:=LE.up KZ.size
          replace B:=hid (B.out.trans (KZ.below B.out.size (by omega)));clear KZ hHeld;refine hK.out _ _ P (fun hHeld=>?_);clear hK K
          try simp only[Act.put,sx]
          refine wpAnyH_done (by kernel_rfl) ?_ _;go_wp2_with fail
          go_meet
          case rel=>exact⟨g,A6,c6,E6,cE,rfl,hgR,XZ,⟨L6,LE⟩,⟨h6g,hEg⟩,I6.out,IE.out,R.out,B.out⟩
        . skip
          dsimp only[List.getElem_toArray,List.getElem_cons_succ,List.getElem_cons_zero];rw[if_pos (by rfl)];refine AG rfl ?_;intro g wn BB hg X;have hgR:w.heap.size+1<g:=by have:=R.out.lt; omega
          replace X:=hid X;have h6g:∀ k off,A6=some ⟨k,off,none⟩->k≠g:=fun k off e=>by have:=(L6 k off e).2; omega
          replace P:=P.step BB;replace R:=hid (R.out.step BB);replace I6:=hid (I6.out.step BB);replace L6:=L6.up (BB).size;replace B:=hid (Aa B.out BB);clear BB hHeld;refine hK.out _ _ P (fun hHeld=>?_);clear hK K
          try simp only[Act.put,sx]
          refine wpAnyH_ready (rs:=[12]) (by kernel_rfl) (by simp) ?_;apply AllReadyH.cons rfl ?_ AllReadyH.nil;intro K hK;go_simp
          go_at_call 83
          refine(H.out _ B.out).mono ?_;rintro e wn ⟨⟨E6,cE,rfl,IE,LE⟩,BB⟩;have hEg:∀ k off,E6=some ⟨k,off,none⟩->k≠g:=fun k off e=>by have:=(LE k off e).1; have:=X.out.lt; omega
          replace LE:Lies (w.heap.size+2) wn.heap.size E6:=fun k off e=>⟨by have:=(LE k off e).1; have:=R.out.lt; omega,(LE k off e).2⟩;replace IE:=hid IE;replace P:=P.step BB;replace R:=hid (R.out.step BB);replace I6:=hid (I6.out.step BB);replace L6:=L6.up (BB).size;replace X:=hid (X.out.step BB);replace B:=hid (Aa B.out BB);clear BB;clear hHeld;go_wp2_with fail;refine hK.out _ _ P (fun hHeld=>?_);clear hK K
          try simp only[Act.put,sx]
          refine tl 13 ?_ ?_ hHeld ?_;rotate_left
          . intro w hSw
            try dsimp only at hSw
            go_simp
            all_goals with_reducible rfl
          try simp only[Act.put,sx]
          refine wpAnyH_ready (rs:=[15]) (by kernel_rfl) (by simp) ?_;apply AllReadyH.cons rfl ?_ AllReadyH.nil;intro K hK;dsimp only[List.getElem_toArray,List.getElem_cons_succ,List.getElem_cons_zero];rw[if_pos (by rfl)];refine Ao 26 (.tmp 10) (.tmp 39) rfl g rfl ((AR L.i p (max (L.score xs N) 0) A6 N c6 E6 (rhs L xs N).length cE 0)) rfl _ X.out (by simp) Ae rfl ?_;intro wZ KZ XZ;replace P:=P.kept KZ (by omega);replace R:=hid (R.out.kept KZ (by omega));replace I6:=hid (I6.out.kept KZ (fun hn k off e=>h6g k off e));replace IE:=hid (Ints.keptX IE.out KZ (fun hn k off e=>hEg k off e));replace L6:=L6.up KZ.size;replace LE:=LE.up KZ.size
          replace B:=hid (B.out.trans (KZ.below B.out.size (by omega)));clear KZ hHeld;refine hK.out _ _ P (fun hHeld=>?_);clear hK K
          try simp only[Act.put,sx]
          refine wpAnyH_done (by kernel_rfl) ?_ _;go_wp2_with fail
          go_meet
          case rel=>exact⟨g,A6,c6,E6,cE,rfl,hgR,XZ,⟨L6,LE⟩,⟨h6g,hEg⟩,I6.out,IE.out,R.out,B.out⟩
      . skip
        dsimp only[List.getElem_toArray,List.getElem_cons_succ,List.getElem_cons_zero];rw[if_pos (by rfl)];refine AG rfl ?_;intro g wn BB hg X;have hgR:w.heap.size+1<g:=by have:=R.out.lt; omega
        replace X:=hid X;have hg7g:g7≠g:=by have:=(O7.out.lt g7 rfl).2; omega
        replace P:=P.step BB;replace R:=hid (R.out.step BB);replace O7:=hid (As O7.out BB);replace B:=hid (Aa B.out BB);clear BB hHeld;refine hK.out _ _ P (fun hHeld=>?_);clear hK K
        try simp only[Act.put,sx]
        refine wpAnyH_ready (rs:=[9]) (by kernel_rfl) (by simp) ?_;apply AllReadyH.cons rfl ?_ AllReadyH.nil;intro K hK;dsimp only[List.getElem_toArray,List.getElem_cons_succ,List.getElem_cons_zero];rw[if_pos (by rfl)];refine AJ (.tmp 33) (.tmp 34) rfl g7 (Value.slice (some (⟨g7,0,none⟩:Addr)) 0 0) 0 [] rfl O7.out D N cc xs rfl (Y.out.step B.out) (by omega) (Nat.le_of_lt (O7.out.lt g7 rfl).2) ?_;intro v9 wn O9 G9 h9;rw[Nat.zero_add,List.nil_append] at O9;obtain⟨A6,c6,rfl,I6,_⟩:=Inputs.of_own O9;have L6:Lies (w.heap.size+2) wn.heap.size A6:=fun k off e=>by
         subst e;have:=O9.lt k rfl;exact⟨by omega,this.2⟩
        have h6g:∀ k off,A6=some ⟨k,off,none⟩->k≠g:=fun k off e=>by
         subst e;have hx:=X.out.lt;rcases h9 with e | e
         . have h:k=g7:=Option.some.inj e; omega
         . have h:k=_:=Option.some.inj e; omega
        replace I6:=hid I6;replace P:=P.grown G9 (fun e=>by have h:g7=w.heap.size:=Option.some.inj e; omega);replace R:=hid (R.out.grown G9 (fun e=>by have h:g7=w.heap.size+1:=Option.some.inj e; omega));replace X:=hid (X.out.grown G9 (fun e=>hg7g (Option.some.inj e)));replace B:=hid (B.out.grown G9 B.out.size (fun k e=>by have h:g7=k:=Option.some.inj e; omega));clear O9 G9 h9 O7 hHeld;refine hK.out _ _ P (fun hHeld=>?_);clear hK K
        try simp only[Act.put,sx]
        refine wpAnyH_ready (rs:=[12]) (by kernel_rfl) (by simp) ?_;apply AllReadyH.cons rfl ?_ AllReadyH.nil;intro K hK;go_simp
        go_at_call 83
        refine(H.out _ B.out).mono ?_;rintro e wn ⟨⟨E6,cE,rfl,IE,LE⟩,BB⟩;have hEg:∀ k off,E6=some ⟨k,off,none⟩->k≠g:=fun k off e=>by have:=(LE k off e).1; have:=X.out.lt; omega
        replace LE:Lies (w.heap.size+2) wn.heap.size E6:=fun k off e=>⟨by have:=(LE k off e).1; have:=R.out.lt; omega,(LE k off e).2⟩;replace IE:=hid IE;replace P:=P.step BB;replace R:=hid (R.out.step BB);replace I6:=hid (I6.out.step BB);replace L6:=L6.up (BB).size;replace X:=hid (X.out.step BB);replace B:=hid (Aa B.out BB);clear BB;clear hHeld;go_wp2_with fail;refine hK.out _ _ P (fun hHeld=>?_);clear hK K
        try simp only[Act.put,sx]
        refine tl 13 ?_ ?_ hHeld ?_;rotate_left
        . intro w hSw
          try dsimp only at hSw
          go_simp
          all_goals with_reducible rfl
        try simp only[Act.put,sx]
        refine wpAnyH_ready (rs:=[15]) (by kernel_rfl) (by simp) ?_;apply AllReadyH.cons rfl ?_ AllReadyH.nil;intro K hK;dsimp only[List.getElem_toArray,List.getElem_cons_succ,List.getElem_cons_zero];rw[if_pos (by rfl)];refine Ao 26 (.tmp 10) (.tmp 39) rfl g rfl ((AR L.i p (max (L.score xs N) 0) A6 N c6 E6 (rhs L xs N).length cE 0)) rfl _ X.out (by simp) Ae rfl ?_;intro wZ KZ XZ;replace P:=P.kept KZ (by omega);replace R:=hid (R.out.kept KZ (by omega));replace I6:=hid (I6.out.kept KZ (fun hn k off e=>h6g k off e));replace IE:=hid (Ints.keptX IE.out KZ (fun hn k off e=>hEg k off e));replace L6:=L6.up KZ.size;replace LE:=LE.up KZ.size
        replace B:=hid (B.out.trans (KZ.below B.out.size (by omega)));clear KZ hHeld;refine hK.out _ _ P (fun hHeld=>?_);clear hK K
        try simp only[Act.put,sx]
        refine wpAnyH_done (by kernel_rfl) ?_ _;go_wp2_with fail
        go_meet
        case rel=>exact⟨g,A6,c6,E6,cE,rfl,hgR,XZ,⟨L6,LE⟩,⟨h6g,hEg⟩,I6.out,IE.out,R.out,B.out⟩
    . skip
      dsimp only[List.getElem_toArray,List.getElem_cons_succ,List.getElem_cons_zero];rw[if_pos (by rfl)];refine AG rfl ?_;intro g wn BB hg X;have hgR:w.heap.size+1<g:=by have:=R.out.lt; omega
      replace X:=hid X;have hg7g:g7≠g:=by have:=(O7.out.lt g7 rfl).2; omega
      replace P:=P.step BB;replace R:=hid (R.out.step BB);replace O7:=hid (As O7.out BB);replace B:=hid (Aa B.out BB);clear BB hHeld;refine hK.out _ _ P (fun hHeld=>?_);clear hK K
      try simp only[Act.put,sx]
      refine wpAnyH_ready (rs:=[5]) (by kernel_rfl) (by simp) ?_;apply AllReadyH.cons rfl ?_ AllReadyH.nil;intro K hK;go_simp
      go_at_call 82
      refine(S.out _ B.out).mono ?_;rintro e wn ⟨rfl,BB⟩;replace P:=P.step BB;replace R:=hid (R.out.step BB);replace O7:=hid (As O7.out BB);replace X:=hid (X.out.step BB);replace B:=hid (Aa B.out BB);clear BB;clear hHeld;go_wp2_with fail;refine hK.out _ _ P (fun hHeld=>?_);clear hK K
      try simp only[Act.put,sx]
      refine tl 6 ?_ ?_ hHeld ?_;rotate_left
      . intro w hSw
        try dsimp only at hSw
        go_simp
        all_goals with_reducible rfl
      try simp only[Act.put,sx]
      refine wpAnyH_ready (rs:=[9]) (by kernel_rfl) (by simp) ?_;apply AllReadyH.cons rfl ?_ AllReadyH.nil;intro K hK;dsimp only[List.getElem_toArray,List.getElem_cons_succ,List.getElem_cons_zero];rw[if_pos (by rfl)];refine AJ (.tmp 33) (.tmp 34) rfl g7 (Value.slice (some (⟨g7,0,none⟩:Addr)) 0 0) 0 [] rfl O7.out D N cc xs rfl (Y.out.step B.out) (by omega) (Nat.le_of_lt (O7.out.lt g7 rfl).2) ?_;intro v9 wn O9 G9 h9;rw[Nat.zero_add,List.nil_append] at O9;obtain⟨A6,c6,rfl,I6,_⟩:=Inputs.of_own O9;have L6:Lies (w.heap.size+2) wn.heap.size A6:=fun k off e=>by
       subst e;have:=O9.lt k rfl;exact⟨by omega,this.2⟩
      have h6g:∀ k off,A6=some ⟨k,off,none⟩->k≠g:=fun k off e=>by
       subst e;have hx:=X.out.lt;rcases h9 with e | e
       . have h:k=g7:=Option.some.inj e; omega
       . have h:k=_:=Option.some.inj e; omega
      replace I6:=hid I6;replace P:=P.grown G9 (fun e=>by have h:g7=w.heap.size:=Option.some.inj e; omega);replace R:=hid (R.out.grown G9 (fun e=>by have h:g7=w.heap.size+1:=Option.some.inj e; omega));replace X:=hid (X.out.grown G9 (fun e=>hg7g (Option.some.inj e)));replace B:=hid (B.out.grown G9 B.out.size (fun k e=>by have h:g7=k:=Option.some.inj e; omega));clear O9 G9 h9 O7 hHeld;refine hK.out _ _ P (fun hHeld=>?_);clear hK K
      try simp only[Act.put,sx]
      refine wpAnyH_ready (rs:=[12]) (by kernel_rfl) (by simp) ?_;apply AllReadyH.cons rfl ?_ AllReadyH.nil;intro K hK;go_simp
      go_at_call 83
      refine(H.out _ B.out).mono ?_;rintro e wn ⟨⟨E6,cE,rfl,IE,LE⟩,BB⟩;have hEg:∀ k off,E6=some ⟨k,off,none⟩->k≠g:=fun k off e=>by have:=(LE k off e).1; have:=X.out.lt; omega
      replace LE:Lies (w.heap.size+2) wn.heap.size E6:=fun k off e=>⟨by have:=(LE k off e).1; have:=R.out.lt; omega,(LE k off e).2⟩;replace IE:=hid IE;replace P:=P.step BB;replace R:=hid (R.out.step BB);replace I6:=hid (I6.out.step BB);replace L6:=L6.up (BB).size;replace X:=hid (X.out.step BB);replace B:=hid (Aa B.out BB);clear BB;clear hHeld;go_wp2_with fail;refine hK.out _ _ P (fun hHeld=>?_);clear hK K
      try simp only[Act.put,sx]
      refine tl 13 ?_ ?_ hHeld ?_;rotate_left
      . intro w hSw
        try dsimp only at hSw
        go_simp
        all_goals with_reducible rfl
      try simp only[Act.put,sx]
      refine wpAnyH_ready (rs:=[15]) (by kernel_rfl) (by simp) ?_;apply AllReadyH.cons rfl ?_ AllReadyH.nil;intro K hK;dsimp only[List.getElem_toArray,List.getElem_cons_succ,List.getElem_cons_zero];rw[if_pos (by rfl)];refine Ao 26 (.tmp 10) (.tmp 39) rfl g rfl ((AR L.i p (max (L.score xs N) 0) A6 N c6 E6 (rhs L xs N).length cE 0)) rfl _ X.out (by simp) Ae rfl ?_;intro wZ KZ XZ;replace P:=P.kept KZ (by omega);replace R:=hid (R.out.kept KZ (by omega));replace I6:=hid (I6.out.kept KZ (fun hn k off e=>h6g k off e));replace IE:=hid (Ints.keptX IE.out KZ (fun hn k off e=>hEg k off e));replace L6:=L6.up KZ.size;replace LE:=LE.up KZ.size
      replace B:=hid (B.out.trans (KZ.below B.out.size (by omega)));clear KZ hHeld;refine hK.out _ _ P (fun hHeld=>?_);clear hK K
      try simp only[Act.put,sx]
      refine wpAnyH_done (by kernel_rfl) ?_ _;go_wp2_with fail
      go_meet
      case rel=>exact⟨g,A6,c6,E6,cE,rfl,hgR,XZ,⟨L6,LE⟩,⟨h6g,hEg⟩,I6.out,IE.out,R.out,B.out⟩
  . skip
    dsimp only[List.getElem_toArray,List.getElem_cons_succ,List.getElem_cons_zero];rw[if_pos (by rfl)];refine AG rfl ?_;intro g wn BB hg X;have hgR:w.heap.size+1<g:=by have:=R.out.lt; omega
    replace X:=hid X;replace P:=P.step BB;replace R:=hid (R.out.step BB);replace B:=hid (Aa B.out BB);clear BB hHeld;refine hK.out _ _ P (fun hHeld=>?_);clear hK K
    try simp only[Act.put,sx]
    refine wpAnyH_ready (rs:=[5,7]) (by kernel_rfl) (by simp) ?_;refine(AllReadyH.cons (o:=_) rfl (fun K hK=>?_) (AllReadyH.cons (o:=_) rfl (fun K hK=>?_) AllReadyH.nil))
    . skip
      go_simp
      go_at_call 82
      refine(S.out _ B.out).mono ?_;rintro e wn ⟨rfl,BB⟩;replace P:=P.step BB;replace R:=hid (R.out.step BB);replace X:=hid (X.out.step BB);replace B:=hid (Aa B.out BB);clear BB;clear hHeld;go_wp2_with fail;refine hK.out _ _ P (fun hHeld=>?_);clear hK K
      try simp only[Act.put,sx]
      refine tl 6 ?_ ?_ hHeld ?_;rotate_left
      . intro w hSw
        try dsimp only at hSw
        go_simp
        all_goals with_reducible rfl
      try simp only[Act.put,sx]
      refine wpAnyH_ready (rs:=[7]) (by kernel_rfl) (by simp) ?_;apply AllReadyH.cons rfl ?_ AllReadyH.nil;intro K hK;dsimp only[List.getElem_toArray,List.getElem_cons_succ,List.getElem_cons_zero];rw[if_pos (by rfl)];refine Bc rfl ?_;intro g7 wn BB hg7 O7;replace O7:=hid O7;have hg7R:w.heap.size+1<g7:=by have:=R.out.lt; omega
      have hg7g:g7≠g:=by have:=X.out.lt; omega
      replace P:=P.step BB;replace R:=hid (R.out.step BB);replace X:=hid (X.out.step BB);replace B:=hid (Aa B.out BB);clear BB hHeld;refine hK.out _ _ P (fun hHeld=>?_);clear hK K
      try simp only[Act.put,sx]
      refine wpAnyH_ready (rs:=[9]) (by kernel_rfl) (by simp) ?_;apply AllReadyH.cons rfl ?_ AllReadyH.nil;intro K hK;dsimp only[List.getElem_toArray,List.getElem_cons_succ,List.getElem_cons_zero];rw[if_pos (by rfl)];refine AJ (.tmp 33) (.tmp 34) rfl g7 (Value.slice (some (⟨g7,0,none⟩:Addr)) 0 0) 0 [] rfl O7.out D N cc xs rfl (Y.out.step B.out) (by omega) (Nat.le_of_lt (O7.out.lt g7 rfl).2) ?_;intro v9 wn O9 G9 h9;rw[Nat.zero_add,List.nil_append] at O9;obtain⟨A6,c6,rfl,I6,_⟩:=Inputs.of_own O9;have L6:Lies (w.heap.size+2) wn.heap.size A6:=fun k off e=>by
       subst e;have:=O9.lt k rfl;exact⟨by omega,this.2⟩
      have h6g:∀ k off,A6=some ⟨k,off,none⟩->k≠g:=fun k off e=>by
       subst e;have hx:=X.out.lt;rcases h9 with e | e
       . have h:k=g7:=Option.some.inj e; omega
       . have h:k=_:=Option.some.inj e; omega
      replace I6:=hid I6;replace P:=P.grown G9 (fun e=>by have h:g7=w.heap.size:=Option.some.inj e; omega);replace R:=hid (R.out.grown G9 (fun e=>by have h:g7=w.heap.size+1:=Option.some.inj e; omega));replace X:=hid (X.out.grown G9 (fun e=>hg7g (Option.some.inj e)));replace B:=hid (B.out.grown G9 B.out.size (fun k e=>by have h:g7=k:=Option.some.inj e; omega));clear O9 G9 h9 O7 hHeld;refine hK.out _ _ P (fun hHeld=>?_);clear hK K
      try simp only[Act.put,sx]
      refine wpAnyH_ready (rs:=[12]) (by kernel_rfl) (by simp) ?_;apply AllReadyH.cons rfl ?_ AllReadyH.nil;intro K hK;go_simp
      go_at_call 83
      refine(H.out _ B.out).mono ?_;rintro e wn ⟨⟨E6,cE,rfl,IE,LE⟩,BB⟩;have hEg:∀ k off,E6=some ⟨k,off,none⟩->k≠g:=fun k off e=>by have:=(LE k off e).1; have:=X.out.lt; omega
      replace LE:Lies (w.heap.size+2) wn.heap.size E6:=fun k off e=>⟨by have:=(LE k off e).1; have:=R.out.lt; omega,(LE k off e).2⟩;replace IE:=hid IE;replace P:=P.step BB;replace R:=hid (R.out.step BB);replace I6:=hid (I6.out.step BB);replace L6:=L6.up (BB).size;replace X:=hid (X.out.step BB);replace B:=hid (Aa B.out BB);clear BB;clear hHeld;go_wp2_with fail;refine hK.out _ _ P (fun hHeld=>?_);clear hK K
      try simp only[Act.put,sx]
      refine tl 13 ?_ ?_ hHeld ?_;rotate_left
      . intro w hSw
        try dsimp only at hSw
        go_simp
        all_goals with_reducible rfl
      try simp only[Act.put,sx]
      refine wpAnyH_ready (rs:=[15]) (by kernel_rfl) (by simp) ?_;apply AllReadyH.cons rfl ?_ AllReadyH.nil;intro K hK;dsimp only[List.getElem_toArray,List.getElem_cons_succ,List.getElem_cons_zero];rw[if_pos (by rfl)];refine Ao 26 (.tmp 10) (.tmp 39) rfl g rfl ((AR L.i p (max (L.score xs N) 0) A6 N c6 E6 (rhs L xs N).length cE 0)) rfl _ X.out (by simp) Ae rfl ?_;intro wZ KZ XZ;replace P:=P.kept KZ (by omega);replace R:=hid (R.out.kept KZ (by omega));replace I6:=hid (I6.out.kept KZ (fun hn k off e=>h6g k off e));replace IE:=hid (Ints.keptX IE.out KZ (fun hn k off e=>hEg k off e));replace L6:=L6.up KZ.size;replace LE:=LE.up KZ.size
      replace B:=hid (B.out.trans (KZ.below B.out.size (by omega)));clear KZ hHeld;refine hK.out _ _ P (fun hHeld=>?_);clear hK K
      try simp only[Act.put,sx]
      refine wpAnyH_done (by kernel_rfl) ?_ _;go_wp2_with fail
      go_meet
      case rel=>exact⟨g,A6,c6,E6,cE,rfl,hgR,XZ,⟨L6,LE⟩,⟨h6g,hEg⟩,I6.out,IE.out,R.out,B.out⟩
    . skip
      dsimp only[List.getElem_toArray,List.getElem_cons_succ,List.getElem_cons_zero];rw[if_pos (by rfl)];refine Bc rfl ?_;intro g7 wn BB hg7 O7;replace O7:=hid O7;have hg7R:w.heap.size+1<g7:=by have:=R.out.lt; omega
      have hg7g:g7≠g:=by have:=X.out.lt; omega
      replace P:=P.step BB;replace R:=hid (R.out.step BB);replace X:=hid (X.out.step BB);replace B:=hid (Aa B.out BB);clear BB hHeld;refine hK.out _ _ P (fun hHeld=>?_);clear hK K
      try simp only[Act.put,sx]
      refine wpAnyH_ready (rs:=[5]) (by kernel_rfl) (by simp) ?_;apply AllReadyH.cons rfl ?_ AllReadyH.nil;intro K hK;go_simp
      go_at_call 82
      refine(S.out _ B.out).mono ?_;rintro e wn ⟨rfl,BB⟩;replace P:=P.step BB;replace R:=hid (R.out.step BB);replace O7:=hid (As O7.out BB);replace X:=hid (X.out.step BB);replace B:=hid (Aa B.out BB);clear BB;clear hHeld;go_wp2_with fail;refine hK.out _ _ P (fun hHeld=>?_);clear hK K
      try simp only[Act.put,sx]
      refine tl 6 ?_ ?_ hHeld ?_;rotate_left
      . intro w hSw
        try dsimp only at hSw
        go_simp
        all_goals with_reducible rfl
      try simp only[Act.put,sx]
      refine wpAnyH_ready (rs:=[9]) (by kernel_rfl) (by simp) ?_;apply AllReadyH.cons rfl ?_ AllReadyH.nil;intro K hK;dsimp only[List.getElem_toArray,List.getElem_cons_succ,List.getElem_cons_zero];rw[if_pos (by rfl)];refine AJ (.tmp 33) (.tmp 34) rfl g7 (Value.slice (some (⟨g7,0,none⟩:Addr)) 0 0) 0 [] rfl O7.out D N cc xs rfl (Y.out.step B.out) (by omega) (Nat.le_of_lt (O7.out.lt g7 rfl).2) ?_;intro v9 wn O9 G9 h9;rw[Nat.zero_add,List.nil_append] at O9;obtain⟨A6,c6,rfl,I6,_⟩:=Inputs.of_own O9;have L6:Lies (w.heap.size+2) wn.heap.size A6:=fun k off e=>by
       subst e;have:=O9.lt k rfl;exact⟨by omega,this.2⟩
      have h6g:∀ k off,A6=some ⟨k,off,none⟩->k≠g:=fun k off e=>by
       subst e;have hx:=X.out.lt;rcases h9 with e | e
       . have h:k=g7:=Option.some.inj e; omega
       . have h:k=_:=Option.some.inj e; omega
      replace I6:=hid I6;replace P:=P.grown G9 (fun e=>by have h:g7=w.heap.size:=Option.some.inj e; omega);replace R:=hid (R.out.grown G9 (fun e=>by have h:g7=w.heap.size+1:=Option.some.inj e; omega));replace X:=hid (X.out.grown G9 (fun e=>hg7g (Option.some.inj e)));replace B:=hid (B.out.grown G9 B.out.size (fun k e=>by have h:g7=k:=Option.some.inj e; omega));clear O9 G9 h9 O7 hHeld;refine hK.out _ _ P (fun hHeld=>?_);clear hK K
      try simp only[Act.put,sx]
      refine wpAnyH_ready (rs:=[12]) (by kernel_rfl) (by simp) ?_;apply AllReadyH.cons rfl ?_ AllReadyH.nil;intro K hK;go_simp
      go_at_call 83
      refine(H.out _ B.out).mono ?_;rintro e wn ⟨⟨E6,cE,rfl,IE,LE⟩,BB⟩;have hEg:∀ k off,E6=some ⟨k,off,none⟩->k≠g:=fun k off e=>by have:=(LE k off e).1; have:=X.out.lt; omega
      replace LE:Lies (w.heap.size+2) wn.heap.size E6:=fun k off e=>⟨by have:=(LE k off e).1; have:=R.out.lt; omega,(LE k off e).2⟩;replace IE:=hid IE;replace P:=P.step BB;replace R:=hid (R.out.step BB);replace I6:=hid (I6.out.step BB);replace L6:=L6.up (BB).size;replace X:=hid (X.out.step BB);replace B:=hid (Aa B.out BB);clear BB;clear hHeld;go_wp2_with fail;refine hK.out _ _ P (fun hHeld=>?_);clear hK K
      try simp only[Act.put,sx]
      refine tl 13 ?_ ?_ hHeld ?_;rotate_left
      . intro w hSw
        try dsimp only at hSw
        go_simp
        all_goals with_reducible rfl
      try simp only[Act.put,sx]
      refine wpAnyH_ready (rs:=[15]) (by kernel_rfl) (by simp) ?_;apply AllReadyH.cons rfl ?_ AllReadyH.nil;intro K hK;dsimp only[List.getElem_toArray,List.getElem_cons_succ,List.getElem_cons_zero];rw[if_pos (by rfl)];refine Ao 26 (.tmp 10) (.tmp 39) rfl g rfl ((AR L.i p (max (L.score xs N) 0) A6 N c6 E6 (rhs L xs N).length cE 0)) rfl _ X.out (by simp) Ae rfl ?_;intro wZ KZ XZ;replace P:=P.kept KZ (by omega);replace R:=hid (R.out.kept KZ (by omega));replace I6:=hid (I6.out.kept KZ (fun hn k off e=>h6g k off e));replace IE:=hid (Ints.keptX IE.out KZ (fun hn k off e=>hEg k off e));replace L6:=L6.up KZ.size;replace LE:=LE.up KZ.size
      replace B:=hid (B.out.trans (KZ.below B.out.size (by omega)));clear KZ hHeld;refine hK.out _ _ P (fun hHeld=>?_);clear hK K
      try simp only[Act.put,sx]
      refine wpAnyH_done (by kernel_rfl) ?_ _;go_wp2_with fail
      go_meet
      case rel=>exact⟨g,A6,c6,E6,cE,rfl,hgR,XZ,⟨L6,LE⟩,⟨h6g,hEg⟩,I6.out,IE.out,R.out,B.out⟩
 case rest =>
  obtain⟨g,A6,c6,E6,cE,rfl,hgR,X,⟨L6,LE⟩,⟨h6g,hEg⟩,I6,IE,R2,B2⟩:=hcut;have hml:(rhs L xs N).length<=1000:=by
   have:(rhs L xs N).length<=N:=by unfold rhs; split<;>simp; omega
   omega
  generalize ehs:rhs L xs N=hs at *;generalize esc:max (L.score xs N) 0=sc at *;have C:=fun(W:World) (BB:Below wc.heap.size wc W)=>Kj L.i p sc A6 N c6 E6 hs.length cE 0 xs hs W (I6.step BB) (IE.step BB) hxs.out hml;replace ehs:=hid ehs;replace esc:=hid esc;replace C:=hid C;replace I6:=hid I6;replace IE:=hid IE;replace R2:=hid R2;replace B2:=hid B2;clear R P B S H I J Y hmx;go_upto_region 4 with fail;refine wp_region_lit ?_
  iterate 3 go_step
  refine Ag rfl 26 (.tmp 10) rfl g rfl (AR L.i p sc A6 N c6 E6 hs.length cE 0) X Tryz.underlying26 rfl Ae ?_;go_wp;refine(C.out _ (Ac _)).mono ?_;rintro e w5 ⟨v,rfl,O,BB⟩;obtain⟨A7,c7,rfl,I7⟩:=Ints.of_own O;replace X:=X.step BB;replace R2:=hid (R2.out.step BB);replace I6:=hid (I6.out.step BB);replace IE:=hid (IE.out.step BB);replace B2:=hid (Aa B2.out BB);have T:=Js k A7 (repL ⟨L.i,p,sc,xs,hs,0⟩).length c7 (repL ⟨L.i,p,sc,xs,hs,0⟩) w5 I7 (by simp only[repL,List.length_append,List.length_cons,List.length_nil,An,List.length_map]; omega);obtain⟨tt,htt⟩:∃ tt,tg k (repL ⟨L.i,p,sc,xs,hs,0⟩)=tt:=⟨_,rfl⟩
  rw[htt] at T;replace htt:=hid htt;replace T:=hid T;clear BB O C I7;have x5:=X.cell 5 _ rfl;have f5:=X.fr 5;have xl:=X.lt;generalize (repL ⟨L.i,p,sc,xs,hs,0⟩).length=nl at *;go_wp2_with fail;refine T.out.mono ?_;rintro e w6 ⟨rfl,rfl⟩;go_upto_region 5 with fail
  refine Aw (fun W'=>CellsAt W' g (AR L.i p sc A6 N c6 E6 hs.length cE tt)/\CellsAt W' (w.heap.size+1) Bp/\Inputs W' A6 N xs/\Ints W' E6 hs.length hs/\Below w.heap.size w W') ⟨X.set 5 (by simp) (.int .i64 tt),R2.out.far (by omega) 5 _,I6.out.kept (Gb (Kept.refl g _) 5 _) (fun hn k off e=>h6g k off e),Ints.keptX IE.out (Gb (Kept.refl g _) 5 _) (fun hn k off e=>hEg k off e),Ar B2.out g 5 _ (by omega)⟩ ?_;clear X R2 I6 IE B2 x5 f5;rintro w7 ⟨X,R2,I6,IE,B2⟩;refine wp_region_lit ?_;refine Ag rfl 26 (.tmp 10) rfl g rfl (AR L.i p sc A6 N c6 E6 hs.length cE tt) X Tryz.underlying26 rfl Ae ?_
  refine Ah rfl 26 (.tmp 8) (.tmp 45) rfl (w.heap.size+1) rfl (AR L.i p sc A6 N c6 E6 hs.length cE tt) rfl Bp R2 (by simp) Ae rfl ?_;intro w8 K8 D8;have hB:=K8.below B2.size (by omega);have I8:=I6.kept K8 (fun hn k off e=>by have:=(L6 k off e).1; omega);have J8:=Ints.keptX IE K8 (fun hn k off e=>by have:=(LE k off e).1; omega);have er:RR=some ⟨L.i,p,sc,xs,hs,tt⟩:=by
   rw[EE.out];unfold make0;dsimp only;rw[esc.out,ehs.out,htt.out]
  replace er:=hid er;replace I8:=hid I8;replace J8:=hid J8;replace B2:=hid (B2.trans hB);clear X R2 I6 IE K8 hB;go_wp2;exact bodyPost_ret (v:=.tuple #[CH L.i p sc A6 N c6 E6 hs.length cE tt,.bool true]) (Ay rfl (w.heap.size+1) rfl (AR L.i p sc A6 N c6 E6 hs.length cE tt) D8 (.bool true) rfl Tryz.underlying26 rfl Ae) rfl ⟨A6,N,c6,E6,hs.length,cE,by rw[er.out]; rfl,⟨(fun k off e=>by have:=(L6 k off e).1; omega),(fun k off e=>by have:=(LE k off e).1; omega)⟩,by rw[er.out]; exact I8.out,by rw[er.out]; exact J8.out,B2.out⟩
end Go.Proofs.YtgbiagonfbnooaaGreatDoor
