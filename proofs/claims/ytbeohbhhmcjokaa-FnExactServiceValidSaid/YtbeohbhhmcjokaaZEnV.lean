import Derived.Test.YtbeohbhhmcjokaaZEnS
import Derived.Test.YtbeohbhhmcjokaaZ0
set_option linter.all false
set_option maxRecDepth 100000
set_option maxHeartbeats 8000000
open Go.Lib
namespace Go.Proofs.Ytbeohbhhmcjokaa
open Go.RowKit
open M
def GF(w:World)(n:Nat)(xs:List En)(iv:Value)(W:World):Prop:=∃ k:Nat,k<=n/\iv=.int .i64 k/\E1 xs k=true/\Below w.heap.size w W
theorem GW(A:Option Addr)(n cap:Nat)(xs:List En)(w:World)(Y:Ents w A n xs)(hn:n<=281474976710656) :
 Calls Try.prog 54 #[.slice A n cap] w fun e w'=>e=.returned (.bool (CF xs))/\Below w.heap.size w w':=by
 have hl:=hid Y.1;have Y:=hid Y;go_enter Try.func54,Try.ntmps54;go_wp2
 go_loopw [3] (GF w n xs) (fun i _=>n-(RowKit.intOf i).toNat)
 case atStart=>exact⟨0,Nat.zero_le _,rfl,rfl,Ac w⟩
 case round =>
  obtain⟨k,hk,rfl,ha,B⟩:=hrel;by_cases hlt:k<n
  . obtain⟨b,off,hA,hb,hc⟩:=(Y.out.step B).2 (by omega);subst hA;obtain⟨z0,z1⟩:=hc k hlt;have hkl:k<xs.length:=by have:=hl.out; omega
    have hfu:=Cf (xs:=xs) (pl:=(xs.getD k ez).p) hkl rfl;have hfi:Gg xs (xs.getD k ez).p=(AG xs (xs.getD k ez).p:Int):=by rw[Gg,if_pos (by omega)]
    have eb:=fun h=>E7 hkl (h:EZ xs k=false);have et:=Cg xs k;rw[ha,Bool.true_and] at et;have B:=hid B;by_cases h0:k=0
    . have g0:decide ((0:Int)<(k:Int))=false:=decide_eq_false (by omega);have g1:decide (0<k)=false:=decide_eq_false (by omega);have g2:¬ 0<k:=by omega
      have bt:EZ xs k=(CE (xs.getD k ez)&&decide (AG xs (xs.getD k ez).p=k)):=by simp[EZ,h0]
      rw[bt] at eb et;replace h0:=hid h0;generalize xs.getD k ez=q at *;obtain⟨zp,zs⟩:=q;dsimp only at z0 z1 hfu hfi eb et;have hfi:=hid hfi;have eb:=hid eb;have et:=hid et;clear hc ha bt;cases hv:CE ⟨zp,zs⟩
      . replace hv:=hid hv;clear et;go_wp2_with fail;refine wp_region_held_drew (S:=fun w'=>(w'.cell? ⟨b,off+k*2,none⟩=some (.int .i64 zp)/\w'.cell? ⟨b,off+k*2+1,none⟩=some (.int .i64 zs))) (by kernel_rfl) ⟨z0,z1⟩ (fun hHeld=>?_);refine tl 0 ?_ ?_ hHeld ?_;rotate_left
        . intro w hSw
          try dsimp only at hSw
          go_simp
          all_goals with_reducible rfl
        try simp only[Act.put,sx]
        refine tl 1 ?_ ?_ hHeld ?_;rotate_left
        . intro w hSw
          try dsimp only at hSw
          go_simp
          all_goals with_reducible rfl
        try simp only[Act.put,sx]
        refine tl 2 ?_ ?_ hHeld ?_;rotate_left
        . intro w hSw
          try dsimp only at hSw
          go_simp
          all_goals with_reducible rfl
        try simp only[Act.put,sx]
        refine tl 3 ?_ ?_ hHeld ?_;rotate_left
        . intro w hSw;obtain⟨z0,z1⟩:=hSw;go_simp
          all_goals with_reducible rfl
        try simp only[Act.put,sx]
        refine wpAnyH_ready (rs:=[4]) (by kernel_rfl) (by simp) ?_;apply AllReadyH.cons rfl ?_ AllReadyH.nil;intro K hK;go_simp
        go_at_call 89
        refine(A8 zp zs _).mono ?_;rintro e wn ⟨rfl,Bn⟩;rw[hv.out];have hb2:b<wn.heap.size:=Nat.lt_of_lt_of_le hb (by have:=Bn.size; simpa using this);have K1:Below wr.heap.size wr wn:=(Ac wr).drew.trans Bn;replace z0:=(World.cell?_of_block (a:=⟨b,off+k*2,none⟩) (K1.block b hb)).trans z0;replace z1:=(World.cell?_of_block (a:=⟨b,off+k*2+1,none⟩) (K1.block b hb)).trans z1;have Hb1:=hid (Aa B.out K1);clear K1 Bn;clear hHeld;go_wp2_with fail;refine hK.out _ _ ⟨z0,z1⟩ (fun hHeld=>?_);clear hK K
        try simp only[Act.put,sx]
        refine tl 5 ?_ ?_ hHeld ?_;rotate_left
        . intro w hSw
          try dsimp only at hSw
          go_simp
          all_goals with_reducible rfl
        try simp only[Act.put,sx]
        refine tl 6 ?_ ?_ hHeld ?_;rotate_left
        . intro w hSw
          try dsimp only at hSw
          go_simp
          all_goals with_reducible rfl
        try simp only[Act.put,sx]
        refine wpAnyH_take (i:=7) (oi:=_) (v:=undef) rfl (by kernel_rfl) (by kernel_rfl) (by kernel_rfl) (fun _ _ _ h=>h) (Or.inr ⟨by rfl,rfl⟩) hHeld ?_
        try simp only[Act.put,sx]
        refine wpAnyH_take (i:=8) (oi:=_) (v:=undef) rfl (by kernel_rfl) (by kernel_rfl) (by kernel_rfl) (fun _ _ _ h=>h) (Or.inr ⟨by rfl,rfl⟩) hHeld ?_
        try simp only[Act.put,sx]
        refine wpAnyH_take (i:=9) (oi:=_) (v:=undef) rfl (by kernel_rfl) (by kernel_rfl) (by kernel_rfl) (fun _ _ _ h=>h) (Or.inr ⟨by rfl,rfl⟩) hHeld ?_
        try simp only[Act.put,sx]
        refine wpAnyH_take (i:=10) (oi:=_) (v:=undef) rfl (by kernel_rfl) (by kernel_rfl) (by kernel_rfl) (fun _ _ _ h=>h) (Or.inr ⟨by rfl,rfl⟩) hHeld ?_
        try simp only[Act.put,sx]
        refine wpAnyH_take (i:=11) (oi:=_) (v:=undef) rfl (by kernel_rfl) (by kernel_rfl) (by kernel_rfl) (fun _ _ _ h=>h) (Or.inr ⟨by rfl,rfl⟩) hHeld ?_
        try simp only[Act.put,sx]
        refine wpAnyH_take (i:=12) (oi:=_) (v:=undef) rfl (by kernel_rfl) (by kernel_rfl) (by kernel_rfl) (fun _ _ _ h=>h) (Or.inr ⟨by rfl,rfl⟩) hHeld ?_
        try simp only[Act.put,sx]
        refine wpAnyH_take (i:=13) (oi:=_) (v:=undef) rfl (by kernel_rfl) (by kernel_rfl) (by kernel_rfl) (fun _ _ _ h=>h) (Or.inr ⟨by rfl,rfl⟩) hHeld ?_
        try simp only[Act.put,sx]
        refine wpAnyH_take (i:=14) (oi:=_) (v:=undef) rfl (by kernel_rfl) (by kernel_rfl) (by kernel_rfl) (fun _ _ _ h=>h) (Or.inr ⟨by rfl,rfl⟩) hHeld ?_
        try simp only[Act.put,sx]
        refine wpAnyH_take (i:=15) (oi:=_) (v:=undef) rfl (by kernel_rfl) (by kernel_rfl) (by kernel_rfl) (fun _ _ _ h=>h) (Or.inr ⟨by rfl,rfl⟩) hHeld ?_
        try simp only[Act.put,sx]
        refine wpAnyH_take (i:=16) (oi:=_) (v:=undef) rfl (by kernel_rfl) (by kernel_rfl) (by kernel_rfl) (fun _ _ _ h=>h) (Or.inr ⟨by rfl,rfl⟩) hHeld ?_
        try simp only[Act.put,sx]
        refine wpAnyH_take (i:=17) (oi:=_) (v:=undef) rfl (by kernel_rfl) (by kernel_rfl) (by kernel_rfl) (fun _ _ _ h=>h) (Or.inr ⟨by rfl,rfl⟩) hHeld ?_
        try simp only[Act.put,sx]
        refine wpAnyH_take (i:=18) (oi:=_) (v:=undef) rfl (by kernel_rfl) (by kernel_rfl) (by kernel_rfl) (fun _ _ _ h=>h) (Or.inr ⟨by rfl,rfl⟩) hHeld ?_
        try simp only[Act.put,sx]
        refine wpAnyH_take (i:=19) (oi:=_) (v:=undef) rfl (by kernel_rfl) (by kernel_rfl) (by kernel_rfl) (fun _ _ _ h=>h) (Or.inr ⟨by rfl,rfl⟩) hHeld ?_
        try simp only[Act.put,sx]
        refine wpAnyH_take (i:=20) (oi:=_) (v:=undef) rfl (by kernel_rfl) (by kernel_rfl) (by kernel_rfl) (fun _ _ _ h=>h) (Or.inr ⟨by rfl,rfl⟩) hHeld ?_
        try simp only[Act.put,sx]
        refine wpAnyH_take (i:=21) (oi:=_) (v:=undef) rfl (by kernel_rfl) (by kernel_rfl) (by kernel_rfl) (fun _ _ _ h=>h) (Or.inr ⟨by rfl,rfl⟩) hHeld ?_
        try simp only[Act.put,sx]
        refine wpAnyH_take (i:=22) (oi:=_) (v:=undef) rfl (by kernel_rfl) (by kernel_rfl) (by kernel_rfl) (fun _ _ _ h=>h) (Or.inr ⟨by rfl,rfl⟩) hHeld ?_
        try simp only[Act.put,sx]
        refine tl 23 ?_ ?_ hHeld ?_;rotate_left
        . intro w hSw
          try dsimp only at hSw
          go_simp
          all_goals with_reducible rfl
        try simp only[Act.put,sx]
        refine tl 24 ?_ ?_ hHeld ?_;rotate_left
        . intro w hSw
          try dsimp only at hSw
          go_simp
          all_goals with_reducible rfl
        try simp only[Act.put,sx]
        refine wpAnyH_take (i:=25) (oi:=_) (v:=undef) rfl (by kernel_rfl) (by kernel_rfl) (by kernel_rfl) (fun _ _ _ h=>h) (Or.inr ⟨by rfl,rfl⟩) hHeld ?_
        try simp only[Act.put,sx]
        refine wpAnyH_take (i:=26) (oi:=_) (v:=undef) rfl (by kernel_rfl) (by kernel_rfl) (by kernel_rfl) (fun _ _ _ h=>h) (Or.inr ⟨by rfl,rfl⟩) hHeld ?_
        try simp only[Act.put,sx]
        refine wpAnyH_take (i:=27) (oi:=_) (v:=undef) rfl (by kernel_rfl) (by kernel_rfl) (by kernel_rfl) (fun _ _ _ h=>h) (Or.inr ⟨by rfl,rfl⟩) hHeld ?_
        try simp only[Act.put,sx]
        refine wpAnyH_take (i:=28) (oi:=_) (v:=undef) rfl (by kernel_rfl) (by kernel_rfl) (by kernel_rfl) (fun _ _ _ h=>h) (Or.inr ⟨by rfl,rfl⟩) hHeld ?_
        try simp only[Act.put,sx]
        refine wpAnyH_take (i:=29) (oi:=_) (v:=undef) rfl (by kernel_rfl) (by kernel_rfl) (by kernel_rfl) (fun _ _ _ h=>h) (Or.inr ⟨by rfl,rfl⟩) hHeld ?_
        try simp only[Act.put,sx]
        refine wpAnyH_take (i:=30) (oi:=_) (v:=undef) rfl (by kernel_rfl) (by kernel_rfl) (by kernel_rfl) (fun _ _ _ h=>h) (Or.inr ⟨by rfl,rfl⟩) hHeld ?_
        try simp only[Act.put,sx]
        refine wpAnyH_take (i:=31) (oi:=_) (v:=undef) rfl (by kernel_rfl) (by kernel_rfl) (by kernel_rfl) (fun _ _ _ h=>h) (Or.inr ⟨by rfl,rfl⟩) hHeld ?_
        try simp only[Act.put,sx]
        refine wpAnyH_take (i:=32) (oi:=_) (v:=undef) rfl (by kernel_rfl) (by kernel_rfl) (by kernel_rfl) (fun _ _ _ h=>h) (Or.inr ⟨by rfl,rfl⟩) hHeld ?_
        try simp only[Act.put,sx]
        refine wpAnyH_take (i:=33) (oi:=_) (v:=undef) rfl (by kernel_rfl) (by kernel_rfl) (by kernel_rfl) (fun _ _ _ h=>h) (Or.inr ⟨by rfl,rfl⟩) hHeld ?_
        try simp only[Act.put,sx]
        refine tl 34 ?_ ?_ hHeld ?_;rotate_left
        . intro w hSw
          try dsimp only at hSw
          go_simp
          all_goals with_reducible rfl
        try simp only[Act.put,sx]
        refine wpAnyH_done (by kernel_rfl) ?_ _;go_wp2;go_ret;exact⟨Ad (eb.out (by rw[hv.out]; rfl)).symm,Hb1.out⟩
      replace hv:=hid hv;have hdf:=hid (show decide (AG xs zp=k)=true from decide_eq_true (by have:=h0.out; omega));have et:=hid (et.out.trans (by rw[hv.out,hdf.out]; first | done | rfl));have hcmp:decide ((AG xs zp:Int)<(k:Int))=false:=decide_eq_false (by have:=h0.out; omega);have hcmp2:decide (AG xs zp<k)=false:=decide_eq_false (by have:=h0.out; omega);have hcmp3:¬ AG xs zp<k:=by have:=h0.out; omega
      clear eb;go_wp2_with fail;refine wp_region_held_drew (S:=fun w'=>(w'.cell? ⟨b,off+k*2,none⟩=some (.int .i64 zp)/\w'.cell? ⟨b,off+k*2+1,none⟩=some (.int .i64 zs))) (by kernel_rfl) ⟨z0,z1⟩ (fun hHeld=>?_);refine tl 0 ?_ ?_ hHeld ?_;rotate_left
      . intro w hSw
        try dsimp only at hSw
        go_simp
        all_goals with_reducible rfl
      try simp only[Act.put,sx]
      refine tl 1 ?_ ?_ hHeld ?_;rotate_left
      . intro w hSw
        try dsimp only at hSw
        go_simp
        all_goals with_reducible rfl
      try simp only[Act.put,sx]
      refine tl 2 ?_ ?_ hHeld ?_;rotate_left
      . intro w hSw
        try dsimp only at hSw
        go_simp
        all_goals with_reducible rfl
      try simp only[Act.put,sx]
      refine tl 3 ?_ ?_ hHeld ?_;rotate_left
      . intro w hSw;obtain⟨z0,z1⟩:=hSw;go_simp
        all_goals with_reducible rfl
      try simp only[Act.put,sx]
      refine wpAnyH_ready (rs:=[4]) (by kernel_rfl) (by simp) ?_;apply AllReadyH.cons rfl ?_ AllReadyH.nil;intro K hK;go_simp
      go_at_call 89
      refine(A8 zp zs _).mono ?_;rintro e wn ⟨rfl,Bn⟩;rw[hv.out];have hb2:b<wn.heap.size:=Nat.lt_of_lt_of_le hb (by have:=Bn.size; simpa using this);have K1:Below wr.heap.size wr wn:=(Ac wr).drew.trans Bn;replace z0:=(World.cell?_of_block (a:=⟨b,off+k*2,none⟩) (K1.block b hb)).trans z0;replace z1:=(World.cell?_of_block (a:=⟨b,off+k*2+1,none⟩) (K1.block b hb)).trans z1;have Hb1:=hid (Aa B.out K1);clear K1 Bn;clear hHeld;go_wp2_with fail;refine hK.out _ _ ⟨z0,z1⟩ (fun hHeld=>?_);clear hK K
      try simp only[Act.put,sx]
      refine tl 5 ?_ ?_ hHeld ?_;rotate_left
      . intro w hSw
        try dsimp only at hSw
        go_simp
        all_goals with_reducible rfl
      try simp only[Act.put,sx]
      refine tl 6 ?_ ?_ hHeld ?_;rotate_left
      . intro w hSw
        try dsimp only at hSw
        go_simp
        all_goals with_reducible rfl
      try simp only[Act.put,sx]
      refine tl 7 ?_ ?_ hHeld ?_;rotate_left
      . intro w hSw
        try dsimp only at hSw
        go_simp
        all_goals with_reducible rfl
      try simp only[Act.put,sx]
      refine tl 8 ?_ ?_ hHeld ?_;rotate_left
      . intro w hSw
        try dsimp only at hSw
        go_simp
        all_goals with_reducible rfl
      try simp only[Act.put,sx]
      refine tl 9 ?_ ?_ hHeld ?_;rotate_left
      . intro w hSw
        try dsimp only at hSw
        go_simp
        all_goals with_reducible rfl
      try simp only[Act.put,sx]
      refine wpAnyH_take (i:=10) (oi:=_) (v:=undef) rfl (by kernel_rfl) (by kernel_rfl) (by kernel_rfl) (fun _ _ _ h=>h) (Or.inr ⟨by rfl,rfl⟩) hHeld ?_
      try simp only[Act.put,sx]
      refine wpAnyH_take (i:=11) (oi:=_) (v:=undef) rfl (by kernel_rfl) (by kernel_rfl) (by kernel_rfl) (fun _ _ _ h=>h) (Or.inr ⟨by rfl,rfl⟩) hHeld ?_
      try simp only[Act.put,sx]
      refine wpAnyH_take (i:=12) (oi:=_) (v:=undef) rfl (by kernel_rfl) (by kernel_rfl) (by kernel_rfl) (fun _ _ _ h=>h) (Or.inr ⟨by rfl,rfl⟩) hHeld ?_
      try simp only[Act.put,sx]
      refine wpAnyH_take (i:=13) (oi:=_) (v:=undef) rfl (by kernel_rfl) (by kernel_rfl) (by kernel_rfl) (fun _ _ _ h=>h) (Or.inr ⟨by rfl,rfl⟩) hHeld ?_
      try simp only[Act.put,sx]
      refine wpAnyH_take (i:=14) (oi:=_) (v:=undef) rfl (by kernel_rfl) (by kernel_rfl) (by kernel_rfl) (fun _ _ _ h=>h) (Or.inr ⟨by rfl,rfl⟩) hHeld ?_
      try simp only[Act.put,sx]
      refine wpAnyH_take (i:=15) (oi:=_) (v:=undef) rfl (by kernel_rfl) (by kernel_rfl) (by kernel_rfl) (fun _ _ _ h=>h) (Or.inr ⟨by rfl,rfl⟩) hHeld ?_
      try simp only[Act.put,sx]
      refine wpAnyH_take (i:=16) (oi:=_) (v:=undef) rfl (by kernel_rfl) (by kernel_rfl) (by kernel_rfl) (fun _ _ _ h=>h) (Or.inr ⟨by rfl,rfl⟩) hHeld ?_
      try simp only[Act.put,sx]
      refine wpAnyH_take (i:=17) (oi:=_) (v:=undef) rfl (by kernel_rfl) (by kernel_rfl) (by kernel_rfl) (fun _ _ _ h=>h) (Or.inr ⟨by rfl,rfl⟩) hHeld ?_
      try simp only[Act.put,sx]
      refine wpAnyH_take (i:=18) (oi:=_) (v:=undef) rfl (by kernel_rfl) (by kernel_rfl) (by kernel_rfl) (fun _ _ _ h=>h) (Or.inr ⟨by rfl,rfl⟩) hHeld ?_
      try simp only[Act.put,sx]
      refine wpAnyH_take (i:=19) (oi:=_) (v:=undef) rfl (by kernel_rfl) (by kernel_rfl) (by kernel_rfl) (fun _ _ _ h=>h) (Or.inr ⟨by rfl,rfl⟩) hHeld ?_
      try simp only[Act.put,sx]
      refine wpAnyH_take (i:=20) (oi:=_) (v:=undef) rfl (by kernel_rfl) (by kernel_rfl) (by kernel_rfl) (fun _ _ _ h=>h) (Or.inr ⟨by rfl,rfl⟩) hHeld ?_
      try simp only[Act.put,sx]
      refine wpAnyH_take (i:=21) (oi:=_) (v:=undef) rfl (by kernel_rfl) (by kernel_rfl) (by kernel_rfl) (fun _ _ _ h=>h) (Or.inr ⟨by rfl,rfl⟩) hHeld ?_
      try simp only[Act.put,sx]
      refine tl 22 ?_ ?_ hHeld ?_;rotate_left
      . intro w hSw
        try dsimp only at hSw
        go_simp
        all_goals with_reducible rfl
      try simp only[Act.put,sx]
      refine tl 23 ?_ ?_ hHeld ?_;rotate_left
      . intro w hSw
        try dsimp only at hSw
        go_simp
        all_goals with_reducible rfl
      try simp only[Act.put,sx]
      refine tl 24 ?_ ?_ hHeld ?_;rotate_left
      . intro w hSw
        try dsimp only at hSw
        go_simp
        all_goals with_reducible rfl
      try simp only[Act.put,sx]
      refine tl 25 ?_ ?_ hHeld ?_;rotate_left
      . intro w hSw
        try dsimp only at hSw
        go_simp
        all_goals with_reducible rfl
      try simp only[Act.put,sx]
      refine tl 26 ?_ ?_ hHeld ?_;rotate_left
      . intro w hSw
        try dsimp only at hSw
        go_simp
        all_goals with_reducible rfl
      try simp only[Act.put,sx]
      refine tl 27 ?_ ?_ hHeld ?_;rotate_left
      . intro w hSw
        try dsimp only at hSw
        go_simp
        all_goals with_reducible rfl
      try simp only[Act.put,sx]
      refine tl 28 ?_ ?_ hHeld ?_;rotate_left
      . intro w hSw
        try dsimp only at hSw
        go_simp
        all_goals with_reducible rfl
      try simp only[Act.put,sx]
      refine tl 29 ?_ ?_ hHeld ?_;rotate_left
      . intro w hSw
        try dsimp only at hSw
        go_simp
        all_goals with_reducible rfl
      try simp only[Act.put,sx]
      refine tl 30 ?_ ?_ hHeld ?_;rotate_left
      . intro w hSw;obtain⟨z0,z1⟩:=hSw;go_simp
        all_goals with_reducible rfl
      try simp only[Act.put,sx]
      refine tl 32 ?_ ?_ hHeld ?_;rotate_left
      . intro w hSw
        try dsimp only at hSw
        go_simp
        all_goals with_reducible rfl
      try simp only[Act.put,sx]
      refine wpAnyH_ready (rs:=[31]) (by kernel_rfl) (by simp) ?_;apply AllReadyH.cons rfl ?_ AllReadyH.nil;intro K hK;go_simp
      go_at_call 90
      refine(Cm _ n cap xs zp _ (Y.out.step (by first | with_reducible exact Hb1.out | with_reducible exact Af Hb1.out)) hn).mono ?_;rintro e wm ⟨rfl,Bm⟩;rw[hfi.out];replace z0:=(World.cell?_of_block (a:=⟨b,off+k*2,none⟩) (Bm.block b hb2)).trans z0;replace z1:=(World.cell?_of_block (a:=⟨b,off+k*2+1,none⟩) (Bm.block b hb2)).trans z1;have Hc:=hid (Aa Hb1.out Bm);clear Bm;clear hHeld;go_wp2_with fail;refine hK.out _ _ ⟨z0,z1⟩ (fun hHeld=>?_);clear hK K
      try simp only[Act.put,sx]
      refine tl 33 ?_ ?_ hHeld ?_;rotate_left
      . intro w hSw
        try dsimp only at hSw
        go_simp
        all_goals with_reducible rfl
      try simp only[Act.put,sx]
      refine tl 34 ?_ ?_ hHeld ?_;rotate_left
      . intro w hSw
        try dsimp only at hSw
        go_simp
        all_goals with_reducible rfl
      try simp only[Act.put,sx]
      refine wpAnyH_done (by kernel_rfl) ?_ _;go_wp2
      go_roundw
      case rel=>exact⟨k+1,by omega,by go_num,et.out,Hc.out⟩
      case measure=>simp[RowKit.intOf]; omega
    . have g0:decide ((0:Int)<(k:Int))=true:=decide_eq_true (by omega);have g1:decide (0<k)=true:=decide_eq_true (by omega);have g2:0<k:=by omega
      have bt:EZ xs k=(CE (xs.getD k ez)&&decide ((xs.getD (k-1) ez).s<=(xs.getD k ez).s)&&decide (AG xs (xs.getD k ez).p=k)):=by simp only[EZ,h0,decide_false,Bool.false_or]
      rw[bt] at eb et;have y1:=(hc (k-1) (by omega)).c1;have hk1:IntKind.i64.wrap ((k:Int)-1)=((k-1:Nat):Int):=by rw[IntWalk.i64_in _ (by omega)]; omega
      have hk2:(k:Int)-1=((k-1:Nat):Int):=by omega
      have hk3:k-1<n:=by omega
      have hk5:IntKind.i64.wrap ((k-1:Nat):Int)=((k-1:Nat):Int):=IntWalk.i64_in _ (by omega);generalize xs.getD k ez=q at *;obtain⟨zp,zs⟩:=q;dsimp only at z0 z1 hfu hfi eb et;generalize (xs.getD (k-1) ez).s=ys at *;have hfi:=hid hfi;have eb:=hid eb;have et:=hid et;clear hc ha bt;cases hv:CE ⟨zp,zs⟩
      . replace hv:=hid hv;clear et;go_wp2_with fail;refine wp_region_held_drew (S:=fun w'=>(w'.cell? ⟨b,off+k*2,none⟩=some (.int .i64 zp)/\w'.cell? ⟨b,off+k*2+1,none⟩=some (.int .i64 zs))/\w'.cell? ⟨b,off+(k-1)*2+1,none⟩=some (.int .i64 ys)) (by kernel_rfl) ⟨⟨z0,z1⟩,y1⟩ (fun hHeld=>?_);refine tl 0 ?_ ?_ hHeld ?_;rotate_left
        . intro w hSw
          try dsimp only at hSw
          go_simp
          all_goals with_reducible rfl
        try simp only[Act.put,sx]
        refine tl 1 ?_ ?_ hHeld ?_;rotate_left
        . intro w hSw
          try dsimp only at hSw
          go_simp
          all_goals with_reducible rfl
        try simp only[Act.put,sx]
        refine tl 2 ?_ ?_ hHeld ?_;rotate_left
        . intro w hSw
          try dsimp only at hSw
          go_simp
          all_goals with_reducible rfl
        try simp only[Act.put,sx]
        refine tl 3 ?_ ?_ hHeld ?_;rotate_left
        . intro w hSw;obtain⟨⟨z0,z1⟩,y1⟩:=hSw;go_simp
          all_goals with_reducible rfl
        try simp only[Act.put,sx]
        refine wpAnyH_ready (rs:=[4]) (by kernel_rfl) (by simp) ?_;apply AllReadyH.cons rfl ?_ AllReadyH.nil;intro K hK;go_simp
        go_at_call 89
        refine(A8 zp zs _).mono ?_;rintro e wn ⟨rfl,Bn⟩;rw[hv.out];have hb2:b<wn.heap.size:=Nat.lt_of_lt_of_le hb (by have:=Bn.size; simpa using this);have K1:Below wr.heap.size wr wn:=(Ac wr).drew.trans Bn;replace z0:=(World.cell?_of_block (a:=⟨b,off+k*2,none⟩) (K1.block b hb)).trans z0;replace z1:=(World.cell?_of_block (a:=⟨b,off+k*2+1,none⟩) (K1.block b hb)).trans z1;replace y1:=(World.cell?_of_block (a:=⟨b,off+(k-1)*2+1,none⟩) (K1.block b hb)).trans y1;have Hb1:=hid (Aa B.out K1);clear K1 Bn;clear hHeld;go_wp2_with fail;refine hK.out _ _ ⟨⟨z0,z1⟩,y1⟩ (fun hHeld=>?_);clear hK K
        try simp only[Act.put,sx]
        refine tl 5 ?_ ?_ hHeld ?_;rotate_left
        . intro w hSw
          try dsimp only at hSw
          go_simp
          all_goals with_reducible rfl
        try simp only[Act.put,sx]
        refine tl 6 ?_ ?_ hHeld ?_;rotate_left
        . intro w hSw
          try dsimp only at hSw
          go_simp
          all_goals with_reducible rfl
        try simp only[Act.put,sx]
        refine wpAnyH_take (i:=7) (oi:=_) (v:=undef) rfl (by kernel_rfl) (by kernel_rfl) (by kernel_rfl) (fun _ _ _ h=>h) (Or.inr ⟨by rfl,rfl⟩) hHeld ?_
        try simp only[Act.put,sx]
        refine wpAnyH_take (i:=8) (oi:=_) (v:=undef) rfl (by kernel_rfl) (by kernel_rfl) (by kernel_rfl) (fun _ _ _ h=>h) (Or.inr ⟨by rfl,rfl⟩) hHeld ?_
        try simp only[Act.put,sx]
        refine wpAnyH_take (i:=9) (oi:=_) (v:=undef) rfl (by kernel_rfl) (by kernel_rfl) (by kernel_rfl) (fun _ _ _ h=>h) (Or.inr ⟨by rfl,rfl⟩) hHeld ?_
        try simp only[Act.put,sx]
        refine wpAnyH_take (i:=10) (oi:=_) (v:=undef) rfl (by kernel_rfl) (by kernel_rfl) (by kernel_rfl) (fun _ _ _ h=>h) (Or.inr ⟨by rfl,rfl⟩) hHeld ?_
        try simp only[Act.put,sx]
        refine wpAnyH_take (i:=11) (oi:=_) (v:=undef) rfl (by kernel_rfl) (by kernel_rfl) (by kernel_rfl) (fun _ _ _ h=>h) (Or.inr ⟨by rfl,rfl⟩) hHeld ?_
        try simp only[Act.put,sx]
        refine wpAnyH_take (i:=12) (oi:=_) (v:=undef) rfl (by kernel_rfl) (by kernel_rfl) (by kernel_rfl) (fun _ _ _ h=>h) (Or.inr ⟨by rfl,rfl⟩) hHeld ?_
        try simp only[Act.put,sx]
        refine wpAnyH_take (i:=13) (oi:=_) (v:=undef) rfl (by kernel_rfl) (by kernel_rfl) (by kernel_rfl) (fun _ _ _ h=>h) (Or.inr ⟨by rfl,rfl⟩) hHeld ?_
        try simp only[Act.put,sx]
        refine wpAnyH_take (i:=14) (oi:=_) (v:=undef) rfl (by kernel_rfl) (by kernel_rfl) (by kernel_rfl) (fun _ _ _ h=>h) (Or.inr ⟨by rfl,rfl⟩) hHeld ?_
        try simp only[Act.put,sx]
        refine wpAnyH_take (i:=15) (oi:=_) (v:=undef) rfl (by kernel_rfl) (by kernel_rfl) (by kernel_rfl) (fun _ _ _ h=>h) (Or.inr ⟨by rfl,rfl⟩) hHeld ?_
        try simp only[Act.put,sx]
        refine wpAnyH_take (i:=16) (oi:=_) (v:=undef) rfl (by kernel_rfl) (by kernel_rfl) (by kernel_rfl) (fun _ _ _ h=>h) (Or.inr ⟨by rfl,rfl⟩) hHeld ?_
        try simp only[Act.put,sx]
        refine wpAnyH_take (i:=17) (oi:=_) (v:=undef) rfl (by kernel_rfl) (by kernel_rfl) (by kernel_rfl) (fun _ _ _ h=>h) (Or.inr ⟨by rfl,rfl⟩) hHeld ?_
        try simp only[Act.put,sx]
        refine wpAnyH_take (i:=18) (oi:=_) (v:=undef) rfl (by kernel_rfl) (by kernel_rfl) (by kernel_rfl) (fun _ _ _ h=>h) (Or.inr ⟨by rfl,rfl⟩) hHeld ?_
        try simp only[Act.put,sx]
        refine wpAnyH_take (i:=19) (oi:=_) (v:=undef) rfl (by kernel_rfl) (by kernel_rfl) (by kernel_rfl) (fun _ _ _ h=>h) (Or.inr ⟨by rfl,rfl⟩) hHeld ?_
        try simp only[Act.put,sx]
        refine wpAnyH_take (i:=20) (oi:=_) (v:=undef) rfl (by kernel_rfl) (by kernel_rfl) (by kernel_rfl) (fun _ _ _ h=>h) (Or.inr ⟨by rfl,rfl⟩) hHeld ?_
        try simp only[Act.put,sx]
        refine wpAnyH_take (i:=21) (oi:=_) (v:=undef) rfl (by kernel_rfl) (by kernel_rfl) (by kernel_rfl) (fun _ _ _ h=>h) (Or.inr ⟨by rfl,rfl⟩) hHeld ?_
        try simp only[Act.put,sx]
        refine wpAnyH_take (i:=22) (oi:=_) (v:=undef) rfl (by kernel_rfl) (by kernel_rfl) (by kernel_rfl) (fun _ _ _ h=>h) (Or.inr ⟨by rfl,rfl⟩) hHeld ?_
        try simp only[Act.put,sx]
        refine tl 23 ?_ ?_ hHeld ?_;rotate_left
        . intro w hSw
          try dsimp only at hSw
          go_simp
          all_goals with_reducible rfl
        try simp only[Act.put,sx]
        refine tl 24 ?_ ?_ hHeld ?_;rotate_left
        . intro w hSw
          try dsimp only at hSw
          go_simp
          all_goals with_reducible rfl
        try simp only[Act.put,sx]
        refine wpAnyH_take (i:=25) (oi:=_) (v:=undef) rfl (by kernel_rfl) (by kernel_rfl) (by kernel_rfl) (fun _ _ _ h=>h) (Or.inr ⟨by rfl,rfl⟩) hHeld ?_
        try simp only[Act.put,sx]
        refine wpAnyH_take (i:=26) (oi:=_) (v:=undef) rfl (by kernel_rfl) (by kernel_rfl) (by kernel_rfl) (fun _ _ _ h=>h) (Or.inr ⟨by rfl,rfl⟩) hHeld ?_
        try simp only[Act.put,sx]
        refine wpAnyH_take (i:=27) (oi:=_) (v:=undef) rfl (by kernel_rfl) (by kernel_rfl) (by kernel_rfl) (fun _ _ _ h=>h) (Or.inr ⟨by rfl,rfl⟩) hHeld ?_
        try simp only[Act.put,sx]
        refine wpAnyH_take (i:=28) (oi:=_) (v:=undef) rfl (by kernel_rfl) (by kernel_rfl) (by kernel_rfl) (fun _ _ _ h=>h) (Or.inr ⟨by rfl,rfl⟩) hHeld ?_
        try simp only[Act.put,sx]
        refine wpAnyH_take (i:=29) (oi:=_) (v:=undef) rfl (by kernel_rfl) (by kernel_rfl) (by kernel_rfl) (fun _ _ _ h=>h) (Or.inr ⟨by rfl,rfl⟩) hHeld ?_
        try simp only[Act.put,sx]
        refine wpAnyH_take (i:=30) (oi:=_) (v:=undef) rfl (by kernel_rfl) (by kernel_rfl) (by kernel_rfl) (fun _ _ _ h=>h) (Or.inr ⟨by rfl,rfl⟩) hHeld ?_
        try simp only[Act.put,sx]
        refine wpAnyH_take (i:=31) (oi:=_) (v:=undef) rfl (by kernel_rfl) (by kernel_rfl) (by kernel_rfl) (fun _ _ _ h=>h) (Or.inr ⟨by rfl,rfl⟩) hHeld ?_
        try simp only[Act.put,sx]
        refine wpAnyH_take (i:=32) (oi:=_) (v:=undef) rfl (by kernel_rfl) (by kernel_rfl) (by kernel_rfl) (fun _ _ _ h=>h) (Or.inr ⟨by rfl,rfl⟩) hHeld ?_
        try simp only[Act.put,sx]
        refine wpAnyH_take (i:=33) (oi:=_) (v:=undef) rfl (by kernel_rfl) (by kernel_rfl) (by kernel_rfl) (fun _ _ _ h=>h) (Or.inr ⟨by rfl,rfl⟩) hHeld ?_
        try simp only[Act.put,sx]
        refine tl 34 ?_ ?_ hHeld ?_;rotate_left
        . intro w hSw
          try dsimp only at hSw
          go_simp
          all_goals with_reducible rfl
        try simp only[Act.put,sx]
        refine wpAnyH_done (by kernel_rfl) ?_ _;go_wp2;go_ret;exact⟨Ad (eb.out (by rw[hv.out]; rfl)).symm,Hb1.out⟩
      replace hv:=hid hv;by_cases hd:ys<=zs
      . have hdg:decide (zs<ys)=false:=decide_eq_false (by omega);have hdec:=hid (show decide (ys<=zs)=true from decide_eq_true hd);clear hd;by_cases hf:AG xs zp=k
        . have hdf:=hid (show decide (AG xs zp=k)=true from decide_eq_true hf);have hcmp:decide ((AG xs zp:Int)<(k:Int))=false:=decide_eq_false (by omega);have hcmp2:decide (AG xs zp<k)=false:=decide_eq_false (by omega);have hcmp3:¬ AG xs zp<k:=by omega
          have et:=hid (et.out.trans (by rw[hv.out,hdec.out,hdf.out]; first | done | rfl));clear eb hf;go_wp2_with fail;refine wp_region_held_drew (S:=fun w'=>(w'.cell? ⟨b,off+k*2,none⟩=some (.int .i64 zp)/\w'.cell? ⟨b,off+k*2+1,none⟩=some (.int .i64 zs))/\w'.cell? ⟨b,off+(k-1)*2+1,none⟩=some (.int .i64 ys)) (by kernel_rfl) ⟨⟨z0,z1⟩,y1⟩ (fun hHeld=>?_);refine tl 0 ?_ ?_ hHeld ?_;rotate_left
          . intro w hSw
            try dsimp only at hSw
            go_simp
            all_goals with_reducible rfl
          try simp only[Act.put,sx]
          refine tl 1 ?_ ?_ hHeld ?_;rotate_left
          . intro w hSw
            try dsimp only at hSw
            go_simp
            all_goals with_reducible rfl
          try simp only[Act.put,sx]
          refine tl 2 ?_ ?_ hHeld ?_;rotate_left
          . intro w hSw
            try dsimp only at hSw
            go_simp
            all_goals with_reducible rfl
          try simp only[Act.put,sx]
          refine tl 3 ?_ ?_ hHeld ?_;rotate_left
          . intro w hSw;obtain⟨⟨z0,z1⟩,y1⟩:=hSw;go_simp
            all_goals with_reducible rfl
          try simp only[Act.put,sx]
          refine wpAnyH_ready (rs:=[4]) (by kernel_rfl) (by simp) ?_;apply AllReadyH.cons rfl ?_ AllReadyH.nil;intro K hK;go_simp
          go_at_call 89
          refine(A8 zp zs _).mono ?_;rintro e wn ⟨rfl,Bn⟩;rw[hv.out];have hb2:b<wn.heap.size:=Nat.lt_of_lt_of_le hb (by have:=Bn.size; simpa using this);have K1:Below wr.heap.size wr wn:=(Ac wr).drew.trans Bn;replace z0:=(World.cell?_of_block (a:=⟨b,off+k*2,none⟩) (K1.block b hb)).trans z0;replace z1:=(World.cell?_of_block (a:=⟨b,off+k*2+1,none⟩) (K1.block b hb)).trans z1;replace y1:=(World.cell?_of_block (a:=⟨b,off+(k-1)*2+1,none⟩) (K1.block b hb)).trans y1;have Hb1:=hid (Aa B.out K1);clear K1 Bn;clear hHeld;go_wp2_with fail;refine hK.out _ _ ⟨⟨z0,z1⟩,y1⟩ (fun hHeld=>?_);clear hK K
          try simp only[Act.put,sx]
          refine tl 5 ?_ ?_ hHeld ?_;rotate_left
          . intro w hSw
            try dsimp only at hSw
            go_simp
            all_goals with_reducible rfl
          try simp only[Act.put,sx]
          refine tl 6 ?_ ?_ hHeld ?_;rotate_left
          . intro w hSw
            try dsimp only at hSw
            go_simp
            all_goals with_reducible rfl
          try simp only[Act.put,sx]
          refine tl 7 ?_ ?_ hHeld ?_;rotate_left
          . intro w hSw
            try dsimp only at hSw
            go_simp
            all_goals with_reducible rfl
          try simp only[Act.put,sx]
          refine tl 8 ?_ ?_ hHeld ?_;rotate_left
          . intro w hSw
            try dsimp only at hSw
            go_simp
            all_goals with_reducible rfl
          try simp only[Act.put,sx]
          refine tl 9 ?_ ?_ hHeld ?_;rotate_left
          . intro w hSw
            try dsimp only at hSw
            go_simp
            all_goals with_reducible rfl
          try simp only[Act.put,sx]
          refine tl 10 ?_ ?_ hHeld ?_;rotate_left
          . intro w hSw
            try dsimp only at hSw
            go_simp
            all_goals with_reducible rfl
          try simp only[Act.put,sx]
          refine tl 11 ?_ ?_ hHeld ?_;rotate_left
          . intro w hSw
            try dsimp only at hSw
            go_simp
            all_goals with_reducible rfl
          try simp only[Act.put,sx]
          refine tl 12 ?_ ?_ hHeld ?_;rotate_left
          . intro w hSw
            try dsimp only at hSw
            go_simp
            all_goals with_reducible rfl
          try simp only[Act.put,sx]
          refine tl 13 ?_ ?_ hHeld ?_;rotate_left
          . intro w hSw
            try dsimp only at hSw
            go_simp
            all_goals with_reducible rfl
          try simp only[Act.put,sx]
          refine tl 14 ?_ ?_ hHeld ?_;rotate_left
          . intro w hSw
            try dsimp only at hSw
            go_simp
            all_goals with_reducible rfl
          try simp only[Act.put,sx]
          refine tl 15 ?_ ?_ hHeld ?_;rotate_left
          . intro w hSw;obtain⟨⟨z0,z1⟩,y1⟩:=hSw;go_simp
            all_goals with_reducible rfl
          try simp only[Act.put,sx]
          refine tl 16 ?_ ?_ hHeld ?_;rotate_left
          . intro w hSw
            try dsimp only at hSw
            go_simp
            all_goals with_reducible rfl
          try simp only[Act.put,sx]
          refine tl 17 ?_ ?_ hHeld ?_;rotate_left
          . intro w hSw
            try dsimp only at hSw
            go_simp
            all_goals with_reducible rfl
          try simp only[Act.put,sx]
          refine tl 18 ?_ ?_ hHeld ?_;rotate_left
          . intro w hSw
            try dsimp only at hSw
            go_simp
            all_goals with_reducible rfl
          try simp only[Act.put,sx]
          refine tl 19 ?_ ?_ hHeld ?_;rotate_left
          . intro w hSw
            try dsimp only at hSw
            go_simp
            all_goals with_reducible rfl
          try simp only[Act.put,sx]
          refine tl 20 ?_ ?_ hHeld ?_;rotate_left
          . intro w hSw;obtain⟨⟨z0,z1⟩,y1⟩:=hSw;go_simp
            all_goals with_reducible rfl
          try simp only[Act.put,sx]
          refine tl 21 ?_ ?_ hHeld ?_;rotate_left
          . intro w hSw
            try dsimp only at hSw
            go_simp
            all_goals with_reducible rfl
          try simp only[Act.put,sx]
          refine tl 22 ?_ ?_ hHeld ?_;rotate_left
          . intro w hSw
            try dsimp only at hSw
            go_simp
            all_goals with_reducible rfl
          try simp only[Act.put,sx]
          refine tl 23 ?_ ?_ hHeld ?_;rotate_left
          . intro w hSw
            try dsimp only at hSw
            go_simp
            all_goals with_reducible rfl
          try simp only[Act.put,sx]
          refine tl 24 ?_ ?_ hHeld ?_;rotate_left
          . intro w hSw
            try dsimp only at hSw
            go_simp
            all_goals with_reducible rfl
          try simp only[Act.put,sx]
          refine tl 25 ?_ ?_ hHeld ?_;rotate_left
          . intro w hSw
            try dsimp only at hSw
            go_simp
            all_goals with_reducible rfl
          try simp only[Act.put,sx]
          refine tl 26 ?_ ?_ hHeld ?_;rotate_left
          . intro w hSw
            try dsimp only at hSw
            go_simp
            all_goals with_reducible rfl
          try simp only[Act.put,sx]
          refine tl 27 ?_ ?_ hHeld ?_;rotate_left
          . intro w hSw
            try dsimp only at hSw
            go_simp
            all_goals with_reducible rfl
          try simp only[Act.put,sx]
          refine tl 28 ?_ ?_ hHeld ?_;rotate_left
          . intro w hSw
            try dsimp only at hSw
            go_simp
            all_goals with_reducible rfl
          try simp only[Act.put,sx]
          refine tl 29 ?_ ?_ hHeld ?_;rotate_left
          . intro w hSw
            try dsimp only at hSw
            go_simp
            all_goals with_reducible rfl
          try simp only[Act.put,sx]
          refine tl 30 ?_ ?_ hHeld ?_;rotate_left
          . intro w hSw;obtain⟨⟨z0,z1⟩,y1⟩:=hSw;go_simp
            all_goals with_reducible rfl
          try simp only[Act.put,sx]
          refine tl 32 ?_ ?_ hHeld ?_;rotate_left
          . intro w hSw
            try dsimp only at hSw
            go_simp
            all_goals with_reducible rfl
          try simp only[Act.put,sx]
          refine wpAnyH_ready (rs:=[31]) (by kernel_rfl) (by simp) ?_;apply AllReadyH.cons rfl ?_ AllReadyH.nil;intro K hK;go_simp
          go_at_call 90
          refine(Cm _ n cap xs zp _ (Y.out.step (by first | with_reducible exact Hb1.out | with_reducible exact Af Hb1.out)) hn).mono ?_;rintro e wm ⟨rfl,Bm⟩;rw[hfi.out];replace z0:=(World.cell?_of_block (a:=⟨b,off+k*2,none⟩) (Bm.block b hb2)).trans z0;replace z1:=(World.cell?_of_block (a:=⟨b,off+k*2+1,none⟩) (Bm.block b hb2)).trans z1;replace y1:=(World.cell?_of_block (a:=⟨b,off+(k-1)*2+1,none⟩) (Bm.block b hb2)).trans y1;have Hc:=hid (Aa Hb1.out Bm);clear Bm;clear hHeld;go_wp2_with fail;refine hK.out _ _ ⟨⟨z0,z1⟩,y1⟩ (fun hHeld=>?_);clear hK K
          try simp only[Act.put,sx]
          refine tl 33 ?_ ?_ hHeld ?_;rotate_left
          . intro w hSw
            try dsimp only at hSw
            go_simp
            all_goals with_reducible rfl
          try simp only[Act.put,sx]
          refine tl 34 ?_ ?_ hHeld ?_;rotate_left
          . intro w hSw
            try dsimp only at hSw
            go_simp
            all_goals with_reducible rfl
          try simp only[Act.put,sx]
          refine wpAnyH_done (by kernel_rfl) ?_ _;go_wp2
          go_roundw
          case rel=>exact⟨k+1,by omega,by go_num,et.out,Hc.out⟩
          case measure=>simp[RowKit.intOf]; omega
        . have hdf:=hid (show decide (AG xs zp=k)=false from decide_eq_false hf);have hcmp:decide ((AG xs zp:Int)<(k:Int))=true:=decide_eq_true (by omega);have hcmp2:decide (AG xs zp<k)=true:=decide_eq_true (by omega);have hcmp3:AG xs zp<k:=by omega
          clear et hf;go_wp2_with fail;refine wp_region_held_drew (S:=fun w'=>(w'.cell? ⟨b,off+k*2,none⟩=some (.int .i64 zp)/\w'.cell? ⟨b,off+k*2+1,none⟩=some (.int .i64 zs))/\w'.cell? ⟨b,off+(k-1)*2+1,none⟩=some (.int .i64 ys)) (by kernel_rfl) ⟨⟨z0,z1⟩,y1⟩ (fun hHeld=>?_);refine tl 0 ?_ ?_ hHeld ?_;rotate_left
          . intro w hSw
            try dsimp only at hSw
            go_simp
            all_goals with_reducible rfl
          try simp only[Act.put,sx]
          refine tl 1 ?_ ?_ hHeld ?_;rotate_left
          . intro w hSw
            try dsimp only at hSw
            go_simp
            all_goals with_reducible rfl
          try simp only[Act.put,sx]
          refine tl 2 ?_ ?_ hHeld ?_;rotate_left
          . intro w hSw
            try dsimp only at hSw
            go_simp
            all_goals with_reducible rfl
          try simp only[Act.put,sx]
          refine tl 3 ?_ ?_ hHeld ?_;rotate_left
          . intro w hSw;obtain⟨⟨z0,z1⟩,y1⟩:=hSw;go_simp
            all_goals with_reducible rfl
          try simp only[Act.put,sx]
          refine wpAnyH_ready (rs:=[4]) (by kernel_rfl) (by simp) ?_;apply AllReadyH.cons rfl ?_ AllReadyH.nil;intro K hK;go_simp
          go_at_call 89
          refine(A8 zp zs _).mono ?_;rintro e wn ⟨rfl,Bn⟩;rw[hv.out];have hb2:b<wn.heap.size:=Nat.lt_of_lt_of_le hb (by have:=Bn.size; simpa using this);have K1:Below wr.heap.size wr wn:=(Ac wr).drew.trans Bn;replace z0:=(World.cell?_of_block (a:=⟨b,off+k*2,none⟩) (K1.block b hb)).trans z0;replace z1:=(World.cell?_of_block (a:=⟨b,off+k*2+1,none⟩) (K1.block b hb)).trans z1;replace y1:=(World.cell?_of_block (a:=⟨b,off+(k-1)*2+1,none⟩) (K1.block b hb)).trans y1;have Hb1:=hid (Aa B.out K1);clear K1 Bn;clear hHeld;go_wp2_with fail;refine hK.out _ _ ⟨⟨z0,z1⟩,y1⟩ (fun hHeld=>?_);clear hK K
          try simp only[Act.put,sx]
          refine tl 5 ?_ ?_ hHeld ?_;rotate_left
          . intro w hSw
            try dsimp only at hSw
            go_simp
            all_goals with_reducible rfl
          try simp only[Act.put,sx]
          refine tl 6 ?_ ?_ hHeld ?_;rotate_left
          . intro w hSw
            try dsimp only at hSw
            go_simp
            all_goals with_reducible rfl
          try simp only[Act.put,sx]
          refine tl 7 ?_ ?_ hHeld ?_;rotate_left
          . intro w hSw
            try dsimp only at hSw
            go_simp
            all_goals with_reducible rfl
          try simp only[Act.put,sx]
          refine tl 8 ?_ ?_ hHeld ?_;rotate_left
          . intro w hSw
            try dsimp only at hSw
            go_simp
            all_goals with_reducible rfl
          try simp only[Act.put,sx]
          refine tl 9 ?_ ?_ hHeld ?_;rotate_left
          . intro w hSw
            try dsimp only at hSw
            go_simp
            all_goals with_reducible rfl
          try simp only[Act.put,sx]
          refine tl 10 ?_ ?_ hHeld ?_;rotate_left
          . intro w hSw
            try dsimp only at hSw
            go_simp
            all_goals with_reducible rfl
          try simp only[Act.put,sx]
          refine tl 11 ?_ ?_ hHeld ?_;rotate_left
          . intro w hSw
            try dsimp only at hSw
            go_simp
            all_goals with_reducible rfl
          try simp only[Act.put,sx]
          refine tl 12 ?_ ?_ hHeld ?_;rotate_left
          . intro w hSw
            try dsimp only at hSw
            go_simp
            all_goals with_reducible rfl
          try simp only[Act.put,sx]
          refine tl 13 ?_ ?_ hHeld ?_;rotate_left
          . intro w hSw
            try dsimp only at hSw
            go_simp
            all_goals with_reducible rfl
          try simp only[Act.put,sx]
          refine tl 14 ?_ ?_ hHeld ?_;rotate_left
          . intro w hSw
            try dsimp only at hSw
            go_simp
            all_goals with_reducible rfl
          try simp only[Act.put,sx]
          refine tl 15 ?_ ?_ hHeld ?_;rotate_left
          . intro w hSw;obtain⟨⟨z0,z1⟩,y1⟩:=hSw;go_simp
            all_goals with_reducible rfl
          try simp only[Act.put,sx]
          refine tl 16 ?_ ?_ hHeld ?_;rotate_left
          . intro w hSw
            try dsimp only at hSw
            go_simp
            all_goals with_reducible rfl
          try simp only[Act.put,sx]
          refine tl 17 ?_ ?_ hHeld ?_;rotate_left
          . intro w hSw
            try dsimp only at hSw
            go_simp
            all_goals with_reducible rfl
          try simp only[Act.put,sx]
          refine tl 18 ?_ ?_ hHeld ?_;rotate_left
          . intro w hSw
            try dsimp only at hSw
            go_simp
            all_goals with_reducible rfl
          try simp only[Act.put,sx]
          refine tl 19 ?_ ?_ hHeld ?_;rotate_left
          . intro w hSw
            try dsimp only at hSw
            go_simp
            all_goals with_reducible rfl
          try simp only[Act.put,sx]
          refine tl 20 ?_ ?_ hHeld ?_;rotate_left
          . intro w hSw;obtain⟨⟨z0,z1⟩,y1⟩:=hSw;go_simp
            all_goals with_reducible rfl
          try simp only[Act.put,sx]
          refine tl 21 ?_ ?_ hHeld ?_;rotate_left
          . intro w hSw
            try dsimp only at hSw
            go_simp
            all_goals with_reducible rfl
          try simp only[Act.put,sx]
          refine tl 22 ?_ ?_ hHeld ?_;rotate_left
          . intro w hSw
            try dsimp only at hSw
            go_simp
            all_goals with_reducible rfl
          try simp only[Act.put,sx]
          refine tl 23 ?_ ?_ hHeld ?_;rotate_left
          . intro w hSw
            try dsimp only at hSw
            go_simp
            all_goals with_reducible rfl
          try simp only[Act.put,sx]
          refine tl 24 ?_ ?_ hHeld ?_;rotate_left
          . intro w hSw
            try dsimp only at hSw
            go_simp
            all_goals with_reducible rfl
          try simp only[Act.put,sx]
          refine tl 25 ?_ ?_ hHeld ?_;rotate_left
          . intro w hSw
            try dsimp only at hSw
            go_simp
            all_goals with_reducible rfl
          try simp only[Act.put,sx]
          refine tl 26 ?_ ?_ hHeld ?_;rotate_left
          . intro w hSw
            try dsimp only at hSw
            go_simp
            all_goals with_reducible rfl
          try simp only[Act.put,sx]
          refine tl 27 ?_ ?_ hHeld ?_;rotate_left
          . intro w hSw
            try dsimp only at hSw
            go_simp
            all_goals with_reducible rfl
          try simp only[Act.put,sx]
          refine tl 28 ?_ ?_ hHeld ?_;rotate_left
          . intro w hSw
            try dsimp only at hSw
            go_simp
            all_goals with_reducible rfl
          try simp only[Act.put,sx]
          refine tl 29 ?_ ?_ hHeld ?_;rotate_left
          . intro w hSw
            try dsimp only at hSw
            go_simp
            all_goals with_reducible rfl
          try simp only[Act.put,sx]
          refine tl 30 ?_ ?_ hHeld ?_;rotate_left
          . intro w hSw;obtain⟨⟨z0,z1⟩,y1⟩:=hSw;go_simp
            all_goals with_reducible rfl
          try simp only[Act.put,sx]
          refine tl 32 ?_ ?_ hHeld ?_;rotate_left
          . intro w hSw
            try dsimp only at hSw
            go_simp
            all_goals with_reducible rfl
          try simp only[Act.put,sx]
          refine wpAnyH_ready (rs:=[31]) (by kernel_rfl) (by simp) ?_;apply AllReadyH.cons rfl ?_ AllReadyH.nil;intro K hK;go_simp
          go_at_call 90
          refine(Cm _ n cap xs zp _ (Y.out.step (by first | with_reducible exact Hb1.out | with_reducible exact Af Hb1.out)) hn).mono ?_;rintro e wm ⟨rfl,Bm⟩;rw[hfi.out];replace z0:=(World.cell?_of_block (a:=⟨b,off+k*2,none⟩) (Bm.block b hb2)).trans z0;replace z1:=(World.cell?_of_block (a:=⟨b,off+k*2+1,none⟩) (Bm.block b hb2)).trans z1;replace y1:=(World.cell?_of_block (a:=⟨b,off+(k-1)*2+1,none⟩) (Bm.block b hb2)).trans y1;have Hc:=hid (Aa Hb1.out Bm);clear Bm;clear hHeld;go_wp2_with fail;refine hK.out _ _ ⟨⟨z0,z1⟩,y1⟩ (fun hHeld=>?_);clear hK K
          try simp only[Act.put,sx]
          refine tl 33 ?_ ?_ hHeld ?_;rotate_left
          . intro w hSw
            try dsimp only at hSw
            go_simp
            all_goals with_reducible rfl
          try simp only[Act.put,sx]
          refine tl 34 ?_ ?_ hHeld ?_;rotate_left
          . intro w hSw
            try dsimp only at hSw
            go_simp
            all_goals with_reducible rfl
          try simp only[Act.put,sx]
          refine wpAnyH_done (by kernel_rfl) ?_ _;go_wp2;go_ret;exact⟨Ad (eb.out (by rw[hdf.out]; simp)).symm,Hc.out⟩
      . have hdg:decide (zs<ys)=true:=decide_eq_true (by omega);have hdec:=hid (show decide (ys<=zs)=false from decide_eq_false hd);clear et hd;go_wp2_with fail;refine wp_region_held_drew (S:=fun w'=>(w'.cell? ⟨b,off+k*2,none⟩=some (.int .i64 zp)/\w'.cell? ⟨b,off+k*2+1,none⟩=some (.int .i64 zs))/\w'.cell? ⟨b,off+(k-1)*2+1,none⟩=some (.int .i64 ys)) (by kernel_rfl) ⟨⟨z0,z1⟩,y1⟩ (fun hHeld=>?_);refine tl 0 ?_ ?_ hHeld ?_;rotate_left
        . intro w hSw
          try dsimp only at hSw
          go_simp
          all_goals with_reducible rfl
        try simp only[Act.put,sx]
        refine tl 1 ?_ ?_ hHeld ?_;rotate_left
        . intro w hSw
          try dsimp only at hSw
          go_simp
          all_goals with_reducible rfl
        try simp only[Act.put,sx]
        refine tl 2 ?_ ?_ hHeld ?_;rotate_left
        . intro w hSw
          try dsimp only at hSw
          go_simp
          all_goals with_reducible rfl
        try simp only[Act.put,sx]
        refine tl 3 ?_ ?_ hHeld ?_;rotate_left
        . intro w hSw;obtain⟨⟨z0,z1⟩,y1⟩:=hSw;go_simp
          all_goals with_reducible rfl
        try simp only[Act.put,sx]
        refine wpAnyH_ready (rs:=[4]) (by kernel_rfl) (by simp) ?_;apply AllReadyH.cons rfl ?_ AllReadyH.nil;intro K hK;go_simp
        go_at_call 89
        refine(A8 zp zs _).mono ?_;rintro e wn ⟨rfl,Bn⟩;rw[hv.out];have hb2:b<wn.heap.size:=Nat.lt_of_lt_of_le hb (by have:=Bn.size; simpa using this);have K1:Below wr.heap.size wr wn:=(Ac wr).drew.trans Bn;replace z0:=(World.cell?_of_block (a:=⟨b,off+k*2,none⟩) (K1.block b hb)).trans z0;replace z1:=(World.cell?_of_block (a:=⟨b,off+k*2+1,none⟩) (K1.block b hb)).trans z1;replace y1:=(World.cell?_of_block (a:=⟨b,off+(k-1)*2+1,none⟩) (K1.block b hb)).trans y1;have Hb1:=hid (Aa B.out K1);clear K1 Bn;clear hHeld;go_wp2_with fail;refine hK.out _ _ ⟨⟨z0,z1⟩,y1⟩ (fun hHeld=>?_);clear hK K
        try simp only[Act.put,sx]
        refine tl 5 ?_ ?_ hHeld ?_;rotate_left
        . intro w hSw
          try dsimp only at hSw
          go_simp
          all_goals with_reducible rfl
        try simp only[Act.put,sx]
        refine tl 6 ?_ ?_ hHeld ?_;rotate_left
        . intro w hSw
          try dsimp only at hSw
          go_simp
          all_goals with_reducible rfl
        try simp only[Act.put,sx]
        refine tl 7 ?_ ?_ hHeld ?_;rotate_left
        . intro w hSw
          try dsimp only at hSw
          go_simp
          all_goals with_reducible rfl
        try simp only[Act.put,sx]
        refine tl 8 ?_ ?_ hHeld ?_;rotate_left
        . intro w hSw
          try dsimp only at hSw
          go_simp
          all_goals with_reducible rfl
        try simp only[Act.put,sx]
        refine tl 9 ?_ ?_ hHeld ?_;rotate_left
        . intro w hSw
          try dsimp only at hSw
          go_simp
          all_goals with_reducible rfl
        try simp only[Act.put,sx]
        refine tl 10 ?_ ?_ hHeld ?_;rotate_left
        . intro w hSw
          try dsimp only at hSw
          go_simp
          all_goals with_reducible rfl
        try simp only[Act.put,sx]
        refine tl 11 ?_ ?_ hHeld ?_;rotate_left
        . intro w hSw
          try dsimp only at hSw
          go_simp
          all_goals with_reducible rfl
        try simp only[Act.put,sx]
        refine tl 12 ?_ ?_ hHeld ?_;rotate_left
        . intro w hSw
          try dsimp only at hSw
          go_simp
          all_goals with_reducible rfl
        try simp only[Act.put,sx]
        refine tl 13 ?_ ?_ hHeld ?_;rotate_left
        . intro w hSw
          try dsimp only at hSw
          go_simp
          all_goals with_reducible rfl
        try simp only[Act.put,sx]
        refine tl 14 ?_ ?_ hHeld ?_;rotate_left
        . intro w hSw
          try dsimp only at hSw
          go_simp
          all_goals with_reducible rfl
        try simp only[Act.put,sx]
        refine tl 15 ?_ ?_ hHeld ?_;rotate_left
        . intro w hSw;obtain⟨⟨z0,z1⟩,y1⟩:=hSw;go_simp
          all_goals with_reducible rfl
        try simp only[Act.put,sx]
        refine tl 16 ?_ ?_ hHeld ?_;rotate_left
        . intro w hSw
          try dsimp only at hSw
          go_simp
          all_goals with_reducible rfl
        try simp only[Act.put,sx]
        refine tl 17 ?_ ?_ hHeld ?_;rotate_left
        . intro w hSw
          try dsimp only at hSw
          go_simp
          all_goals with_reducible rfl
        try simp only[Act.put,sx]
        refine tl 18 ?_ ?_ hHeld ?_;rotate_left
        . intro w hSw
          try dsimp only at hSw
          go_simp
          all_goals with_reducible rfl
        try simp only[Act.put,sx]
        refine tl 19 ?_ ?_ hHeld ?_;rotate_left
        . intro w hSw
          try dsimp only at hSw
          go_simp
          all_goals with_reducible rfl
        try simp only[Act.put,sx]
        refine tl 20 ?_ ?_ hHeld ?_;rotate_left
        . intro w hSw;obtain⟨⟨z0,z1⟩,y1⟩:=hSw;go_simp
          all_goals with_reducible rfl
        try simp only[Act.put,sx]
        refine tl 21 ?_ ?_ hHeld ?_;rotate_left
        . intro w hSw
          try dsimp only at hSw
          go_simp
          all_goals with_reducible rfl
        try simp only[Act.put,sx]
        refine tl 22 ?_ ?_ hHeld ?_;rotate_left
        . intro w hSw
          try dsimp only at hSw
          go_simp
          all_goals with_reducible rfl
        try simp only[Act.put,sx]
        refine tl 23 ?_ ?_ hHeld ?_;rotate_left
        . intro w hSw
          try dsimp only at hSw
          go_simp
          all_goals with_reducible rfl
        try simp only[Act.put,sx]
        refine tl 24 ?_ ?_ hHeld ?_;rotate_left
        . intro w hSw
          try dsimp only at hSw
          go_simp
          all_goals with_reducible rfl
        try simp only[Act.put,sx]
        refine wpAnyH_take (i:=25) (oi:=_) (v:=undef) rfl (by kernel_rfl) (by kernel_rfl) (by kernel_rfl) (fun _ _ _ h=>h) (Or.inr ⟨by rfl,rfl⟩) hHeld ?_
        try simp only[Act.put,sx]
        refine wpAnyH_take (i:=26) (oi:=_) (v:=undef) rfl (by kernel_rfl) (by kernel_rfl) (by kernel_rfl) (fun _ _ _ h=>h) (Or.inr ⟨by rfl,rfl⟩) hHeld ?_
        try simp only[Act.put,sx]
        refine wpAnyH_take (i:=27) (oi:=_) (v:=undef) rfl (by kernel_rfl) (by kernel_rfl) (by kernel_rfl) (fun _ _ _ h=>h) (Or.inr ⟨by rfl,rfl⟩) hHeld ?_
        try simp only[Act.put,sx]
        refine wpAnyH_take (i:=28) (oi:=_) (v:=undef) rfl (by kernel_rfl) (by kernel_rfl) (by kernel_rfl) (fun _ _ _ h=>h) (Or.inr ⟨by rfl,rfl⟩) hHeld ?_
        try simp only[Act.put,sx]
        refine wpAnyH_take (i:=29) (oi:=_) (v:=undef) rfl (by kernel_rfl) (by kernel_rfl) (by kernel_rfl) (fun _ _ _ h=>h) (Or.inr ⟨by rfl,rfl⟩) hHeld ?_
        try simp only[Act.put,sx]
        refine wpAnyH_take (i:=30) (oi:=_) (v:=undef) rfl (by kernel_rfl) (by kernel_rfl) (by kernel_rfl) (fun _ _ _ h=>h) (Or.inr ⟨by rfl,rfl⟩) hHeld ?_
        try simp only[Act.put,sx]
        refine wpAnyH_take (i:=31) (oi:=_) (v:=undef) rfl (by kernel_rfl) (by kernel_rfl) (by kernel_rfl) (fun _ _ _ h=>h) (Or.inr ⟨by rfl,rfl⟩) hHeld ?_
        try simp only[Act.put,sx]
        refine wpAnyH_take (i:=32) (oi:=_) (v:=undef) rfl (by kernel_rfl) (by kernel_rfl) (by kernel_rfl) (fun _ _ _ h=>h) (Or.inr ⟨by rfl,rfl⟩) hHeld ?_
        try simp only[Act.put,sx]
        refine wpAnyH_take (i:=33) (oi:=_) (v:=undef) rfl (by kernel_rfl) (by kernel_rfl) (by kernel_rfl) (fun _ _ _ h=>h) (Or.inr ⟨by rfl,rfl⟩) hHeld ?_
        try simp only[Act.put,sx]
        refine tl 34 ?_ ?_ hHeld ?_;rotate_left
        . intro w hSw
          try dsimp only at hSw
          go_simp
          all_goals with_reducible rfl
        try simp only[Act.put,sx]
        refine wpAnyH_done (by kernel_rfl) ?_ _;go_wp2;go_ret;exact⟨Ad (eb.out (by rw[hdec.out]; simp)).symm,Hb1.out⟩
  . obtain rfl:k=n:=by omega
    have B:=hid B;have E:=hid (show CF xs=decide ((k:Int)<=4) by rw[CF,hl.out,ha,Bool.true_and]; exact decide_eq_decide.2 (by omega));clear ha;go_wp2;go_ret;exact⟨Ad E.out.symm,B.out⟩
end Go.Proofs.Ytbeohbhhmcjokaa
