import Derived.Test.YtgbiagonfbnooaaGreatDoorZInRow
import Derived.Test.YtgbiagonfbnooaaGreatDoorZ0
set_option linter.all false
set_option maxRecDepth 100000
set_option maxHeartbeats 8000000
open Go.Lib
namespace Go.Proofs.YtgbiagonfbnooaaGreatDoor
open Go.RowKit
open M
structure InIn(w:World)(b o:Nat)(s p:Int)(z:Bool):Prop where
 c0:w.cell? ⟨b,o,none⟩=some (.int .i64 s)
 c1:w.cell? ⟨b,o+1,none⟩=some (.int .i64 p)
 c2:w.cell? ⟨b,o+2,none⟩=some (.bool z)
 lt:b<w.heap.size
theorem InIn.of{w w':World}{b o:Nat}{s p:Int}{z:Bool}(h:InIn w b o s p z)(e:w'.heap[b]?=w.heap[b]?)(hs:w.heap.size<=w'.heap.size):InIn w' b o s p z :=
 ⟨(World.cell?_of_block (a:=⟨b,o,none⟩) e).trans h.c0,(World.cell?_of_block (a:=⟨b,o+1,none⟩) e).trans h.c1,(World.cell?_of_block (a:=⟨b,o+2,none⟩) e).trans h.c2,Nat.lt_of_lt_of_le h.lt hs⟩
theorem InIn.step{W w':World}{b o:Nat}{s p:Int}{z:Bool}(h:InIn W b o s p z)(B:Below W.heap.size W w'):InIn w' b o s p z:=h.of (B.block b h.lt) B.size
theorem InIn.alloc{W:World}{b o:Nat}{s p:Int}{z:Bool}(h:InIn W b o s p z)(ob:Obj):InIn (W.alloc ob) b o s p z:=h.step (Ab (Ac W) ob)
theorem InIn.drew{W:World}{b o:Nat}{s p:Int}{z:Bool}(h:InIn W b o s p z):InIn W.drew b o s p z:=⟨h.c0,h.c1,h.c2,h.lt⟩
theorem InAt.lie{w:World}{b o:Nat}{q:In}(h:InAt w b o q)(hb:b<w.heap.size):InIn w b o q.s q.p q.z:=⟨h.c0,h.c1,h.c2,hb⟩
theorem AL{W:World}{b o:Nat}{s p:Int}{z:Bool}(h:InIn W b o s p z):W.cell? ⟨b,o,none⟩=some (.int .i64 s)/\W.cell? ⟨b,o+1,none⟩=some (.int .i64 p)/\W.cell? ⟨b,o+2,none⟩=some (.bool z):=⟨h.c0,h.c1,h.c2⟩
def MU(w:World)(k:Nat)(xs:List In)(t b:Int)(vs:List Value)(pv iv:Value)(W:World):Prop :=
 ∃(j:Nat) (a s0 p0:Int) (z0:Bool),j<=k/\iv=.int .i64 j/\pv=.int .i64 a/\(0<=a/\a<=3)/\(-1<=s0/\s0<=1)/\GW t b xs=F8 t b (xs.drop j) j a s0/\CellsAt W w.heap.size vs/\CellsAt W (w.heap.size+1) (AF s0 p0 z0)/\Below w.heap.size w W
theorem LA{t b:Int}{xs:List In}{k j:Nat}{a s0:Int}(h:xs.length=k)(hj:k<=j)(e:GW t b xs=F8 t b (xs.drop j) j a s0):GW t b xs=-1:=by
 rw[e,List.drop_eq_nil_of_le (by omega)];rfl
theorem CX(i t x y:Int)(A:Option Addr)(n c:Nat)(G:Option Addr)(m kk:Nat)(fp fq fs fz b:Int)(D:Option Addr)(k cc:Nat)(xs:List In)(w:World)(Y:Inputs w D k xs)(hk:k<=281474976710656)(b0:0<=b)(b3:b<=3) :
 Calls Tryz.prog 86 #[Fq i t x y A n c G m kk fp fq fs fz b,.slice D k cc] w fun e w'=>e=.returned (.int .i64 (GW t b xs))/\Below w.heap.size w w':=by
 have hl:=hid Y.1;have Y:=hid Y;go_enter Tryz.func86,Tryz.ntmps86;go_wp2
 go_loopw [6,7] (MU w k xs t b (AW i t x y A n c G m kk fp fq fs fz b)) (fun _ i _=>k-(RowKit.intOf i).toNat)
 case atStart=>exact⟨0,0,0,0,false,Nat.zero_le _,rfl,rfl,by omega,by omega,rfl,(CellsAt.new w _ _ _ rfl).alloc _,CellsAt.new _ _ _ _ (by simp),Ab (Ab (Ac w) _) _⟩
 case round =>
  obtain⟨j,a,s0,p0,z0,hj,rfl,rfl,⟨a0,a3⟩,⟨s1,s2⟩,e0,L,Q,B⟩:=hrel;have e0:=hid e0;by_cases hlt:j<k
  . obtain⟨bb,off,rfl,hb,hcell⟩:=(Y.out.step B).2 (by omega);have Z:=(hcell j hlt).lie hb;have hjl:j<xs.length:=by have:=hl.out; omega
    have hd:=drop_at hjl;have Hb:=hid B;clear hcell hjl B;generalize xs.getD j iz=q at *;obtain⟨s,p,z⟩:=q;simp only at Z;have e1:=hid (e0.out.trans (by rw[hd]));clear hd e0;have C:=fun W=>BZ i t x y A n c G m kk fp fq fs fz b s0 p0 z0 s p z W b0 b3 s1 s2;have Ll:=L.lt;have Ql:=Q.lt;have Zl:=Z.lt;cases z
    . have d2:=Z.c2;by_cases g1:t<=(j:Int)
      . have E:=hid (e1.out.trans (Bz (NP g1)));clear C;have g1d:decide (t<=(j:Int))=true:=decide_eq_true g1;go_wp2_with fail;refine wp_region_held_drew (S:=fun w'=>CellsAt w' w.heap.size (AW i t x y A n c G m kk fp fq fs fz b)/\CellsAt w' (w.heap.size+1) (AF s0 p0 z0)/\(w'.cell? ⟨bb,off+j*3,none⟩=some (.int .i64 s)/\w'.cell? ⟨bb,off+j*3+1,none⟩=some (.int .i64 p)/\w'.cell? ⟨bb,off+j*3+2,none⟩=some (.bool false))) (by kernel_rfl) ⟨L.drew,Q.drew,AL Z.drew⟩ (fun hHeld=>?_);replace L:=L.drew;replace Q:=Q.drew;replace Z:=Z.drew;replace Hb:=hid (Az Hb.out);refine tl 0 ?_ ?_ hHeld ?_;rotate_left
        . intro w hSw
          try dsimp only at hSw
          go_simp
          all_goals with_reducible rfl
        try simp only[Act.put,sx]
        refine tl 1 ?_ ?_ hHeld ?_;rotate_left
        . intro w hSw
          try dsimp only at hSw
          go_simp
          all_goals with_reducible rfl
        try simp only[Act.put,sx]
        refine tl 2 ?_ ?_ hHeld ?_;rotate_left
        . intro w hSw;have c1:=hSw.1.cell 1 _ rfl;go_simp
          all_goals with_reducible rfl
        try simp only[Act.put,sx]
        refine tl 3 ?_ ?_ hHeld ?_;rotate_left
        . intro w hSw
          try dsimp only at hSw
          go_simp
          all_goals with_reducible rfl
        try simp only[Act.put,sx]
        refine tl 4 ?_ ?_ hHeld ?_;rotate_left
        . intro w hSw
          try dsimp only at hSw
          go_simp
          all_goals with_reducible rfl
        try simp only[Act.put,sx]
        refine wpAnyH_take (i:=5) (oi:=_) (v:=undef) rfl (by kernel_rfl) (by kernel_rfl) (by kernel_rfl) (fun _ _ _ h=>h) (Or.inr ⟨by rfl,rfl⟩) hHeld ?_
        try simp only[Act.put,sx]
        refine wpAnyH_take (i:=6) (oi:=_) (v:=undef) rfl (by kernel_rfl) (by kernel_rfl) (by kernel_rfl) (fun _ _ _ h=>h) (Or.inr ⟨by rfl,rfl⟩) hHeld ?_
        try simp only[Act.put,sx]
        refine tl 7 ?_ ?_ hHeld ?_;rotate_left
        . intro w hSw
          try dsimp only at hSw
          go_simp
          all_goals with_reducible rfl
        try simp only[Act.put,sx]
        refine tl 8 ?_ ?_ hHeld ?_;rotate_left
        . intro w hSw
          try dsimp only at hSw
          go_simp
          all_goals with_reducible rfl
        try simp only[Act.put,sx]
        refine wpAnyH_take (i:=9) (oi:=_) (v:=undef) rfl (by kernel_rfl) (by kernel_rfl) (by kernel_rfl) (fun _ _ _ h=>h) (Or.inr ⟨by rfl,rfl⟩) hHeld ?_
        try simp only[Act.put,sx]
        refine wpAnyH_take (i:=10) (oi:=_) (v:=undef) rfl (by kernel_rfl) (by kernel_rfl) (by kernel_rfl) (fun _ _ _ h=>h) (Or.inr ⟨by rfl,rfl⟩) hHeld ?_
        try simp only[Act.put,sx]
        refine wpAnyH_take (i:=11) (oi:=_) (v:=undef) rfl (by kernel_rfl) (by kernel_rfl) (by kernel_rfl) (fun _ _ _ h=>h) (Or.inr ⟨by rfl,rfl⟩) hHeld ?_
        try simp only[Act.put,sx]
        refine wpAnyH_take (i:=12) (oi:=_) (v:=undef) rfl (by kernel_rfl) (by kernel_rfl) (by kernel_rfl) (fun _ _ _ h=>h) (Or.inr ⟨by rfl,rfl⟩) hHeld ?_
        try simp only[Act.put,sx]
        refine wpAnyH_take (i:=13) (oi:=_) (v:=undef) rfl (by kernel_rfl) (by kernel_rfl) (by kernel_rfl) (fun _ _ _ h=>h) (Or.inr ⟨by rfl,rfl⟩) hHeld ?_
        try simp only[Act.put,sx]
        refine wpAnyH_take (i:=14) (oi:=_) (v:=undef) rfl (by kernel_rfl) (by kernel_rfl) (by kernel_rfl) (fun _ _ _ h=>h) (Or.inr ⟨by rfl,rfl⟩) hHeld ?_
        try simp only[Act.put,sx]
        refine wpAnyH_take (i:=15) (oi:=_) (v:=undef) rfl (by kernel_rfl) (by kernel_rfl) (by kernel_rfl) (fun _ _ _ h=>h) (Or.inr ⟨by rfl,rfl⟩) hHeld ?_
        try simp only[Act.put,sx]
        refine wpAnyH_take (i:=16) (oi:=_) (v:=undef) rfl (by kernel_rfl) (by kernel_rfl) (by kernel_rfl) (fun _ _ _ h=>h) (Or.inr ⟨by rfl,rfl⟩) hHeld ?_
        try simp only[Act.put,sx]
        refine tl 17 ?_ ?_ hHeld ?_;rotate_left
        . intro w hSw
          try dsimp only at hSw
          go_simp
          all_goals with_reducible rfl
        try simp only[Act.put,sx]
        refine wpAnyH_done (by kernel_rfl) ?_ _;go_wp2;go_ret;exact⟨AN (by rw[E.out]),Hb.out⟩
      have g1:(j:Int)<t:=by omega
      have g1d:decide (t<=(j:Int))=false:=decide_eq_false (by omega);have g2d:decide (3<a)=false:=decide_eq_false (by omega);cases hf:Er b s0 s p false
      . have E:=hid (e1.out.trans (Bz (NQ hf)));rw[hf] at C;replace C:=hid C;go_wp2_with fail;refine wp_region_held_drew (S:=fun w'=>CellsAt w' w.heap.size (AW i t x y A n c G m kk fp fq fs fz b)/\CellsAt w' (w.heap.size+1) (AF s0 p0 z0)/\(w'.cell? ⟨bb,off+j*3,none⟩=some (.int .i64 s)/\w'.cell? ⟨bb,off+j*3+1,none⟩=some (.int .i64 p)/\w'.cell? ⟨bb,off+j*3+2,none⟩=some (.bool false))) (by kernel_rfl) ⟨L.drew,Q.drew,AL Z.drew⟩ (fun hHeld=>?_);replace L:=L.drew;replace Q:=Q.drew;replace Z:=Z.drew;replace Hb:=hid (Az Hb.out);refine tl 0 ?_ ?_ hHeld ?_;rotate_left
        . intro w hSw
          try dsimp only at hSw
          go_simp
          all_goals with_reducible rfl
        try simp only[Act.put,sx]
        refine tl 1 ?_ ?_ hHeld ?_;rotate_left
        . intro w hSw
          try dsimp only at hSw
          go_simp
          all_goals with_reducible rfl
        try simp only[Act.put,sx]
        refine tl 2 ?_ ?_ hHeld ?_;rotate_left
        . intro w hSw;have c1:=hSw.1.cell 1 _ rfl;go_simp
          all_goals with_reducible rfl
        try simp only[Act.put,sx]
        refine tl 3 ?_ ?_ hHeld ?_;rotate_left
        . intro w hSw
          try dsimp only at hSw
          go_simp
          all_goals with_reducible rfl
        try simp only[Act.put,sx]
        refine tl 4 ?_ ?_ hHeld ?_;rotate_left
        . intro w hSw
          try dsimp only at hSw
          go_simp
          all_goals with_reducible rfl
        try simp only[Act.put,sx]
        refine tl 5 ?_ ?_ hHeld ?_;rotate_left
        . intro w hSw
          try dsimp only at hSw
          go_simp
          all_goals with_reducible rfl
        try simp only[Act.put,sx]
        refine tl 6 ?_ ?_ hHeld ?_;rotate_left
        . intro w hSw
          try dsimp only at hSw
          go_simp
          all_goals with_reducible rfl
        try simp only[Act.put,sx]
        refine tl 7 ?_ ?_ hHeld ?_;rotate_left
        . intro w hSw
          try dsimp only at hSw
          go_simp
          all_goals with_reducible rfl
        try simp only[Act.put,sx]
        refine tl 8 ?_ ?_ hHeld ?_;rotate_left
        . intro w hSw
          try dsimp only at hSw
          go_simp
          all_goals with_reducible rfl
        try simp only[Act.put,sx]
        refine wpAnyH_take (i:=9) (oi:=_) (v:=.agg (AW i t x y A n c G m kk fp fq fs fz b).toArray) rfl (by kernel_rfl) (by kernel_rfl) (by kernel_rfl) (fun _ _ _ h=>h) (yieldsIf_load_mid (by rfl) 62 (.tmp 2) rfl w.heap.size 0 rfl (AW i t x y A n c G m kk fp fq fs fz b) _ (fun W hS=>hS.1.range) Tryz.underlying62 rfl Am) hHeld ?_
        try simp only[Act.put,sx]
        refine wpAnyH_take (i:=10) (oi:=_) (v:=.agg (AF s0 p0 z0).toArray) rfl (by kernel_rfl) (by kernel_rfl) (by kernel_rfl) (fun _ _ _ h=>h) (yieldsIf_load_mid (by rfl) 89 (.tmp 5) rfl (w.heap.size+1) 0 rfl (AF s0 p0 z0) _ (fun W hS=>hS.2.1.range) Tryz.underlying89 rfl D7) hHeld ?_
        try simp only[Act.put,sx]
        refine tl 11 ?_ ?_ hHeld ?_;rotate_left
        . intro w hSw
          try dsimp only at hSw
          go_simp
          all_goals with_reducible rfl
        try simp only[Act.put,sx]
        refine tl 12 ?_ ?_ hHeld ?_;rotate_left
        . intro w hSw
          try dsimp only at hSw
          go_simp
          all_goals with_reducible rfl
        try simp only[Act.put,sx]
        refine tl 13 ?_ ?_ hHeld ?_;rotate_left
        . intro w hSw
          try dsimp only at hSw
          go_simp
          all_goals with_reducible rfl
        try simp only[Act.put,sx]
        refine tl 14 ?_ ?_ hHeld ?_;rotate_left
        . intro w hSw;obtain⟨_,_,d0,d1,d2⟩:=hSw;go_simp
          all_goals with_reducible rfl
        try simp only[Act.put,sx]
        refine wpAnyH_ready (rs:=[15]) (by kernel_rfl) (by simp) ?_;apply AllReadyH.cons rfl ?_ AllReadyH.nil;intro K hK;go_simp
        go_at_call 106
        refine(C.out _).mono ?_;rintro e wn ⟨rfl,B⟩;replace L:=L.step B;replace Q:=Q.step B;replace Z:=Z.step B;replace Hb:=hid (Aa Hb.out B);clear B;clear hHeld;go_wp2_with fail;refine hK.out _ _ ⟨L,Q,AL Z⟩ (fun hHeld=>?_);clear hK K
        try simp only[Act.put,sx]
        refine tl 16 ?_ ?_ hHeld ?_;rotate_left
        . intro w hSw
          try dsimp only at hSw
          go_simp
          all_goals with_reducible rfl
        try simp only[Act.put,sx]
        refine tl 17 ?_ ?_ hHeld ?_;rotate_left
        . intro w hSw
          try dsimp only at hSw
          go_simp
          all_goals with_reducible rfl
        try simp only[Act.put,sx]
        refine wpAnyH_done (by kernel_rfl) ?_ _;go_wp2;go_ret;exact⟨AN (by rw[E.out]),Hb.out⟩
      have E:=hid (e1.out.trans (E3 (Lb g1 (show Hu a false<=3 by simp only[Hu]; simpa using a3) hf)));have hv:=(Dc (FY hf)).1;rw[hf] at C;replace C:=hid C;go_wp2_with fail;refine wp_region_held_drew (S:=fun w'=>CellsAt w' w.heap.size (AW i t x y A n c G m kk fp fq fs fz b)/\CellsAt w' (w.heap.size+1) (AF s0 p0 z0)/\(w'.cell? ⟨bb,off+j*3,none⟩=some (.int .i64 s)/\w'.cell? ⟨bb,off+j*3+1,none⟩=some (.int .i64 p)/\w'.cell? ⟨bb,off+j*3+2,none⟩=some (.bool false))) (by kernel_rfl) ⟨L.drew,Q.drew,AL Z.drew⟩ (fun hHeld=>?_);replace L:=L.drew;replace Q:=Q.drew;replace Z:=Z.drew;replace Hb:=hid (Az Hb.out)
      refine tl 0 ?_ ?_ hHeld ?_;rotate_left
      . intro w hSw
        try dsimp only at hSw
        go_simp
        all_goals with_reducible rfl
      try simp only[Act.put,sx]
      refine tl 1 ?_ ?_ hHeld ?_;rotate_left
      . intro w hSw
        try dsimp only at hSw
        go_simp
        all_goals with_reducible rfl
      try simp only[Act.put,sx]
      refine tl 2 ?_ ?_ hHeld ?_;rotate_left
      . intro w hSw;have c1:=hSw.1.cell 1 _ rfl;go_simp
        all_goals with_reducible rfl
      try simp only[Act.put,sx]
      refine tl 3 ?_ ?_ hHeld ?_;rotate_left
      . intro w hSw
        try dsimp only at hSw
        go_simp
        all_goals with_reducible rfl
      try simp only[Act.put,sx]
      refine tl 4 ?_ ?_ hHeld ?_;rotate_left
      . intro w hSw
        try dsimp only at hSw
        go_simp
        all_goals with_reducible rfl
      try simp only[Act.put,sx]
      refine tl 5 ?_ ?_ hHeld ?_;rotate_left
      . intro w hSw
        try dsimp only at hSw
        go_simp
        all_goals with_reducible rfl
      try simp only[Act.put,sx]
      refine tl 6 ?_ ?_ hHeld ?_;rotate_left
      . intro w hSw
        try dsimp only at hSw
        go_simp
        all_goals with_reducible rfl
      try simp only[Act.put,sx]
      refine tl 7 ?_ ?_ hHeld ?_;rotate_left
      . intro w hSw
        try dsimp only at hSw
        go_simp
        all_goals with_reducible rfl
      try simp only[Act.put,sx]
      refine tl 8 ?_ ?_ hHeld ?_;rotate_left
      . intro w hSw
        try dsimp only at hSw
        go_simp
        all_goals with_reducible rfl
      try simp only[Act.put,sx]
      refine wpAnyH_take (i:=9) (oi:=_) (v:=.agg (AW i t x y A n c G m kk fp fq fs fz b).toArray) rfl (by kernel_rfl) (by kernel_rfl) (by kernel_rfl) (fun _ _ _ h=>h) (yieldsIf_load_mid (by rfl) 62 (.tmp 2) rfl w.heap.size 0 rfl (AW i t x y A n c G m kk fp fq fs fz b) _ (fun W hS=>hS.1.range) Tryz.underlying62 rfl Am) hHeld ?_
      try simp only[Act.put,sx]
      refine wpAnyH_take (i:=10) (oi:=_) (v:=.agg (AF s0 p0 z0).toArray) rfl (by kernel_rfl) (by kernel_rfl) (by kernel_rfl) (fun _ _ _ h=>h) (yieldsIf_load_mid (by rfl) 89 (.tmp 5) rfl (w.heap.size+1) 0 rfl (AF s0 p0 z0) _ (fun W hS=>hS.2.1.range) Tryz.underlying89 rfl D7) hHeld ?_
      try simp only[Act.put,sx]
      refine tl 11 ?_ ?_ hHeld ?_;rotate_left
      . intro w hSw
        try dsimp only at hSw
        go_simp
        all_goals with_reducible rfl
      try simp only[Act.put,sx]
      refine tl 12 ?_ ?_ hHeld ?_;rotate_left
      . intro w hSw
        try dsimp only at hSw
        go_simp
        all_goals with_reducible rfl
      try simp only[Act.put,sx]
      refine tl 13 ?_ ?_ hHeld ?_;rotate_left
      . intro w hSw
        try dsimp only at hSw
        go_simp
        all_goals with_reducible rfl
      try simp only[Act.put,sx]
      refine tl 14 ?_ ?_ hHeld ?_;rotate_left
      . intro w hSw;obtain⟨_,_,d0,d1,d2⟩:=hSw;go_simp
        all_goals with_reducible rfl
      try simp only[Act.put,sx]
      refine wpAnyH_ready (rs:=[15]) (by kernel_rfl) (by simp) ?_;apply AllReadyH.cons rfl ?_ AllReadyH.nil;intro K hK;go_simp
      go_at_call 106
      refine(C.out _).mono ?_;rintro e wn ⟨rfl,B⟩;replace L:=L.step B;replace Q:=Q.step B;replace Z:=Z.step B;replace Hb:=hid (Aa Hb.out B);clear B;clear hHeld;go_wp2_with fail;refine hK.out _ _ ⟨L,Q,AL Z⟩ (fun hHeld=>?_);clear hK K
      try simp only[Act.put,sx]
      refine tl 16 ?_ ?_ hHeld ?_;rotate_left
      . intro w hSw
        try dsimp only at hSw
        go_simp
        all_goals with_reducible rfl
      try simp only[Act.put,sx]
      refine tl 17 ?_ ?_ hHeld ?_;rotate_left
      . intro w hSw
        try dsimp only at hSw
        go_simp
        all_goals with_reducible rfl
      try simp only[Act.put,sx]
      refine wpAnyH_done (by kernel_rfl) ?_ _;have Qf0:=Q.fr 0;have Qf1:=Q.fr 1;have Qf2:=Q.fr 2;obtain⟨Qc0,Qc1,Qc2⟩:=BL Q;have Zc0:=Z.c0;have Zc1:=Z.c1;have Zc2:=Z.c2;replace Ql:=Q.lt;replace Zl:=Z.lt;go_wp2
      go_roundw
      case rel=>exact⟨j+1,a,s,p,false,by omega,by go_num,rfl,by omega,by omega,by rw[E.out]; simp[Hu],((L.far (by omega) _ _).far (by omega) _ _).far (by omega) _ _,((Q.set 0 (by simp) _).set 1 (by simp) _).set 2 (by simp) _,Ar (Ar (Ar Hb.out _ _ _ (by omega)) _ _ _ (by omega)) _ _ _ (by omega)⟩
      case measure=>simp[RowKit.intOf]; omega
    . have d2:=Z.c2;by_cases g1:t<=(j:Int)
      . have E:=hid (e1.out.trans (Bz (NP g1)));clear C;have g1d:decide (t<=(j:Int))=true:=decide_eq_true g1;go_wp2_with fail;refine wp_region_held_drew (S:=fun w'=>CellsAt w' w.heap.size (AW i t x y A n c G m kk fp fq fs fz b)/\CellsAt w' (w.heap.size+1) (AF s0 p0 z0)/\(w'.cell? ⟨bb,off+j*3,none⟩=some (.int .i64 s)/\w'.cell? ⟨bb,off+j*3+1,none⟩=some (.int .i64 p)/\w'.cell? ⟨bb,off+j*3+2,none⟩=some (.bool true))) (by kernel_rfl) ⟨L.drew,Q.drew,AL Z.drew⟩ (fun hHeld=>?_);replace L:=L.drew;replace Q:=Q.drew;replace Z:=Z.drew;replace Hb:=hid (Az Hb.out);refine tl 0 ?_ ?_ hHeld ?_;rotate_left
        . intro w hSw
          try dsimp only at hSw
          go_simp
          all_goals with_reducible rfl
        try simp only[Act.put,sx]
        refine tl 1 ?_ ?_ hHeld ?_;rotate_left
        . intro w hSw
          try dsimp only at hSw
          go_simp
          all_goals with_reducible rfl
        try simp only[Act.put,sx]
        refine tl 2 ?_ ?_ hHeld ?_;rotate_left
        . intro w hSw;have c1:=hSw.1.cell 1 _ rfl;go_simp
          all_goals with_reducible rfl
        try simp only[Act.put,sx]
        refine tl 3 ?_ ?_ hHeld ?_;rotate_left
        . intro w hSw
          try dsimp only at hSw
          go_simp
          all_goals with_reducible rfl
        try simp only[Act.put,sx]
        refine tl 4 ?_ ?_ hHeld ?_;rotate_left
        . intro w hSw
          try dsimp only at hSw
          go_simp
          all_goals with_reducible rfl
        try simp only[Act.put,sx]
        refine wpAnyH_take (i:=5) (oi:=_) (v:=undef) rfl (by kernel_rfl) (by kernel_rfl) (by kernel_rfl) (fun _ _ _ h=>h) (Or.inr ⟨by rfl,rfl⟩) hHeld ?_
        try simp only[Act.put,sx]
        refine wpAnyH_take (i:=6) (oi:=_) (v:=undef) rfl (by kernel_rfl) (by kernel_rfl) (by kernel_rfl) (fun _ _ _ h=>h) (Or.inr ⟨by rfl,rfl⟩) hHeld ?_
        try simp only[Act.put,sx]
        refine tl 7 ?_ ?_ hHeld ?_;rotate_left
        . intro w hSw
          try dsimp only at hSw
          go_simp
          all_goals with_reducible rfl
        try simp only[Act.put,sx]
        refine tl 8 ?_ ?_ hHeld ?_;rotate_left
        . intro w hSw
          try dsimp only at hSw
          go_simp
          all_goals with_reducible rfl
        try simp only[Act.put,sx]
        refine wpAnyH_take (i:=9) (oi:=_) (v:=undef) rfl (by kernel_rfl) (by kernel_rfl) (by kernel_rfl) (fun _ _ _ h=>h) (Or.inr ⟨by rfl,rfl⟩) hHeld ?_
        try simp only[Act.put,sx]
        refine wpAnyH_take (i:=10) (oi:=_) (v:=undef) rfl (by kernel_rfl) (by kernel_rfl) (by kernel_rfl) (fun _ _ _ h=>h) (Or.inr ⟨by rfl,rfl⟩) hHeld ?_
        try simp only[Act.put,sx]
        refine wpAnyH_take (i:=11) (oi:=_) (v:=undef) rfl (by kernel_rfl) (by kernel_rfl) (by kernel_rfl) (fun _ _ _ h=>h) (Or.inr ⟨by rfl,rfl⟩) hHeld ?_
        try simp only[Act.put,sx]
        refine wpAnyH_take (i:=12) (oi:=_) (v:=undef) rfl (by kernel_rfl) (by kernel_rfl) (by kernel_rfl) (fun _ _ _ h=>h) (Or.inr ⟨by rfl,rfl⟩) hHeld ?_
        try simp only[Act.put,sx]
        refine wpAnyH_take (i:=13) (oi:=_) (v:=undef) rfl (by kernel_rfl) (by kernel_rfl) (by kernel_rfl) (fun _ _ _ h=>h) (Or.inr ⟨by rfl,rfl⟩) hHeld ?_
        try simp only[Act.put,sx]
        refine wpAnyH_take (i:=14) (oi:=_) (v:=undef) rfl (by kernel_rfl) (by kernel_rfl) (by kernel_rfl) (fun _ _ _ h=>h) (Or.inr ⟨by rfl,rfl⟩) hHeld ?_
        try simp only[Act.put,sx]
        refine wpAnyH_take (i:=15) (oi:=_) (v:=undef) rfl (by kernel_rfl) (by kernel_rfl) (by kernel_rfl) (fun _ _ _ h=>h) (Or.inr ⟨by rfl,rfl⟩) hHeld ?_
        try simp only[Act.put,sx]
        refine wpAnyH_take (i:=16) (oi:=_) (v:=undef) rfl (by kernel_rfl) (by kernel_rfl) (by kernel_rfl) (fun _ _ _ h=>h) (Or.inr ⟨by rfl,rfl⟩) hHeld ?_
        try simp only[Act.put,sx]
        refine tl 17 ?_ ?_ hHeld ?_;rotate_left
        . intro w hSw
          try dsimp only at hSw
          go_simp
          all_goals with_reducible rfl
        try simp only[Act.put,sx]
        refine wpAnyH_done (by kernel_rfl) ?_ _;go_wp2;go_ret;exact⟨AN (by rw[E.out]),Hb.out⟩
      have g1:(j:Int)<t:=by omega
      have g1d:decide (t<=(j:Int))=false:=decide_eq_false (by omega);by_cases g2:a=3
      . subst g2;have E:=hid (e1.out.trans (Bz (NY (show 3<Hu 3 true by decide))));clear C;go_wp2_with fail;refine wp_region_held_drew (S:=fun w'=>CellsAt w' w.heap.size (AW i t x y A n c G m kk fp fq fs fz b)/\CellsAt w' (w.heap.size+1) (AF s0 p0 z0)/\(w'.cell? ⟨bb,off+j*3,none⟩=some (.int .i64 s)/\w'.cell? ⟨bb,off+j*3+1,none⟩=some (.int .i64 p)/\w'.cell? ⟨bb,off+j*3+2,none⟩=some (.bool true))) (by kernel_rfl) ⟨L.drew,Q.drew,AL Z.drew⟩ (fun hHeld=>?_);replace L:=L.drew;replace Q:=Q.drew;replace Z:=Z.drew;replace Hb:=hid (Az Hb.out);refine tl 0 ?_ ?_ hHeld ?_;rotate_left
        . intro w hSw
          try dsimp only at hSw
          go_simp
          all_goals with_reducible rfl
        try simp only[Act.put,sx]
        refine tl 1 ?_ ?_ hHeld ?_;rotate_left
        . intro w hSw
          try dsimp only at hSw
          go_simp
          all_goals with_reducible rfl
        try simp only[Act.put,sx]
        refine tl 2 ?_ ?_ hHeld ?_;rotate_left
        . intro w hSw;have c1:=hSw.1.cell 1 _ rfl;go_simp
          all_goals with_reducible rfl
        try simp only[Act.put,sx]
        refine tl 3 ?_ ?_ hHeld ?_;rotate_left
        . intro w hSw
          try dsimp only at hSw
          go_simp
          all_goals with_reducible rfl
        try simp only[Act.put,sx]
        refine tl 4 ?_ ?_ hHeld ?_;rotate_left
        . intro w hSw
          try dsimp only at hSw
          go_simp
          all_goals with_reducible rfl
        try simp only[Act.put,sx]
        refine tl 5 ?_ ?_ hHeld ?_;rotate_left
        . intro w hSw
          try dsimp only at hSw
          go_simp
          all_goals with_reducible rfl
        try simp only[Act.put,sx]
        refine tl 6 ?_ ?_ hHeld ?_;rotate_left
        . intro w hSw
          try dsimp only at hSw
          go_simp
          all_goals with_reducible rfl
        try simp only[Act.put,sx]
        refine tl 7 ?_ ?_ hHeld ?_;rotate_left
        . intro w hSw
          try dsimp only at hSw
          go_simp
          all_goals with_reducible rfl
        try simp only[Act.put,sx]
        refine tl 8 ?_ ?_ hHeld ?_;rotate_left
        . intro w hSw
          try dsimp only at hSw
          go_simp
          all_goals with_reducible rfl
        try simp only[Act.put,sx]
        refine wpAnyH_take (i:=9) (oi:=_) (v:=undef) rfl (by kernel_rfl) (by kernel_rfl) (by kernel_rfl) (fun _ _ _ h=>h) (Or.inr ⟨by rfl,rfl⟩) hHeld ?_
        try simp only[Act.put,sx]
        refine wpAnyH_take (i:=10) (oi:=_) (v:=undef) rfl (by kernel_rfl) (by kernel_rfl) (by kernel_rfl) (fun _ _ _ h=>h) (Or.inr ⟨by rfl,rfl⟩) hHeld ?_
        try simp only[Act.put,sx]
        refine wpAnyH_take (i:=11) (oi:=_) (v:=undef) rfl (by kernel_rfl) (by kernel_rfl) (by kernel_rfl) (fun _ _ _ h=>h) (Or.inr ⟨by rfl,rfl⟩) hHeld ?_
        try simp only[Act.put,sx]
        refine wpAnyH_take (i:=12) (oi:=_) (v:=undef) rfl (by kernel_rfl) (by kernel_rfl) (by kernel_rfl) (fun _ _ _ h=>h) (Or.inr ⟨by rfl,rfl⟩) hHeld ?_
        try simp only[Act.put,sx]
        refine wpAnyH_take (i:=13) (oi:=_) (v:=undef) rfl (by kernel_rfl) (by kernel_rfl) (by kernel_rfl) (fun _ _ _ h=>h) (Or.inr ⟨by rfl,rfl⟩) hHeld ?_
        try simp only[Act.put,sx]
        refine wpAnyH_take (i:=14) (oi:=_) (v:=undef) rfl (by kernel_rfl) (by kernel_rfl) (by kernel_rfl) (fun _ _ _ h=>h) (Or.inr ⟨by rfl,rfl⟩) hHeld ?_
        try simp only[Act.put,sx]
        refine wpAnyH_take (i:=15) (oi:=_) (v:=undef) rfl (by kernel_rfl) (by kernel_rfl) (by kernel_rfl) (fun _ _ _ h=>h) (Or.inr ⟨by rfl,rfl⟩) hHeld ?_
        try simp only[Act.put,sx]
        refine wpAnyH_take (i:=16) (oi:=_) (v:=undef) rfl (by kernel_rfl) (by kernel_rfl) (by kernel_rfl) (fun _ _ _ h=>h) (Or.inr ⟨by rfl,rfl⟩) hHeld ?_
        try simp only[Act.put,sx]
        refine tl 17 ?_ ?_ hHeld ?_;rotate_left
        . intro w hSw
          try dsimp only at hSw
          go_simp
          all_goals with_reducible rfl
        try simp only[Act.put,sx]
        refine wpAnyH_done (by kernel_rfl) ?_ _;go_wp2;go_ret;exact⟨AN (by rw[E.out]),Hb.out⟩
      have g2:a+1<=3:=by omega
      have g2d:decide (3<a+1)=false:=decide_eq_false (by omega);cases hf:Er b s0 s p true
      . have E:=hid (e1.out.trans (Bz (NQ hf)));rw[hf] at C;replace C:=hid C;go_wp2_with fail;refine wp_region_held_drew (S:=fun w'=>CellsAt w' w.heap.size (AW i t x y A n c G m kk fp fq fs fz b)/\CellsAt w' (w.heap.size+1) (AF s0 p0 z0)/\(w'.cell? ⟨bb,off+j*3,none⟩=some (.int .i64 s)/\w'.cell? ⟨bb,off+j*3+1,none⟩=some (.int .i64 p)/\w'.cell? ⟨bb,off+j*3+2,none⟩=some (.bool true))) (by kernel_rfl) ⟨L.drew,Q.drew,AL Z.drew⟩ (fun hHeld=>?_);replace L:=L.drew;replace Q:=Q.drew;replace Z:=Z.drew;replace Hb:=hid (Az Hb.out);refine tl 0 ?_ ?_ hHeld ?_;rotate_left
        . intro w hSw
          try dsimp only at hSw
          go_simp
          all_goals with_reducible rfl
        try simp only[Act.put,sx]
        refine tl 1 ?_ ?_ hHeld ?_;rotate_left
        . intro w hSw
          try dsimp only at hSw
          go_simp
          all_goals with_reducible rfl
        try simp only[Act.put,sx]
        refine tl 2 ?_ ?_ hHeld ?_;rotate_left
        . intro w hSw;have c1:=hSw.1.cell 1 _ rfl;go_simp
          all_goals with_reducible rfl
        try simp only[Act.put,sx]
        refine tl 3 ?_ ?_ hHeld ?_;rotate_left
        . intro w hSw
          try dsimp only at hSw
          go_simp
          all_goals with_reducible rfl
        try simp only[Act.put,sx]
        refine tl 4 ?_ ?_ hHeld ?_;rotate_left
        . intro w hSw
          try dsimp only at hSw
          go_simp
          all_goals with_reducible rfl
        try simp only[Act.put,sx]
        refine tl 5 ?_ ?_ hHeld ?_;rotate_left
        . intro w hSw
          try dsimp only at hSw
          go_simp
          all_goals with_reducible rfl
        try simp only[Act.put,sx]
        refine tl 6 ?_ ?_ hHeld ?_;rotate_left
        . intro w hSw
          try dsimp only at hSw
          go_simp
          all_goals with_reducible rfl
        try simp only[Act.put,sx]
        refine tl 7 ?_ ?_ hHeld ?_;rotate_left
        . intro w hSw
          try dsimp only at hSw
          go_simp
          all_goals with_reducible rfl
        try simp only[Act.put,sx]
        refine tl 8 ?_ ?_ hHeld ?_;rotate_left
        . intro w hSw
          try dsimp only at hSw
          go_simp
          all_goals with_reducible rfl
        try simp only[Act.put,sx]
        refine wpAnyH_take (i:=9) (oi:=_) (v:=.agg (AW i t x y A n c G m kk fp fq fs fz b).toArray) rfl (by kernel_rfl) (by kernel_rfl) (by kernel_rfl) (fun _ _ _ h=>h) (yieldsIf_load_mid (by rfl) 62 (.tmp 2) rfl w.heap.size 0 rfl (AW i t x y A n c G m kk fp fq fs fz b) _ (fun W hS=>hS.1.range) Tryz.underlying62 rfl Am) hHeld ?_
        try simp only[Act.put,sx]
        refine wpAnyH_take (i:=10) (oi:=_) (v:=.agg (AF s0 p0 z0).toArray) rfl (by kernel_rfl) (by kernel_rfl) (by kernel_rfl) (fun _ _ _ h=>h) (yieldsIf_load_mid (by rfl) 89 (.tmp 5) rfl (w.heap.size+1) 0 rfl (AF s0 p0 z0) _ (fun W hS=>hS.2.1.range) Tryz.underlying89 rfl D7) hHeld ?_
        try simp only[Act.put,sx]
        refine tl 11 ?_ ?_ hHeld ?_;rotate_left
        . intro w hSw
          try dsimp only at hSw
          go_simp
          all_goals with_reducible rfl
        try simp only[Act.put,sx]
        refine tl 12 ?_ ?_ hHeld ?_;rotate_left
        . intro w hSw
          try dsimp only at hSw
          go_simp
          all_goals with_reducible rfl
        try simp only[Act.put,sx]
        refine tl 13 ?_ ?_ hHeld ?_;rotate_left
        . intro w hSw
          try dsimp only at hSw
          go_simp
          all_goals with_reducible rfl
        try simp only[Act.put,sx]
        refine tl 14 ?_ ?_ hHeld ?_;rotate_left
        . intro w hSw;obtain⟨_,_,d0,d1,d2⟩:=hSw;go_simp
          all_goals with_reducible rfl
        try simp only[Act.put,sx]
        refine wpAnyH_ready (rs:=[15]) (by kernel_rfl) (by simp) ?_;apply AllReadyH.cons rfl ?_ AllReadyH.nil;intro K hK;go_simp
        go_at_call 106
        refine(C.out _).mono ?_;rintro e wn ⟨rfl,B⟩;replace L:=L.step B;replace Q:=Q.step B;replace Z:=Z.step B;replace Hb:=hid (Aa Hb.out B);clear B;clear hHeld;go_wp2_with fail;refine hK.out _ _ ⟨L,Q,AL Z⟩ (fun hHeld=>?_);clear hK K
        try simp only[Act.put,sx]
        refine tl 16 ?_ ?_ hHeld ?_;rotate_left
        . intro w hSw
          try dsimp only at hSw
          go_simp
          all_goals with_reducible rfl
        try simp only[Act.put,sx]
        refine tl 17 ?_ ?_ hHeld ?_;rotate_left
        . intro w hSw
          try dsimp only at hSw
          go_simp
          all_goals with_reducible rfl
        try simp only[Act.put,sx]
        refine wpAnyH_done (by kernel_rfl) ?_ _;go_wp2;go_ret;exact⟨AN (by rw[E.out]),Hb.out⟩
      have E:=hid (e1.out.trans (E3 (Lb g1 (show Hu a true<=3 by simp only[Hu]; simpa using g2) hf)));have hv:=(Dc (FY hf)).1;rw[hf] at C;replace C:=hid C;go_wp2_with fail;refine wp_region_held_drew (S:=fun w'=>CellsAt w' w.heap.size (AW i t x y A n c G m kk fp fq fs fz b)/\CellsAt w' (w.heap.size+1) (AF s0 p0 z0)/\(w'.cell? ⟨bb,off+j*3,none⟩=some (.int .i64 s)/\w'.cell? ⟨bb,off+j*3+1,none⟩=some (.int .i64 p)/\w'.cell? ⟨bb,off+j*3+2,none⟩=some (.bool true))) (by kernel_rfl) ⟨L.drew,Q.drew,AL Z.drew⟩ (fun hHeld=>?_);replace L:=L.drew;replace Q:=Q.drew;replace Z:=Z.drew;replace Hb:=hid (Az Hb.out)
      refine tl 0 ?_ ?_ hHeld ?_;rotate_left
      . intro w hSw
        try dsimp only at hSw
        go_simp
        all_goals with_reducible rfl
      try simp only[Act.put,sx]
      refine tl 1 ?_ ?_ hHeld ?_;rotate_left
      . intro w hSw
        try dsimp only at hSw
        go_simp
        all_goals with_reducible rfl
      try simp only[Act.put,sx]
      refine tl 2 ?_ ?_ hHeld ?_;rotate_left
      . intro w hSw;have c1:=hSw.1.cell 1 _ rfl;go_simp
        all_goals with_reducible rfl
      try simp only[Act.put,sx]
      refine tl 3 ?_ ?_ hHeld ?_;rotate_left
      . intro w hSw
        try dsimp only at hSw
        go_simp
        all_goals with_reducible rfl
      try simp only[Act.put,sx]
      refine tl 4 ?_ ?_ hHeld ?_;rotate_left
      . intro w hSw
        try dsimp only at hSw
        go_simp
        all_goals with_reducible rfl
      try simp only[Act.put,sx]
      refine tl 5 ?_ ?_ hHeld ?_;rotate_left
      . intro w hSw
        try dsimp only at hSw
        go_simp
        all_goals with_reducible rfl
      try simp only[Act.put,sx]
      refine tl 6 ?_ ?_ hHeld ?_;rotate_left
      . intro w hSw
        try dsimp only at hSw
        go_simp
        all_goals with_reducible rfl
      try simp only[Act.put,sx]
      refine tl 7 ?_ ?_ hHeld ?_;rotate_left
      . intro w hSw
        try dsimp only at hSw
        go_simp
        all_goals with_reducible rfl
      try simp only[Act.put,sx]
      refine tl 8 ?_ ?_ hHeld ?_;rotate_left
      . intro w hSw
        try dsimp only at hSw
        go_simp
        all_goals with_reducible rfl
      try simp only[Act.put,sx]
      refine wpAnyH_take (i:=9) (oi:=_) (v:=.agg (AW i t x y A n c G m kk fp fq fs fz b).toArray) rfl (by kernel_rfl) (by kernel_rfl) (by kernel_rfl) (fun _ _ _ h=>h) (yieldsIf_load_mid (by rfl) 62 (.tmp 2) rfl w.heap.size 0 rfl (AW i t x y A n c G m kk fp fq fs fz b) _ (fun W hS=>hS.1.range) Tryz.underlying62 rfl Am) hHeld ?_
      try simp only[Act.put,sx]
      refine wpAnyH_take (i:=10) (oi:=_) (v:=.agg (AF s0 p0 z0).toArray) rfl (by kernel_rfl) (by kernel_rfl) (by kernel_rfl) (fun _ _ _ h=>h) (yieldsIf_load_mid (by rfl) 89 (.tmp 5) rfl (w.heap.size+1) 0 rfl (AF s0 p0 z0) _ (fun W hS=>hS.2.1.range) Tryz.underlying89 rfl D7) hHeld ?_
      try simp only[Act.put,sx]
      refine tl 11 ?_ ?_ hHeld ?_;rotate_left
      . intro w hSw
        try dsimp only at hSw
        go_simp
        all_goals with_reducible rfl
      try simp only[Act.put,sx]
      refine tl 12 ?_ ?_ hHeld ?_;rotate_left
      . intro w hSw
        try dsimp only at hSw
        go_simp
        all_goals with_reducible rfl
      try simp only[Act.put,sx]
      refine tl 13 ?_ ?_ hHeld ?_;rotate_left
      . intro w hSw
        try dsimp only at hSw
        go_simp
        all_goals with_reducible rfl
      try simp only[Act.put,sx]
      refine tl 14 ?_ ?_ hHeld ?_;rotate_left
      . intro w hSw;obtain⟨_,_,d0,d1,d2⟩:=hSw;go_simp
        all_goals with_reducible rfl
      try simp only[Act.put,sx]
      refine wpAnyH_ready (rs:=[15]) (by kernel_rfl) (by simp) ?_;apply AllReadyH.cons rfl ?_ AllReadyH.nil;intro K hK;go_simp
      go_at_call 106
      refine(C.out _).mono ?_;rintro e wn ⟨rfl,B⟩;replace L:=L.step B;replace Q:=Q.step B;replace Z:=Z.step B;replace Hb:=hid (Aa Hb.out B);clear B;clear hHeld;go_wp2_with fail;refine hK.out _ _ ⟨L,Q,AL Z⟩ (fun hHeld=>?_);clear hK K
      try simp only[Act.put,sx]
      refine tl 16 ?_ ?_ hHeld ?_;rotate_left
      . intro w hSw
        try dsimp only at hSw
        go_simp
        all_goals with_reducible rfl
      try simp only[Act.put,sx]
      refine tl 17 ?_ ?_ hHeld ?_;rotate_left
      . intro w hSw
        try dsimp only at hSw
        go_simp
        all_goals with_reducible rfl
      try simp only[Act.put,sx]
      refine wpAnyH_done (by kernel_rfl) ?_ _;have Qf0:=Q.fr 0;have Qf1:=Q.fr 1;have Qf2:=Q.fr 2;obtain⟨Qc0,Qc1,Qc2⟩:=BL Q;have Zc0:=Z.c0;have Zc1:=Z.c1;have Zc2:=Z.c2;replace Ql:=Q.lt;replace Zl:=Z.lt;go_wp2
      go_roundw
      case rel=>exact⟨j+1,a+1,s,p,true,by omega,by go_num,by go_num,by omega,by omega,by rw[E.out]; simp[Hu],((L.far (by omega) _ _).far (by omega) _ _).far (by omega) _ _,((Q.set 0 (by simp) _).set 1 (by simp) _).set 2 (by simp) _,Ar (Ar (Ar Hb.out _ _ _ (by omega)) _ _ _ (by omega)) _ _ _ (by omega)⟩
      case measure=>simp[RowKit.intOf]; omega
  . have E:=hid (LA hl.out (by omega) e0.out);have B:=hid B;go_wp2;go_ret;exact⟨AN (by rw[E.out]),B.out⟩
end Go.Proofs.YtgbiagonfbnooaaGreatDoor
