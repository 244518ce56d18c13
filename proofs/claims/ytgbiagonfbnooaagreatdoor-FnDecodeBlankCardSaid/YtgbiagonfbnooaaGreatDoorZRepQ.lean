import Derived.Test.YtgbiagonfbnooaaGreatDoorZMul
import Derived.Test.YtgbiagonfbnooaaGreatDoorZLevLink
import Derived.Test.YtgbiagonfbnooaaGreatDoorZRepA
import Derived.Laws.IdiomCopy
import Derived.Laws.MakeOwn
set_option linter.all false
set_option maxRecDepth 100000
set_option maxHeartbeats 8000000
open Go.Lib
namespace Go.Proofs.YtgbiagonfbnooaaGreatDoor
open Go.RowKit
open M
theorem CellsAt.sets{b:Nat}:∀(vs:List Value) {W:World} {us:List Value} (o:Nat),CellsAt W b us->o+vs.length<=us.length->CellsAt (W.setCells b o vs) b (us.take o++vs++us.drop (o+vs.length))
 | [],W,us,o,h,_=>by simpa[World.setCells] using h
 | v::vs,W,us,o,h,hl=>by
  simp only[List.length_cons] at hl;have ih:=CellsAt.sets vs (o+1) (h.set o (by omega) v) (by simp; omega);have e:(us.set o v).take (o+1)++vs++(us.set o v).drop (o+1+vs.length)=us.take o++(v::vs)++us.drop (o+(v::vs).length):=by
   have h1:(us.set o v).drop (o+1+vs.length)=us.drop (o+1+vs.length):=List.drop_set_of_lt (by omega);have h2:(us.set o v).take (o+1)=us.take o++[v]:=by
    rw[List.take_add_one,List.take_set_of_le (Nat.le_refl _)];simp[List.getElem?_set,show o<us.length by omega]
   rw[h1,h2];simp[Nat.add_assoc,Nat.add_comm 1]
  rw[<- e];exact ih
theorem Dm{w:World}(ty:TypeId)(g o dLen dCap:Nat)(A:Option Addr)(sLen sCap:Nat)(xs:List In)(us:List Value)(Y:Inputs w A sLen xs)(D:CellsAt w g us)(k:Nat)(hk:k=Nat.min sLen dLen)(h0:0<k)(ho:o+k*3<=us.length) :
 (Builtin.copy_ #[23,23] ty #[.slice (some ⟨g,o,none⟩) dLen dCap,.slice A sLen sCap]).run Tryz.prog w=.ok (.int .i64 k) (w.setCells g o (AZ (xs.take k))):=by
 have hks:k<=sLen:=by rw[hk]; exact Nat.min_le_left _ _
 obtain⟨b,off,rfl,hb,hc⟩:=Y.2 (by omega);have hT:=Y.take hks;have hlen:(AZ (xs.take k)).length=k*3:=by rw[AV,hT.1]
 have hl:=run_loadCells_list (P:=Tryz.prog) w ⟨b,off,none⟩ (AZ (xs.take k)) hT.news;rw[hlen] at hl;have hst:=run_storeCells_cells (P:=Tryz.prog) g o (AZ (xs.take k)) 0 w (fun j hj=>by
  rw[Nat.add_zero];rw[hlen] at hj;rw[D.cell (o+j) _ (List.getElem?_eq_getElem (by omega))]; rfl) (fun j hj=>by rw[Nat.add_zero]; exact D.fr _) (FE _)
 obtain⟨i0,hi,hz0,hz1,hz2⟩:=info_parts Dl;simp[Builtin.copy_,run_underlying Tryz.underlying23,Builtin.lenOf,Builtin.firstCells,sizeOf,typeInfo,hi,hz1,<- hk,hl,hst,goInt]
theorem EN(q:In)(m i:Nat)(h:i<m*3):(AZ (List.replicate m q))[i]?=some (DK q (i % 3)):=by
 have t:=CU (List.replicate m q) (i / 3) (i % 3) (by simp; omega) (by omega);have e1:i / 3*3+i % 3=i:=by omega
 have e2:(List.replicate m q).getD (i / 3) iz=q:=by
  rw[List.getD_eq_getElem?_getD,List.getElem?_replicate,if_pos (by omega)];rfl
 rw[e1,e2] at t;exact t
theorem KC(m:Nat):madeCells (BK 0 0 false).cells (m*3)=(AZ (List.replicate m iz)).toArray:=by
 apply Array.ext
 . simp[size_madeCells,AV]
 . intro i h1 h2;rw[size_madeCells] at h1;have t:=EN iz m i h1;have hi:i<(AZ (List.replicate m iz)).length:=by simpa using h2
   rw[List.getElem?_eq_getElem hi] at t;simp only[List.getElem_toArray];have t2:=Option.some.inj t;rw[t2];have h3:i % 3=0\/i % 3=1\/i % 3=2:=by omega
   simp only[madeCells,Array.getElem_map,Array.getElem_range];have hs:(BK 0 0 false).cells.size=3:=rfl;rw[hs];rcases h3 with e | e | e<;>rw[e]<;>rfl
theorem FT(m:Nat)(hm:m<=60)(W:World):(Instr.makeSlice 23 (.int .i64 m) (.int .i64 m)).run Tryz.prog W=.ok (.slice (some ⟨W.heap.size,0,none⟩) m m) (W.alloc (.cells (AZ (List.replicate m iz)).toArray 89)):=by
 obtain⟨i0,hi,hz0,hz1,hz2⟩:=info_parts Dl;have t:=run_make (P:=Tryz.prog) W 23 89 i0 (BK 0 0 false) Tryz.underlying23 hi hz0 .i64 .i64 m m (by omega) (Int.le_refl _) (by rw[hz2]; omega) (by omega);rw[hz1] at t;simp only[Int.toNat_natCast] at t;rw[KC] at t;exact t
theorem Gw(q:In)(m k j:Nat)(h:k+j<=m):(AZ (List.replicate k q++List.replicate (m-k) iz)).take (k*3)++AZ (List.replicate j q)++(AZ (List.replicate k q++List.replicate (m-k) iz)).drop (k*3+(AZ (List.replicate j q)).length)=AZ (List.replicate (k+j) q++List.replicate (m-(k+j)) iz):=by
 have e1:(AZ (List.replicate k q)).length=k*3:=by simp[AV]
 have e2:List.replicate (m-k) iz=List.replicate j iz++List.replicate (m-(k+j)) iz:=by
  rw[List.replicate_append_replicate]; congr 1; omega
 have e3:(AZ (List.replicate j q)).length=(AZ (List.replicate j iz)).length:=by simp[AV]
 rw[e2,Bf,Bf,<- List.replicate_append_replicate,Bf,Bf];rw[List.take_append_of_le_length (by omega),List.take_of_length_le (by omega),e3,<- e1,<- List.drop_drop,List.drop_left,List.drop_left]
theorem EO{W:World}{g:Nat}{q:In}{k m:Nat}(D:CellsAt W g (AZ (List.replicate k q++List.replicate (m-k) iz))):Inputs W (some ⟨g,0,none⟩) k (List.replicate k q) :=
 ⟨by simp,fun _=>⟨g,0,rfl,D.lt,fun j hj=>by
  have e2:(List.replicate k q).getD j iz=q:=by
   rw[List.getD_eq_getElem?_getD,List.getElem?_replicate,if_pos hj];rfl
  rw[e2,Nat.zero_add];have t:∀ r,r<3->W.cell? ⟨g,j*3+r,none⟩=some (DK q r):=fun r hr=>by
   refine D.cell _ _ ?_;rw[Bf,List.getElem?_append_left (by simp[AV]; omega),EN q k _ (by omega)];congr 2;omega
  exact⟨t 0 (by omega),t 1 (by omega),t 2 (by omega)⟩⟩⟩
def NF(w:World)(g m:Nat)(q:In)(iv:Value)(W:World):Prop:=∃ k:Nat,1<=k/\k<=m/\iv=.int .i64 k/\CellsAt W g (AZ (List.replicate k q++List.replicate (m-k) iz))/\Below w.heap.size w W
theorem Gx{w:World}{o:Oper}{a:Act}{K:Act->World->Prop}{Q:Exit->Act->World->Prop}(d s:Operand)
 (ho:o.op=.call { callee:=.builtin .copy,args:=#[d,s],argTypes:=#[23,23] }) (v u:Value) (hd:a.eval d=v) (hs:a.eval s=u) {v':Value} {w':World}
 (hr:(Builtin.copy_ #[23,23] o.type #[v,u]).run Tryz.prog w=.ok v' w') (h:K (a.put o.dst v') w'):o.wp Tryz.prog a w K Q:=by
 unfold Oper.wp execOp;simp only[ho,resolve,invoke,builtin,Sem.run_bind,Sem.run_pure,Result.andThen_ok,List.map_toArray,List.map_cons,List.map_nil,hd,hs,hr];exact h
theorem Hi(A:Option Addr)(c:Nat)(q:In)(m:Nat)(w:World)(Y:Inputs w A 1 [q])(h1:1<=m)(hm:m<=60) :
 Calls Tryz.prog 51 #[.slice A 1 c,.int .i64 m] w fun e w'=>∃ b,e=.returned (.slice (some ⟨b,0,none⟩) m m)/\Inputs w' (some ⟨b,0,none⟩) m (List.replicate m q)/\w.heap.size<=b/\Below w.heap.size w w':=by
 have C1:=fun W=>JU m hm W;have C2:=fun W=>FT m hm W;have Y1:=Y.alloc (.cells (AZ (List.replicate m iz)).toArray 89);have D:CellsAt (w.alloc (.cells (AZ (List.replicate m iz)).toArray 89)) w.heap.size (AZ (List.replicate 0 q++List.replicate (m-0) iz)):=CellsAt.new w _ _ _ rfl;have B:=Ab (Ac w) (.cells (AZ (List.replicate m iz)).toArray 89);have hc1:=Dm (ty:=3) w.heap.size 0 m m A 1 c [q] _ Y1 D 1 (by simp[Nat.min_def]; omega) (by omega) (by simp[AV]; omega);have D1:=CellsAt.sets (AZ (List.replicate 1 q)) (0*3) D (by simp[AV]; omega);rw[Gw q m 0 1 (by omega)] at D1
 have B1:=Bj B (b:=w.heap.size) (Nat.le_refl _) (0*3) (AZ (List.replicate 1 q));have hd0:decide ((m:Int)<0)=false:=decide_eq_false (by omega);have hd1:decide ((9223372036854775807:Int)<(m:Int))=false:=decide_eq_false (by omega);have hw:IntKind.i64.wrap (m:Int)=m:=IntWalk.i64_in _ (by omega);have hu:IntKind.u64.wrap (m:Int)=m:=by rw[IntKind.wrap_u64]; omega
 replace D1:=hid D1;replace B1:=hid B1;clear D B;go_enter Tryz.func51,Tryz.ntmps51;go_wp2_with (go_at_call 76; refine(C1 _).mono ?_; rintro e w' ⟨rfl,rfl⟩);have D2:CellsAt ((w.alloc (.cells (AZ (List.replicate m iz)).toArray 89)).setCells w.heap.size 0 (AZ [q])) w.heap.size (AZ (List.replicate 1 q++List.replicate (m-1) iz)):=D1.out;have B2:Below w.heap.size w ((w.alloc (.cells (AZ (List.replicate m iz)).toArray 89)).setCells w.heap.size 0 (AZ [q])):=B1.out;replace D2:=hid D2;replace B2:=hid B2;clear D1 B1 hc1 C1 C2 Y1;generalize hg:w.heap.size=g at *;replace hg:=hid hg
 go_loopw [8] (NF w g m q) (fun i _=>m-(RowKit.intOf i).toNat)
 case atStart=>exact⟨1,by omega,h1,rfl,D2.out,by rw[hg.out]; exact B2.out⟩
 case round =>
  clear D2 B2;obtain⟨k,k1,km,rfl,D,B⟩:=hrel;by_cases hlt:k<m
  rotate_left
  . obtain rfl:k=m:=by omega
    have I:=hid (EO D);replace B:=hid B;have gl:=D.lt;clear D;go_wp2;go_ret;exact⟨g,rfl,I.out,by have:=hg.out; omega,by have:=B.out; rwa [hg.out] at this⟩
  obtain⟨j,hj⟩:∃ j,j=Nat.min k (m-k):=⟨_,rfl⟩;have hj':j=min k (m-k):=hj;have j1:1<=j:=by omega
  have j2:k+j<=m:=by omega
  have hmk:¬ m=k:=by omega
  have D':=D.drew;have hcp:=Dm (ty:=3) g (k*3) (m-k) (m-k) (some ⟨g,0,none⟩) k m (List.replicate k q) _ (EO D') D' j hj (by omega) (by simp[AV]; omega);have et:(List.replicate k q).take j=List.replicate j q:=by
   rw[List.take_replicate]; congr 1; omega
  rw[et] at hcp;have DN:=CellsAt.sets (AZ (List.replicate j q)) (k*3) D' (by simp[AV]; omega);rw[Gw q m k j j2] at DN;have BN:=Bj B.drew (b:=g) (by have:=hg.out; omega) (k*3) (AZ (List.replicate j q));have k0:(0:Int)<=(k:Int):=by omega
  have ki:(k:Int)<=(m:Int):=by omega
  have kw:IntKind.i64.wrap ((k:Int)+(j:Int))=((k+j:Nat):Int):=by rw[IntWalk.i64_in _ (by omega)]; omega
  replace DN:=hid DN;replace BN:=hid BN;clear D D' B et hj' hj;go_wp2_with fail;refine wp_region_held_drew (S:=fun w'=>True) (by kernel_rfl) trivial (fun hHeld=>?_);refine tl 0 ?_ ?_ hHeld ?_;rotate_left
  . intro w hSw
    try dsimp only at hSw
    go_simp
    all_goals with_reducible rfl
  try simp only[Act.put,sx]
  refine tl 1 ?_ ?_ hHeld ?_;rotate_left
  . intro w hSw
    try dsimp only at hSw
    go_simp
    all_goals with_reducible rfl
  try simp only[Act.put,sx]
  refine tl 2 ?_ ?_ hHeld ?_;rotate_left
  . intro w hSw
    try dsimp only at hSw
    go_simp
    all_goals with_reducible rfl
  try simp only[Act.put,sx]
  refine tl 3 ?_ ?_ hHeld ?_;rotate_left
  . intro w hSw
    try dsimp only at hSw
    go_simp
    all_goals with_reducible rfl
  try simp only[Act.put,sx]
  refine tl 4 ?_ ?_ hHeld ?_;rotate_left
  . intro w hSw
    try dsimp only at hSw
    go_simp
    all_goals with_reducible rfl
  try simp only[Act.put,sx]
  refine tl 5 ?_ ?_ hHeld ?_;rotate_left
  . intro w hSw
    try dsimp only at hSw
    go_simp
    all_goals with_reducible rfl
  try simp only[Act.put,sx]
  refine tl 6 ?_ ?_ hHeld ?_;rotate_left
  . intro w hSw
    try dsimp only at hSw
    go_simp
    all_goals with_reducible rfl
  try simp only[Act.put,sx]
  refine wpAnyH_ready (rs:=[7]) (by kernel_rfl) (by simp) ?_;apply AllReadyH.cons rfl ?_ AllReadyH.nil;intro K hK;dsimp only[List.getElem_toArray,List.getElem_cons_succ,List.getElem_cons_zero];rw[if_pos (by rfl)];refine Gx (.tmp 41) (.tmp 44) rfl _ _ (by simp[Act.eval,hmk]) rfl hcp ?_;refine hK.out _ _ trivial (fun hHeld=>?_);clear hK K
  try simp only[Act.put,sx]
  refine tl 8 ?_ ?_ hHeld ?_;rotate_left
  . intro w hSw
    try dsimp only at hSw
    go_simp
    all_goals with_reducible rfl
  try simp only[Act.put,sx]
  refine tl 9 ?_ ?_ hHeld ?_;rotate_left
  . intro w hSw
    try dsimp only at hSw
    go_simp
    all_goals with_reducible rfl
  try simp only[Act.put,sx]
  refine wpAnyH_done (by kernel_rfl) ?_ _;go_wp2
  go_roundw
  case rel=>exact⟨k+j,by omega,by omega,by go_num,DN.out,by have:=BN.out; rwa [hg.out] at this⟩
  case measure=>simp[RowKit.intOf]; omega
theorem Gy(p:Option Addr)(lo hi:Nat)(q:Pt)(qs:List Pt)(w:World)(C:ChainP w lo hi (q::qs) (.pointer p)) :
 Calls Tryz.prog 50 #[.pointer p] w fun e w'=>e=.returned (.bool (Fg qs q.c))/\Below w.heap.size w w':=by
 obtain⟨g,nx,e1,hg1,hg2,hG,hT⟩:=ChainP.cons C;cases e1
 clear C;obtain⟨qc,qm⟩:=q;simp only at hG;obtain⟨g0,g1,g2⟩:=BL hG;have g3:=hG.lt;cases qs with
 | nil =>
  obtain rfl:nx=none:=by simpa[ChainP] using hT
  clear hT hG;go_enter Tryz.func50,Tryz.ntmps50;go_wp2_with fail
  go_quiet (fail)
  go_wp2;go_ret;exact⟨rfl,AY (Ac w) _⟩
 | cons r rs =>
  obtain⟨g',nx',e2,hh1,hh2,hH,hT'⟩:=ChainP.cons hT;cases e2
  clear hT hT';obtain⟨rc,rm⟩:=r;simp only at hH;have k0:=hH.cell 0 _ rfl;have k1:=hH.lt;clear hG hH;by_cases hc:rc=qc
  . have hb:(rc==qc)=true:=by simpa using hc
    go_enter Tryz.func50,Tryz.ntmps50;go_wp2_with fail
    go_quiet (fail)
    go_wp2;go_ret;exact⟨Al (by simp[Fg,hc]),AY (Ac w) _⟩
  . have hb:(rc==qc)=false:=by simpa using hc
    go_enter Tryz.func50,Tryz.ntmps50;go_wp2_with fail
    go_quiet (fail)
    go_wp2;go_ret;exact⟨Al (by simp[Fg,hc]),AY (Ac w) _⟩
end Go.Proofs.YtgbiagonfbnooaaGreatDoor
