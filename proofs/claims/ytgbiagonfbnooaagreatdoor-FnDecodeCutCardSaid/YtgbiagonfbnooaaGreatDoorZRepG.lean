import Derived.Test.YtgbiagonfbnooaaGreatDoorZRepD
import Derived.Laws.IdiomStrings
set_option linter.all false
set_option maxRecDepth 100000
set_option maxHeartbeats 8000000
open Go.Lib
namespace Go.Proofs.YtgbiagonfbnooaaGreatDoor
open Go.RowKit
open M
theorem Gm(w:World)(g c:Nat)(z:Int)(h0:0<=z)(h1:z<=255)(h:w.cell? ⟨g,0,none⟩=some (.int .u8 z)) :
 (convert 22 9 (.slice (some ⟨g,0,none⟩) 1 c)).run Tryz.prog w=.ok (.string (str [UInt8.ofNat z.toNat])) w:=by
 refine run_convert_bytes_back (P:=Tryz.prog) w 22 9 5 ⟨g,0,none⟩ c [UInt8.ofNat z.toNat] Tryz.underlying22 Tryz.underlying5 Tryz.underlying9 fun j hj=>?_;obtain rfl:j=0:=by simp at hj; omega
 rw[Addr.add_lit];refine h.trans ?_;have:(UInt8.ofNat z.toNat).toNat=z.toNat:=by rw[UInt8.toNat_ofNat']; omega
 simp only[List.getElem_cons_zero,this];congr 2;omega
theorem Bo(a b:Tx):str a++str b=str (a++b):=by
 apply ByteArray.ext;simp[str]
theorem M.dec_le{n:Nat}(h:n<10 ^ 16):(dec n).length<=16:=Eg n 15 h
theorem LN:∀(m:Nat) (z:Int) (w:World),z.toNat=m->0<=z->z<1000000000000000 ->
 Calls Tryz.prog 69 #[.int .i64 z] w fun e w'=>e=.returned (.string (str (dec m)))/\Below w.heap.size w w':=by
 intro m
 induction m using Nat.strongRecOn with
 | ind m ih =>
  intro z w hm h0 h1;have g1:decide (z< -9223372036854775807)=false:=decide_eq_false (by omega);have g2:decide (z<0)=false:=decide_eq_false (by omega);by_cases hlt:z<10
  . have g3:decide (z<10)=true:=decide_eq_true hlt;have e:=hid (Bh (n:=m) (by omega));have w1:IntKind.i64.wrap (48+z)=48+z:=IntWalk.i64_in _ (by omega);have w2:IntKind.u8.wrap (48+z)=48+z:=by rw[IntKind.wrap_u8]; omega
    have hv:=Gm (w.alloc (.cells #[.int .u8 (48+z)] 5)) w.heap.size 1 (48+z) (by omega) (by omega) (by simp);have hd:[UInt8.ofNat (48+z).toNat]=dec m:=by rw[e.out,<- hm]; congr 2; omega
    rw[hd] at hv;clear ih e hd;go_enter Tryz.func69,Tryz.ntmps69;go_wp2;go_ret;exact⟨rfl,Ab (Ac w) _⟩
  . have g3:decide (z<10)=false:=decide_eq_false hlt;have e:=Cf (n:=m) (by omega);have C:=fun W=>ih (z / 10).toNat (by omega) (z / 10) W rfl (by omega) (by omega);rw[show(z / 10).toNat=m / 10 by omega] at C;have w1:IntKind.i64.wrap (48+z % 10)=48+z % 10:=IntWalk.i64_in _ (by omega);have w2:IntKind.u8.wrap (48+z % 10)=48+z % 10:=by rw[IntKind.wrap_u8]; omega
    have t1:IntKind.i64.wrap (z.tdiv 10)=z / 10:=by rw[Int.tdiv_eq_ediv_of_nonneg h0]; exact IntWalk.i64_in _ (by omega)
    have t2:z.tmod 10=z % 10:=Int.tmod_eq_emod_of_nonneg h0;have hd:[UInt8.ofNat (48+z % 10).toNat]=[UInt8.ofNat (48+m % 10)]:=by congr 2; omega
    have hlen:(dec (m / 10)).length<=16:=dec_le (by omega);have hv:∀(W:World) (g:Nat),W.cell? ⟨g,0,none⟩=some (.int .u8 (48+z % 10))->(convert 22 9 (.slice (some ⟨g,0,none⟩) 1 1)).run Tryz.prog W=.ok (.string (str [UInt8.ofNat (48+m % 10)])) W:=by
     intro W g hW;have:=Gm W g 1 (48+z % 10) (by omega) (by omega) hW
     rwa [hd] at this
    have es:str (dec (m / 10))++str [UInt8.ofNat (48+m % 10)]=str (dec m):=by rw[Bo,<- e]
    have hone:[UInt8.ofNat (48+m % 10)].length=1:=rfl;generalize [UInt8.ofNat (48+m % 10)]=dg at *;generalize dec (m / 10)=dq at *;have hno:¬ 9223372036854775807<dq.length+dg.length:=by omega
    clear hone hlen;replace C:=hid C;replace hv:=hid hv;replace es:=hid es;clear ih hd e;have z1:0<=z / 10:=by omega
    have B:=hid (Ac w);go_enter Tryz.func69,Tryz.ntmps69;go_wp2_with fail;refine wp_region_held_drew (S:=fun w'=>True) (by kernel_rfl) trivial (fun hHeld=>?_);replace B:=hid (Az B.out);generalize w.drew=w0 at *;refine tl 0 ?_ ?_ hHeld ?_;rotate_left
    . intro w hSw
      try dsimp only at hSw
      go_simp
      all_goals with_reducible rfl
    try simp only[Act.put,sx]
    refine tl 1 ?_ ?_ hHeld ?_;rotate_left
    . intro w hSw
      try dsimp only at hSw
      go_simp
      all_goals with_reducible rfl
    try simp only[Act.put,sx]
    refine tl 3 ?_ ?_ hHeld ?_;rotate_left
    . intro w hSw
      try dsimp only at hSw
      go_simp
      all_goals with_reducible rfl
    try simp only[Act.put,sx]
    refine tl 4 ?_ ?_ hHeld ?_;rotate_left
    . intro w hSw
      try dsimp only at hSw
      go_simp
      all_goals with_reducible rfl
    try simp only[Act.put,sx]
    refine tl 5 ?_ ?_ hHeld ?_;rotate_left
    . intro w hSw
      try dsimp only at hSw
      go_simp
      all_goals with_reducible rfl
    try simp only[Act.put,sx]
    refine tl 6 ?_ ?_ hHeld ?_;rotate_left
    . intro w hSw
      try dsimp only at hSw
      go_simp
      all_goals with_reducible rfl
    try simp only[Act.put,sx]
    refine wpAnyH_ready (rs:=[2,7]) (by kernel_rfl) (by simp) ?_;refine(AllReadyH.cons (o:=_) rfl (fun K hK=>?_) (AllReadyH.cons (o:=_) rfl (fun K hK=>?_) AllReadyH.nil))
    . skip
      go_simp
      go_at_call 69
      refine(C.out _).mono ?_;rintro e w3 ⟨rfl,B3⟩;replace B:=hid (Aa B.out B3);clear B3;clear hHeld;go_wp2_with fail;refine hK.out _ _ trivial (fun hHeld=>?_);clear hK K
      try simp only[Act.put,sx]
      refine wpAnyH_ready (rs:=[7]) (by kernel_rfl) (by simp) ?_;apply AllReadyH.cons rfl ?_ AllReadyH.nil;intro K hK;have c8:(w3.alloc (.cells #[.int .u8 (48+z % 10)] 5)).cell? ⟨w3.heap.size,0,none⟩=some (.int .u8 (48+z % 10)):=by simp
      have hs:w3.heap.size<(w3.alloc (.cells #[.int .u8 (48+z % 10)] 5)).heap.size:=by simp
      replace B:=hid (Ab B.out (.cells #[.int .u8 (48+z % 10)] 5));go_simp;refine hK.out _ _ trivial (fun hHeld=>?_);clear hK K
      try simp only[Act.put,sx]
      generalize (w3.alloc (.cells #[.int .u8 (48+z % 10)] 5))=w4 at *;generalize hsb:w3.heap.size=sb at *;clear hsb;refine wpAnyH_ready (rs:=[8]) (by kernel_rfl) (by simp) ?_;apply AllReadyH.cons rfl ?_ AllReadyH.nil;intro K hK;have q8:=hv.out _ _ c8;go_simp;refine hK.out _ _ trivial (fun hHeld=>?_);clear hK K
      try simp only[Act.put,sx]
      clear q8;refine tl 9 ?_ ?_ hHeld ?_;rotate_left
      . intro w hSw
        try dsimp only at hSw
        go_simp
        all_goals with_reducible rfl
      try simp only[Act.put,sx]
      refine tl 10 ?_ ?_ hHeld ?_;rotate_left
      . intro w hSw
        try dsimp only at hSw
        go_simp
        all_goals with_reducible rfl
      try simp only[Act.put,sx]
      refine wpAnyH_done (by kernel_rfl) ?_ _;go_wp2;go_ret;exact⟨by rw[es.out]; rfl,B.out⟩
    . skip
      have c8:(w0.alloc (.cells #[.int .u8 (48+z % 10)] 5)).cell? ⟨w0.heap.size,0,none⟩=some (.int .u8 (48+z % 10)):=by simp
      have hs:w0.heap.size<(w0.alloc (.cells #[.int .u8 (48+z % 10)] 5)).heap.size:=by simp
      replace B:=hid (Ab B.out (.cells #[.int .u8 (48+z % 10)] 5));go_simp;refine hK.out _ _ trivial (fun hHeld=>?_);clear hK K
      try simp only[Act.put,sx]
      generalize (w0.alloc (.cells #[.int .u8 (48+z % 10)] 5))=w4 at *;generalize hsb:w0.heap.size=sb at *;clear hsb;refine wpAnyH_ready (rs:=[2,8]) (by kernel_rfl) (by simp) ?_;refine(AllReadyH.cons (o:=_) rfl (fun K hK=>?_) (AllReadyH.cons (o:=_) rfl (fun K hK=>?_) AllReadyH.nil))
      . skip
        go_simp
        go_at_call 69
        refine(C.out _).mono ?_;rintro e w3 ⟨rfl,B3⟩;replace c8:=(B3.cell (p:=⟨sb,0,none⟩) hs).trans c8;replace B:=hid (Aa B.out B3);clear B3;clear hHeld;go_wp2_with fail;refine hK.out _ _ trivial (fun hHeld=>?_);clear hK K
        try simp only[Act.put,sx]
        refine wpAnyH_ready (rs:=[8]) (by kernel_rfl) (by simp) ?_;apply AllReadyH.cons rfl ?_ AllReadyH.nil;intro K hK;have q8:=hv.out _ _ c8;go_simp;refine hK.out _ _ trivial (fun hHeld=>?_);clear hK K
        try simp only[Act.put,sx]
        clear q8;refine tl 9 ?_ ?_ hHeld ?_;rotate_left
        . intro w hSw
          try dsimp only at hSw
          go_simp
          all_goals with_reducible rfl
        try simp only[Act.put,sx]
        refine tl 10 ?_ ?_ hHeld ?_;rotate_left
        . intro w hSw
          try dsimp only at hSw
          go_simp
          all_goals with_reducible rfl
        try simp only[Act.put,sx]
        refine wpAnyH_done (by kernel_rfl) ?_ _;go_wp2;go_ret;exact⟨by rw[es.out]; rfl,B.out⟩
      . skip
        have q8:=hv.out _ _ c8;go_simp;refine hK.out _ _ trivial (fun hHeld=>?_);clear hK K
        try simp only[Act.put,sx]
        clear q8;refine wpAnyH_ready (rs:=[2]) (by kernel_rfl) (by simp) ?_;apply AllReadyH.cons rfl ?_ AllReadyH.nil;intro K hK;go_simp
        go_at_call 69
        refine(C.out _).mono ?_;rintro e w3 ⟨rfl,B3⟩;replace B:=hid (Aa B.out B3);clear B3;clear hHeld;go_wp2_with fail;refine hK.out _ _ trivial (fun hHeld=>?_);clear hK K
        try simp only[Act.put,sx]
        refine tl 9 ?_ ?_ hHeld ?_;rotate_left
        . intro w hSw
          try dsimp only at hSw
          go_simp
          all_goals with_reducible rfl
        try simp only[Act.put,sx]
        refine tl 10 ?_ ?_ hHeld ?_;rotate_left
        . intro w hSw
          try dsimp only at hSw
          go_simp
          all_goals with_reducible rfl
        try simp only[Act.put,sx]
        refine wpAnyH_done (by kernel_rfl) ?_ _;go_wp2;go_ret;exact⟨by rw[es.out]; rfl,B.out⟩
theorem M.nums_snoc(l:List Int)(n:Int):nums (l++[n])=nums l++32::dec n.toNat:=by simp[nums]
theorem M.nums_len:∀(l:List Int),(∀ n∈l,0<=n/\n<1000000000000000)->(nums l).length<=17*l.length
 | [],_=>by simp[nums]
 | n::l,h=>by
  have ih:=nums_len l fun x hx=>h x (List.mem_cons_of_mem _ hx);have h1:=h n (by simp);have h2:=dec_le (n:=n.toNat) (by omega);have e:nums (n::l)=32::(dec n.toNat++nums l):=by simp[nums]
  rw[e];simp only[List.length_cons,List.length_append];omega
def NA(w:World)(n:Nat)(ns:List Int)(sv iv:Value)(W:World):Prop :=
 ∃ k:Nat,k<=n/\iv=.int .i64 k/\sv=.string (str (nums (ns.take k)))/\Below w.heap.size w W
theorem Dg(A:Option Addr)(n cap:Nat)(ns:List Int)(w:World)(I:Ints w A n ns)(hn:n<=10000000)(hr:∀ x∈ns,0<=x/\x<1000000000000000) :
 Calls Tryz.prog 44 #[.slice A n cap] w fun e w'=>e=.returned (.string (str (nums ns)))/\Below w.heap.size w w':=by
 have hl:=hid I.1;replace I:=hid I;replace hr:=hid hr;go_enter Tryz.func44,Tryz.ntmps44;go_wp2
 go_loopw [3,4] (NA w n ns) (fun _ i _=>n-(RowKit.intOf i).toNat)
 case atStart=>exact⟨0,Nat.zero_le _,rfl,rfl,Ac w⟩
 case round =>
  obtain⟨k,hk,rfl,rfl,B⟩:=hrel;by_cases hlt:k<n
  . obtain⟨b,off,rfl,hb,hc⟩:=(I.out.step B).2 (by omega);have cc:=hc k hlt;have hkl:k<ns.length:=by have:=hl.out; omega
    have hz:=hr.out _ (List.getElem_mem hkl);have e1:ns.take (k+1)=ns.take k++[ns.getD k 0]:=by rw[List.take_succ_eq_append_getElem hkl,List.getD_eq_getElem?_getD,List.getElem?_eq_getElem hkl]; rfl
    have e0:ns[k]=ns.getD k 0:=by rw[List.getD_eq_getElem?_getD,List.getElem?_eq_getElem hkl]; rfl
    rw[e0] at hz;have en:nums (ns.take (k+1))=nums (ns.take k)++32::dec (ns.getD k 0).toNat:=by rw[e1,nums_snoc]
    have hln:=nums_len (ns.take k) fun x hx=>hr.out x (List.mem_of_mem_take hx);have hlk:(ns.take k).length<=k:=by simp; omega
    have hdl:=dec_le (n:=(ns.getD k 0).toNat) (by omega);replace B:=hid B;clear hc e0 e1 hkl;generalize ns.getD k 0=z at *;have C:=fun W=>LN z.toNat z W rfl (by omega) (by omega);have en2:str (nums (ns.take k))++({ data:=#[32] }:ByteArray)++str (dec z.toNat)=str (nums (ns.take (k+1))):=by
     rw[show({ data:=#[32] }:ByteArray)=str [32] from rfl,Bo,Bo,en]; simp
    replace en2:=hid en2;replace C:=hid C;clear en;generalize nums (ns.take k)=x at *;generalize hnx:nums (ns.take (k+1))=x2 at *;replace hnx:=hid hnx;generalize dec z.toNat=d at *;have no1:¬ 9223372036854775807<x.length+1:=by omega
    have no2:¬ 9223372036854775807<x.length+1+d.length:=by omega
    clear hln hlk hdl;go_wp2_with fail;refine(C.out _).mono ?_;rintro e w2 ⟨rfl,B2⟩;replace B:=hid (Aa B.out B2);clear B2 C cc;go_wp2
    go_roundw
    case rel=>exact⟨k+1,by omega,by go_num,by rw[hnx.out,<- en2.out],B.out⟩
    case measure=>simp[RowKit.intOf]; omega
  . obtain rfl:k=n:=by omega
    have hs:ns.take k=ns:=by rw[<- hl.out,List.take_length]
    rw[hs];replace B:=hid B;clear hs;go_wp2;go_ret;exact⟨rfl,B.out⟩
end Go.Proofs.YtgbiagonfbnooaaGreatDoor
