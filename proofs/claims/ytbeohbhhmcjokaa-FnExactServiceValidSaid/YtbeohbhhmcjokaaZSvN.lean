import Derived.Test.YtbeohbhhmcjokaaZSvO
import Derived.Laws.CopyOwn
set_option linter.all false
set_option maxRecDepth 100000
set_option maxHeartbeats 8000000
open Go.Lib
namespace Go.Proofs.Ytbeohbhhmcjokaa
open Go.RowKit
open M
theorem FY(n k:Int)(b:Bool)(w:World)(h:Al n 0 k=b):Calls Try.prog 73 #[.int .i64 n,.int .i64 k] w fun e w'=>e=.returned (.bool b)/\w=w':=h▸Bu n k w
theorem Ht(H:Option Addr)(m d:Nat)(ks:List Int)(most:Int)(w:World)(K:Ints w H m ks)(hm:m<=281474976710656) :
 Calls Try.prog 42 #[.slice H m d,.int .i64 most] w fun e w'=>e=.returned (.bool (ks.all (fun k=>Al k 0 most)))/\w=w':=by
 have hK:=hid K.1;replace K:=hid K;go_enter Try.func42,Try.ntmps42;go_wp2
 go_loopw [9] (fun iv W=>∃ k:Nat,k<=m/\iv=.int .i64 k/\(ks.take k).all (fun k=>Al k 0 most)=true/\w=W) (fun i _=>m-(RowKit.intOf i).toNat)
 case atStart=>exact⟨0,Nat.zero_le _,rfl,rfl,rfl⟩
 case round =>
  obtain⟨k,hk,rfl,ha,rfl⟩:=hrel;by_cases hlt:k<m
  . obtain⟨b,off,rfl,hb,hc⟩:=K.out.2 (by omega);have cc:=hc k hlt;have hkl:k<ks.length:=by have:=hK.out; omega
    have et:=nm_next (f:=fun k=>Al k 0 most) hkl;rw[ha,Bool.true_and] at et;have eb:=hid (nm_bad (f:=fun k=>Al k 0 most) hkl);replace et:=hid et;clear hc ha hkl;generalize ks.getD k 0=z at *;cases hv:Al z 0 most
    . have e0:=hid (eb.out hv);replace hv:=hid hv;clear eb et;go_wp2_with fail;refine(FY z most false _ hv.out).mono ?_;rintro e w1 ⟨rfl,rfl⟩;go_wp2;go_ret;exact⟨Ad e0.out.symm,rfl⟩
    . have et:=hid (et.out.trans hv);replace hv:=hid hv;clear eb;go_wp2_with fail;refine(FY z most true _ hv.out).mono ?_;rintro e w1 ⟨rfl,rfl⟩;go_wp2
      go_roundw
      case rel=>exact⟨k+1,by omega,by go_num,et.out,trivial⟩
      case measure=>simp[RowKit.intOf]; omega
  obtain rfl:m=k:=by omega
  have hall:=hid (show ks.all (fun k=>Al k 0 most)=true by rw[<- hK.out,List.take_length] at ha; exact ha);clear ha;go_wp2;go_ret;exact⟨Ad hall.out.symm,rfl⟩
theorem Bo(H:Option Addr)(m d:Nat)(ks:List Int)(most:Int)(b:Bool)(hb:ks.all (fun k=>Al k 0 most)=b)(w:World)(K:Ints w H m ks)(hm:m<=281474976710656) :
 Calls Try.prog 42 #[.slice H m d,.int .i64 most] w fun e w'=>e=.returned (.bool b)/\w=w':=hb▸Ht H m d ks most w K hm
def Hu(w:World)(ks:List Int)(e:Ending)(w':World):Prop:=∃ s:Sv,e=.returned (.tuple #[s.val,.bool (newB ks)])/\Fresh w w' s/\s.v=newV ks
theorem FZ{w:World}{base:Nat}{e:TypeId}{g n:Nat}{xs:List Value}(h:w.ownsRow base e 1 (.slice (some ⟨g,0,none⟩) n n) n xs):w.heap[g]?=some (.cells xs.toArray e (0,0))/\base<=g/\n<=maxLen:=by
 rcases h.2 with⟨e1,_⟩ | ⟨g',cap,cur,e1,hb,hh,hnc,hmx,hsz,ht⟩
 . cases e1
 . cases e1
   rw[List.take_of_length_le (by simp[hsz])] at ht;subst ht;exact⟨by simpa using hh,hb,hmx⟩
theorem GB{w:World}{base:Nat}{e:TypeId}{g n:Nat}{xs:List Value}(hl:xs.length=n)(hm:n<=maxLen)(hb:base<=g)(h:w.heap[g]?=some (.cells xs.toArray e (0,0))):w.ownsRow base e 1 (.slice (some ⟨g,0,none⟩) n n) n xs :=
 ⟨by omega,.inr ⟨g,n,xs.toArray,rfl,hb,h,Nat.le_refl _,hm,by simp[hl],by simp[<- hl]⟩⟩
theorem M.newK_len{ks:List Int}(h:ks.length<=10):(newK ks).length=10:=by simp[newK]; omega
theorem Ec(ks:List Int)(h:ks.length<=10):splice (List.replicate 10 (Value.int .i64 0)) 0 (ks.map (Value.int .i64))=(newK ks).map (Value.int .i64):=by
 rw[splice,newK,List.map_append,List.map_replicate];simp only[List.take_zero,List.nil_append,Nat.zero_add,List.length_map,List.drop_replicate]
theorem CC(H:Option Addr)(m d:Nat)(ks:List Int)(w:World)(K:Ints w H m ks)(hm:m<=281474976710656) :
 Calls Try.prog 11 #[.slice H m d] w (Hu w ks):=by
 obtain⟨i0,hi,hz0,hz1,hz2⟩:=info_parts A3;have hK:=hid K.1;have VC:=hid (CellsAt.new w w.heap.size [.slice none 0 0,.slice none 0 0,.slice none 0 0] 27 rfl);have HA:=hid (Ab (Ac w) (.cells [.slice none 0 0,.slice none 0 0,.slice none 0 0].toArray 27));have KA:=hid (K.step HA.out);obtain⟨v0,v1,v2⟩:=AX VC.out;have u0:=VC.out.fr 0;have u1:=VC.out.fr 1;have u2:=VC.out.fr 2;replace K:=hid K;by_cases h10:m<=10
 rotate_left
 . have E:=hid (show newB ks=false by rw[newB,hK.out,decide_eq_false h10]; rfl);have EV:=hid (show sv0.v=newV ks by rw[newV,E.out]; rfl);have g1:decide ((10:Int)<(m:Int))=true:=decide_eq_true (by omega);go_enter Try.func11,Try.ntmps11;go_wp2;exact bodyPost_ret (v:=.tuple #[sv0.val,.bool false]) (Aq rfl w.heap.size rfl [.slice none 0 0,.slice none 0 0,.slice none 0 0] VC.out _ rfl Try.underlying27 rfl Aw) rfl ⟨sv0,by rw[E.out],Fresh.zero HA.out,EV.out⟩
 have g1:decide ((10:Int)<(m:Int))=false:=decide_eq_false (by omega);cases ha:ks.all (fun k=>Al k 0 9999)
 . have E:=hid (show newB ks=false by rw[newB,ha,Bool.and_false]);have EV:=hid (show sv0.v=newV ks by rw[newV,E.out]; rfl);replace ha:=hid ha;go_enter Try.func11,Try.ntmps11;go_wp2_with fail;refine(Bo H m d ks 9999 false ha.out _ KA.out hm).mono ?_;rintro e w1 ⟨rfl,rfl⟩;go_wp2;exact bodyPost_ret (v:=.tuple #[sv0.val,.bool false]) (Aq rfl w.heap.size rfl [.slice none 0 0,.slice none 0 0,.slice none 0 0] VC.out _ rfl Try.underlying27 rfl Aw) rfl ⟨sv0,by rw[E.out],Fresh.zero HA.out,EV.out⟩
 have E:=hid (show newB ks=true by rw[newB,ha,hK.out,decide_eq_true h10]; rfl);replace ha:=hid ha;go_enter Try.func11,Try.ntmps11;go_wp2_with fail;refine(Bo H m d ks 9999 true ha.out _ KA.out hm).mono ?_;rintro e w1 ⟨rfl,rfl⟩;go_wp2_with (at_make; refine wpList_make_full _ rfl _ _ 23 rfl w.heap.size 3 i0 (.int .i64 0) 1 Try.underlying23 hi hz0 hz1 .i64 .i64 _ _ 10 rfl rfl rfl rfl (by rw[hz2]; omega) (by unfold maxLen; omega) (by simp) ?_);intro w2 O2 G2;obtain⟨f2,_,_⟩:=FZ O2;rw[toList_madeCells_one] at f2;obtain⟨cur,hcur⟩:∃ cur,cur=List.replicate 10 (Value.int .i64 0):=⟨_,rfl⟩
 rw[show List.replicate (10*1) (Value.int .i64 0)=cur from hcur.symm] at f2;have hcl2:cur.length=10:=by rw[hcur]; simp
 have VC2:=hid (VC.out.step (w':=w2) ((Ac _).grown G2 (Nat.le_refl _) (fun k e=>by cases e)));have H2:=hid (HA.out.grown G2 (by simp) (fun k e=>by cases e));have K2:=hid (K.out.step H2.out);have hkl:ks.length<=10:=by have:=hK.out; omega
 have sz:(w.alloc (.cells [.slice none 0 0,.slice none 0 0,.slice none 0 0].toArray 27)).heap.size=w.heap.size+1:=by simp
 obtain⟨cs,hcs⟩:∃ cs,cs=ks.map (Value.int .i64):=⟨_,rfl⟩;have hcl:cs.length=m:=by rw[hcs,List.length_map]; exact hK.out
 have hsrc:0<cs.length->∃ ad,H=some ad/\∀ j v,cs[j]?=some v->w2.cell? (ad.add j)=some v:=fun h0=>by
  obtain⟨b,off,eH,_,_⟩:=K2.out.2 (by omega);subst eH;exact⟨_,rfl,fun j v hj=>K2.out.news j v (by rw[<- hcs]; exact hj)⟩
 have h1c:∀ v∈cs,v.oneCell'=true:=fun v hv=>by
  rw[hcs] at hv;obtain⟨x,_,rfl⟩:=List.mem_map.1 hv;rfl
 have hspl:=hid (show splice cur 0 cs=(newK ks).map (Value.int .i64) by rw[hcs,hcur]; exact Ec ks hkl);replace hcs:=hid hcs;replace hcur:=hid hcur;replace hsrc:=hid hsrc;replace h1c:=hid h1c;replace f2:=hid f2;clear O2 G2 v0 v1 v2 u0 u1 u2;go_wp2_with (refine wpList_copy_splice rfl (.tmp 15) (.tmp 16) _ _ rfl 3 Try.underlying23 (by kernel_rfl) (some ⟨(w.heap.size+1),0,none⟩) H 10 10 m d rfl rfl (w.heap.size+1) 0 cur 3 f2.out cs (by rw[hcl]; exact(Nat.min_eq_left h10).symm) (fun h0=>⟨rfl,hsrc.out h0⟩) (by omega) h1c.out (w.heap.size+1) w2 (Below.refl _ _) (Nat.le_refl _) ?_);intro w3 F3 B3;have H3:=hid (H2.out.trans (B3.mono (by omega)))
 have VC3:=hid (VC2.out.of (B3.block _ (by omega)) B3.size);have f3:=F3.out;rw[hspl.out] at f3;have O3:=GB (base:=w.heap.size+1) (e:=3) (n:=10) (by rw[List.length_map,newK_len hkl]) (by decide) (Nat.le_refl _) f3;obtain⟨A9,c9,e9,I3⟩:=Ints.of_own O3;cases e9
 have M3:=Mk.of_own1 O3;have R3:=hid (show(⟨none,0,0,some ⟨w.heap.size+1,0,none⟩,10,10,none,0,0,[],newK ks,[]⟩:Sv).At w3 from⟨Tracks.nil _ _,I3,⟨rfl,fun h=>absurd h (by simp)⟩,by simp,by simp,by simp⟩);have OL:=hid (show OwnL (w.heap.size+1) w3 (⟨none,0,0,some ⟨w.heap.size+1,0,none⟩,10,10,none,0,0,[],newK ks,[]⟩:Sv).ps from(((OwnL.nil _ _).cons' (Mk.nil _ _ none) (fun p hp=>by cases hp)).cons' M3 (fun p hp h h'=>by rcases List.mem_singleton.1 hp with rfl; cases h')).cons' (Mk.nil _ _ none) (fun p hp h=>absurd h (by simp)))
 have EV:=hid (show(⟨none,0,0,some ⟨w.heap.size+1,0,none⟩,10,10,none,0,0,[],newK ks,[]⟩:Sv).v=newV ks by rw[newV,E.out]; rfl);obtain⟨v0,v1,v2⟩:=AX VC3.out;have u0:=VC3.out.fr 0;have u1:=VC3.out.fr 1;have u2:=VC3.out.fr 2;have VC4:=hid (((VC3.out.set 0 (by simp) (.slice none 0 0)).set 1 (by simp) (.slice (some ⟨w.heap.size+1,0,none⟩) 10 10)).set 2 (by simp) (.slice none 0 0));clear f3 F3 O3 M3 I3 hspl hsrc h1c hcs K2 f2 VC2 H2;go_wp2
 exact bodyPost_ret (v:=.tuple #[.agg #[.slice none 0 0,.slice (some ⟨w.heap.size+1,0,none⟩) 10 10,.slice none 0 0],.bool true]) (Aq rfl w.heap.size rfl [.slice none 0 0,.slice (some ⟨w.heap.size+1,0,none⟩) 10 10,.slice none 0 0] VC4.out _ rfl Try.underlying27 rfl Aw) rfl ⟨⟨none,0,0,some ⟨w.heap.size+1,0,none⟩,10,10,none,0,0,[],newK ks,[]⟩,by rw[E.out],Fresh.last R3.out OL.out H3.out (((Kept.refl _ _).mine _ _).mine _ _ |>.mine _ _) (Nat.le_refl _),EV.out⟩
def M.k10(ks:List Int):List Int:=(List.range 10).map (fun i=>ks.getD i 0)
theorem M.k10_len(ks:List Int):(k10 ks).length=10:=by simp[k10]
theorem M.k10_get{ks:List Int}{k:Nat}(h:k<10):(k10 ks).take (k+1)=(k10 ks).take k++[ks.getD k 0]:=by
 rw[List.take_succ_eq_append_getElem (by rw[k10_len]; exact h)];simp[k10]
theorem M.k10_new{ks:List Int}(h:ks.length<=10):k10 ks=newK ks:=by
 apply List.ext_getElem (by rw[k10_len,newK_len h]);intro i h1 h2;rw[k10_len] at h1;simp only[k10,newK,List.getElem_map,List.getElem_range,List.getElem_append,List.getD_eq_getElem?_getD];by_cases h3:i<ks.length
 . simp[h3]
 . simp[h3,List.getElem?_eq_none (Nat.le_of_not_lt h3)]
theorem M.k10_sv(ks:List Int):svB [] (k10 ks) []=(k10 ks).all (fun k=>Al k 0 9999):=by
 simp[svB,k10_len]
theorem M.k10_newB{ks:List Int}(h:ks.length<=10):newB ks=(k10 ks).all (fun k=>Al k 0 9999):=by
 rw[k10_new h,newB,newK,List.all_append,decide_eq_true h];simp[Al]
theorem AL(A:Option Addr)(n c:Nat)(H:Option Addr)(m d:Nat)(G:Option Addr)(l e:Nat)(ts:List Tk)(ks gs:List Int)(b:Bool)(hb:svB ts ks gs=b)(w:World)(T:Tracks w A n ts)(K:Ints w H m ks)(S:Ints w G l gs)(hn:n<=281474976710656)(hm:m<=281474976710656)(hl:l<=281474976710656) :
 Calls Try.prog 22 #[.agg #[.slice A n c,.slice H m d,.slice G l e]] w fun e w'=>e=.returned (.bool b)/\Below w.heap.size w w':=hb▸F7 A n c H m d G l e ts ks gs w T K S hn hm hl
def Hv(w:World)(ks:List Int)(iv:Value)(W:World):Prop :=
 ∃(k:Nat) (D:Option Addr) (c:Nat),k<=10/\iv=.int .i64 k/\W.ownsRow (w.heap.size+4) 3 1 (.slice D k c) k (((k10 ks).take k).map (Value.int .i64))/\CellsAt W (w.heap.size+1+1+1) [.slice (some ⟨w.heap.size+1,0,none⟩) 0 0,.slice D k c,.slice (some ⟨w.heap.size+1+1,0,none⟩) 0 0]/\CellsAt W w.heap.size [.slice none 0 0,.slice none 0 0,.slice none 0 0]/\Below w.heap.size w W
theorem DK(H:Option Addr)(m d:Nat)(ks:List Int)(w:World)(K:Ints w H m ks)(hm:m<=281474976710656) :
 Calls Try.prog 12 #[.slice H m d] w (Hu w ks):=by
 have hK:=hid K.1;have CV:=hid (((((CellsAt.new w w.heap.size [.slice none 0 0,.slice none 0 0,.slice none 0 0] 27 rfl).alloc (.cells #[] 84)).alloc (.cells #[] 3)).alloc (.cells [.slice (some ⟨w.heap.size+1,0,none⟩) 0 0,.slice none 0 0,.slice (some ⟨w.heap.size+1+1,0,none⟩) 0 0].toArray 27)));have DV:=hid (CellsAt.new (((w.alloc (.cells [.slice none 0 0,.slice none 0 0,.slice none 0 0].toArray 27)).alloc (.cells #[] 84)).alloc (.cells #[] 3)) (w.heap.size+1+1+1) [.slice (some ⟨w.heap.size+1,0,none⟩) 0 0,.slice none 0 0,.slice (some ⟨w.heap.size+1+1,0,none⟩) 0 0] 27 (by simp))
 have HA:=hid (Ab (Ab (Ab (Ab (Ac w) (.cells [.slice none 0 0,.slice none 0 0,.slice none 0 0].toArray 27)) (.cells #[] 84)) (.cells #[] 3)) (.cells [.slice (some ⟨w.heap.size+1,0,none⟩) 0 0,.slice none 0 0,.slice (some ⟨w.heap.size+1+1,0,none⟩) 0 0].toArray 27));replace K:=hid K;go_enter Try.func12,Try.ntmps12;go_wp2
 go_loopw [5] (Hv w ks) (fun i _=>10-(RowKit.intOf i).toNat)
 case atStart=>exact⟨0,none,0,by decide,rfl,⟨rfl,.inl ⟨rfl,rfl⟩⟩,DV.out,CV.out,HA.out⟩
 case round =>
  clear DV CV HA;obtain⟨k,D,c,hk,rfl,O,V,R,B⟩:=hrel;replace O:=hid O;replace V:=hid V;replace R:=hid R;have v1:=V.out.cell 1 _ rfl;by_cases hlt:k<10
  . have en:=k10_get (ks:=ks) hlt;have K1:=K.out.step B;replace B:=hid B;by_cases hkm:k<m
    . obtain⟨b,off,rfl,hb,hc⟩:=K1.2 (by omega);have cc:=hc k hkm;clear hc K1;generalize ks.getD k 0=z at *;have RA:=hid (R.out.alloc (.cells #[.int .i64 z] 3));have VA:=hid (V.out.alloc (.cells #[.int .i64 z] 3));have OA:=hid (CY O.out (Ab (Ac wr) (.cells #[.int .i64 z] 3)));have BA:=hid (Ab B.out (.cells #[.int .i64 z] 3));have hsz:=hid B.out.size;have hlV:=hid V.out.lt;obtain⟨xs,hxs⟩:∃ xs,xs=(k10 ks).take k:=⟨_,rfl⟩;rw[<- hxs] at OA en;replace en:=hid en;replace OA:=hid OA.out;replace hxs:=hid hxs
      go_wp2_with (at_builtin; refine A4 _ rfl (.tmp 23) (.tmp 25) rfl (w.heap.size+4) (.slice D k c) k xs rfl OA.out (some ⟨wr.heap.size,0,none⟩) 1 1 [z] rfl (Ints.one wr z 3) (by omega) (by have:=hlV.out; simp; omega) ?_);intro v' w9 O9 G9 _;replace O9:w9.ownsRow (w.heap.size+4) 3 1 v' (k+1) ((xs++[z]).map (Value.int .i64)):=by simpa using O9
      obtain⟨D9,c9,rfl,_⟩:=Ints.of_own O9;rw[<- en.out] at O9;have V9:=hid (VA.out.grown G9 (fun e=>by have:=(OA.out.lt _ e).1; omega));have R9:=hid (RA.out.grown G9 (fun e=>by have:=(OA.out.lt _ e).1; omega));have B9:=hid (BA.out.grown G9 (by have:=BA.out.size; omega) (fun g e=>by have:=(OA.out.lt _ e).1; omega));have O10:=hid (ownsRow_setCell_below O9 (a:=⟨w.heap.size+1+1+1,1,none⟩) (by simp) (.slice D9 (k+1) c9));have V10:=hid (V9.out.set 1 (by simp) (.slice D9 (k+1) c9));have R10:=hid (R9.out.far (b':=w.heap.size+1+1+1) (by omega) 1 (.slice D9 (k+1) c9))
      have B10:=hid (Ag B9.out (w.heap.size+1+1+1) 1 (.slice D9 (k+1) c9) (by omega));replace v1:=V9.out.cell 1 _ rfl;have u1:=V9.out.fr 1;clear O9 G9 O V R B OA VA RA BA;go_wp2
      go_roundw
      case rel=>exact⟨k+1,D9,c9,by omega,by go_num,O10.out,V10.out,R10.out,B10.out⟩
      case measure=>simp[RowKit.intOf]; omega
    . have hz:=hid (show ks.getD k 0=0 by rw[List.getD_eq_getElem?_getD,List.getElem?_eq_none (by have:=hK.out; omega)]; rfl);rw[hz.out] at en;clear K1;obtain⟨z,rfl⟩:∃ z:Int,z=0:=⟨_,rfl⟩;have RA:=hid (R.out.alloc (.cells #[.int .i64 0] 3));have VA:=hid (V.out.alloc (.cells #[.int .i64 0] 3));have OA:=hid (CY O.out (Ab (Ac wr) (.cells #[.int .i64 0] 3)));have BA:=hid (Ab B.out (.cells #[.int .i64 0] 3));have hsz:=hid B.out.size;have hlV:=hid V.out.lt;obtain⟨xs,hxs⟩:∃ xs,xs=(k10 ks).take k:=⟨_,rfl⟩;rw[<- hxs] at OA en;replace en:=hid en;replace OA:=hid OA.out;replace hxs:=hid hxs
      go_wp2_with (at_builtin; refine A4 _ rfl (.tmp 23) (.tmp 25) rfl (w.heap.size+4) (.slice D k c) k xs rfl OA.out (some ⟨wr.heap.size,0,none⟩) 1 1 [0] rfl (Ints.one wr 0 3) (by omega) (by have:=hlV.out; simp; omega) ?_);intro v' w9 O9 G9 _;replace O9:w9.ownsRow (w.heap.size+4) 3 1 v' (k+1) ((xs++[0]).map (Value.int .i64)):=by simpa using O9
      obtain⟨D9,c9,rfl,_⟩:=Ints.of_own O9;rw[<- en.out] at O9;have V9:=hid (VA.out.grown G9 (fun e=>by have:=(OA.out.lt _ e).1; omega));have R9:=hid (RA.out.grown G9 (fun e=>by have:=(OA.out.lt _ e).1; omega));have B9:=hid (BA.out.grown G9 (by have:=BA.out.size; omega) (fun g e=>by have:=(OA.out.lt _ e).1; omega));have O10:=hid (ownsRow_setCell_below O9 (a:=⟨w.heap.size+1+1+1,1,none⟩) (by simp) (.slice D9 (k+1) c9));have V10:=hid (V9.out.set 1 (by simp) (.slice D9 (k+1) c9));have R10:=hid (R9.out.far (b':=w.heap.size+1+1+1) (by omega) 1 (.slice D9 (k+1) c9))
      have B10:=hid (Ag B9.out (w.heap.size+1+1+1) 1 (.slice D9 (k+1) c9) (by omega));replace v1:=V9.out.cell 1 _ rfl;have u1:=V9.out.fr 1;clear O9 G9 O V R B OA VA RA BA;go_wp2
      go_roundw
      case rel=>exact⟨k+1,D9,c9,by omega,by go_num,O10.out,V10.out,R10.out,B10.out⟩
      case measure=>simp[RowKit.intOf]; omega
  . obtain rfl:k=10:=by omega
    have hk10:=hid (show(k10 ks).take 10=k10 ks from List.take_of_length_le (by rw[k10_len]; exact Nat.le_refl _));replace O:=O.out;rw[hk10.out] at O;obtain⟨D9,c9,e9,I9⟩:=Ints.of_own O;cases e9
    have M9:=hid (Mk.of_own1 O);replace I9:=hid I9;clear O hk10;have v0:=V.out.cell 0 _ rfl;have v2:=V.out.cell 2 _ rfl;obtain⟨r0,r1,r2⟩:=AX R.out;have hlR:=R.out.lt;have hlV:=V.out.lt;replace B:=hid B;obtain⟨b,hb⟩:∃ b,svB [] (k10 ks) []=b:=⟨_,rfl⟩;have hb2:=hid (hb.symm.trans (k10_sv ks));go_wp2_with fail;refine(AL _ 0 0 D 10 c _ 0 0 [] (k10 ks) [] b hb wr (Tracks.nil _ _) I9.out ⟨rfl,fun h=>absurd h (by decide)⟩ (by decide) (by decide) (by decide)).mono ?_;rintro e w5 ⟨rfl,B5⟩;have V5:=hid (V.out.step B5);have R5:=hid (R.out.step B5);have M5:=hid (M9.out.step B5);have I5:=hid (I9.out.step B5);have H5:=hid (Aa B.out B5)
    replace v0:=V5.out.cell 0 _ rfl;replace v1:=V5.out.cell 1 _ rfl;replace v2:=V5.out.cell 2 _ rfl;replace r0:=R5.out.cell 0 _ rfl;replace r1:=R5.out.cell 1 _ rfl;replace r2:=R5.out.cell 2 _ rfl;have u0:=R5.out.fr 0;have u1:=R5.out.fr 1;have u2:=R5.out.fr 2;replace hlR:=R5.out.lt;replace hlV:=V5.out.lt;clear B5 V R M9 I9 B hb;have RZ:=hid (((R5.out.set 0 (by simp) (.slice none 0 0)).set 1 (by simp) (.slice none 0 0)).set 2 (by simp) (.slice none 0 0));have RS:=hid (((R5.out.set 0 (by simp) (.slice (some ⟨w.heap.size+1,0,none⟩) 0 0)).set 1 (by simp) (.slice D 10 c)).set 2 (by simp) (.slice (some ⟨w.heap.size+1+1,0,none⟩) 0 0));cases b
    . have E:=hid (show newB ks=false by
       by_cases h:ks.length<=10
       . rw[k10_newB h]; exact hb2.out.symm
       . rw[newB,decide_eq_false h]; rfl)
      have EV:=hid (show sv0.v=newV ks by rw[newV,E.out]; rfl);go_wp2;exact bodyPost_ret (v:=.tuple #[sv0.val,.bool false]) (Aq rfl w.heap.size rfl [.slice none 0 0,.slice none 0 0,.slice none 0 0] RZ.out _ rfl Try.underlying27 rfl Aw) rfl ⟨sv0,by rw[E.out],Fresh.last (.zero _) (.zero _ _) H5.out (((Kept.refl _ _).mine _ _).mine _ _ |>.mine _ _) (Nat.le_refl _),EV.out⟩
    by_cases hm10:m<=10
    rotate_left
    . have E:=hid (show newB ks=false by rw[newB,decide_eq_false (by have:=hK.out; omega)]; rfl);have EV:=hid (show sv0.v=newV ks by rw[newV,E.out]; rfl);have g1:decide ((10:Int)<(m:Int))=true:=decide_eq_true (by omega);go_wp2;exact bodyPost_ret (v:=.tuple #[sv0.val,.bool false]) (Aq rfl w.heap.size rfl [.slice none 0 0,.slice none 0 0,.slice none 0 0] RZ.out _ rfl Try.underlying27 rfl Aw) rfl ⟨sv0,by rw[E.out],Fresh.last (.zero _) (.zero _ _) H5.out (((Kept.refl _ _).mine _ _).mine _ _ |>.mine _ _) (Nat.le_refl _),EV.out⟩
    have hkl:ks.length<=10:=by have:=hK.out; omega
    have E:=hid (show newB ks=true by rw[k10_newB hkl]; exact hb2.out.symm);have g1:decide ((10:Int)<(m:Int))=false:=decide_eq_false (by omega);have R7:=hid (show(⟨some ⟨w.heap.size+1,0,none⟩,0,0,D,10,c,some ⟨w.heap.size+1+1,0,none⟩,0,0,[],k10 ks,[]⟩:Sv).At w5 from⟨Tracks.nil _ _,I5.out,⟨rfl,fun h=>absurd h (by simp)⟩,by simp,by simp,by simp⟩)
    have OL:=hid (show OwnL (w.heap.size+1) w5 (⟨some ⟨w.heap.size+1,0,none⟩,0,0,D,10,c,some ⟨w.heap.size+1+1,0,none⟩,0,0,[],k10 ks,[]⟩:Sv).ps from(((OwnL.nil _ _).cons' (Mk.nil _ _ _) (fun p hp=>by cases hp)).cons' (M5.out.low (by omega)) (fun p hp h h'=>by rcases List.mem_singleton.1 hp with rfl; cases h')).cons' (Mk.nil _ _ _) (fun p hp h=>absurd h (by simp)));have EV:=hid (show(⟨some ⟨w.heap.size+1,0,none⟩,0,0,D,10,c,some ⟨w.heap.size+1+1,0,none⟩,0,0,[],k10 ks,[]⟩:Sv).v=newV ks by rw[newV,E.out,<- k10_new hkl]; rfl);go_wp2
    exact bodyPost_ret (v:=.tuple #[(⟨some ⟨w.heap.size+1,0,none⟩,0,0,D,10,c,some ⟨w.heap.size+1+1,0,none⟩,0,0,[],k10 ks,[]⟩:Sv).val,.bool true]) (Aq rfl w.heap.size rfl (⟨some ⟨w.heap.size+1,0,none⟩,0,0,D,10,c,some ⟨w.heap.size+1+1,0,none⟩,0,0,[],k10 ks,[]⟩:Sv).cs RS.out _ rfl Try.underlying27 rfl Aw) rfl ⟨(⟨some ⟨w.heap.size+1,0,none⟩,0,0,D,10,c,some ⟨w.heap.size+1+1,0,none⟩,0,0,[],k10 ks,[]⟩:Sv),by rw[E.out],Fresh.last R7.out OL.out H5.out (((Kept.refl _ _).mine _ _).mine _ _ |>.mine _ _) (Nat.le_refl _),EV.out⟩
end Go.Proofs.Ytbeohbhhmcjokaa
