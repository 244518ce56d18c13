import Derived.Test.YtgbiagonfbnooaaGreatDoorZDrawRepE
import Derived.Test.YtgbiagonfbnooaaGreatDoorZTxN
import Derived.Lib.ConvBytes
import Derived.Laws.BytesArg
set_option linter.all false
set_option maxRecDepth 100000
set_option maxHeartbeats 8000000
open Go.Lib
namespace Go.Proofs.YtgbiagonfbnooaaGreatDoor
open Go.RowKit
open M
abbrev OL:Array Value:=#[.string ⟨#[]⟩,.string ⟨#[114,101,112,108,97,121,32,49,32,50,32,51,10]⟩,.string ⟨#[114,101,112,108,97,121,32,49,32,50,32,51,10,105,110,112,117,116,115,10,104,97,115,104,101,115,10,116,97,103,32,53,10]⟩,.string ⟨#[114,101,112,108,97,121,32,48,49,32,50,32,51,10,105,110,112,117,116,115,10,104,97,115,104,101,115,10,116,97,103,32,53,10]⟩,.string ⟨#[114,101,112,108,97,121,32,49,32,50,32,51,10,105,110,112,117,116,115,32,10,104,97,115,104,101,115,10,116,97,103,32,53,10]⟩]
theorem OY(w:World):∀ i,i<5->∃ s:ByteArray,(w.alloc (.cells OL 9)).cell? ⟨w.heap.size,0+i,none⟩=some (.string s)/\s.size<=60:=fun i hi=>by
 match i,hi with
 | 0,_=>exact⟨_,by simp; rfl,by decide⟩
 | 1,_=>exact⟨_,by simp; rfl,by decide⟩
 | 2,_=>exact⟨_,by simp; rfl,by decide⟩
 | 3,_=>exact⟨_,by simp; rfl,by decide⟩
 | 4,_=>exact⟨_,by simp; rfl,by decide⟩
abbrev Oq:Array Value:=#[.string ⟨#[48]⟩,.string ⟨#[57]⟩,.string ⟨#[32]⟩,.string ⟨#[120]⟩,.string ⟨#[49]⟩,.string ⟨#[55]⟩]
theorem Pa(w:World):∀ i,i<6->∃ s:ByteArray,(w.alloc (.cells Oq 9)).cell? ⟨w.heap.size,0+i,none⟩=some (.string s)/\∃ c,s=⟨#[c]⟩:=fun i hi=>by
 match i,hi with
 | 0,_=>exact⟨_,by simp; rfl,⟨_,rfl⟩⟩
 | 1,_=>exact⟨_,by simp; rfl,⟨_,rfl⟩⟩
 | 2,_=>exact⟨_,by simp; rfl,⟨_,rfl⟩⟩
 | 3,_=>exact⟨_,by simp; rfl,⟨_,rfl⟩⟩
 | 4,_=>exact⟨_,by simp; rfl,⟨_,rfl⟩⟩
 | 5,_=>exact⟨_,by simp; rfl,⟨_,rfl⟩⟩
theorem ON(w:World)(s:ByteArray):Below w.heap.size w (Lib.bytesWorld w 5 s) :=
 ⟨rfl,rfl,rfl,by rw[Lib.bytesWorld_size]; omega,fun k hk=>Lib.bytesWorld_at_old w _ s k hk⟩
theorem OO{B:Nat}(r b off n c:Nat)(k:Int)(good:ByteArray->Prop)(w:World)(R:RdU B w r k)(n1:1<=n)(n2:n<=10)(hb:b≠r)(hbl:b<w.heap.size)(hx:∀ i,i<n->∃ s:ByteArray,w.cell? ⟨b,off+i,none⟩=some (.string s)/\good s)(hk:k<=90000) :
 Calls Tryz.prog 61 #[.pointer (some ⟨r,0,none⟩),.slice (some ⟨b,off,none⟩) n c] w fun e w'=>∃ s,e=.returned (.string s)/\good s/\RdU B w' r (k+1)/\Kept r w w':=by
 have P:=hid (Aj r n k w R (by omega) (by omega) (by omega));replace hx:=hid hx;go_enter Tryz.func61,Tryz.ntmps61;go_wp2_with fail;refine P.out.mono ?_;rintro e w1 ⟨x,⟨hx0,hx1⟩,rfl,R1,K⟩;obtain⟨j,rfl⟩:∃ j:Nat,x=(j:Int):=⟨x.toNat,by omega⟩;have hj:j<n:=by omega
 obtain⟨s,hc,hg⟩:=hx.out j hj;have hc1:=(K.cell (p:=⟨b,off+j,none⟩) hbl hb).trans hc;clear P hx hc;go_wp2;go_ret;exact⟨s,rfl,hg,R1,K⟩
theorem Oo(t:Tx):(str t).size=t.length:=by rw[<- BV,Cz]
def OM(B r:Nat)(k:Int)(w:World)(e:Ending)(w':World):Prop :=
 ∃ s:ByteArray,e=.returned (.string s)/\s.size<=2002/\RdU B w' r k/\Kept r w w'
theorem OD{B:Nat}(r:Nat)(k:Int)(t:Tx)(w:World)(R:RdU B w r k)(hk:k<=80000)(ht:t.length<=2000) :
 Calls Tryz.prog 34 #[.pointer (some ⟨r,0,none⟩),.string (str t)] w (OM B r (k+3) w):=by
 have hr:=R.here;have hB:=R.base;by_cases he:t=[]
 . have hne:(t==[])=true:=by rw[he]; rfl
   have O:=fun W (Q:RdU B W r k) b=>OO (B:=B) r b 0 5 5 k (fun s=>s.size<=60) W Q (by omega) (by omega);replace O:=hid O;replace R:=hid R;go_enter Tryz.func34,Tryz.ntmps34;go_wp2_with fail;refine(O.out _ (R.out.alloc _) w.heap.size (by omega) (by simp) (OY w) (by omega)).mono ?_;rintro e w1 ⟨s,rfl,hs,R1,K⟩;go_wp2;go_ret;exact⟨s,rfl,by omega,R1.mono (by omega),((Kept.refl r w).alloc _).trans K⟩
 have hne:(t==[])=false:=by rw[beq_eq_false_iff_ne]; exact he
 obtain⟨M,hM⟩:∃ M,(str t).size=M:=⟨_,rfl⟩;have hM1:1<=M:=by rw[<- hM,Oo]; cases t with
  | nil=>exact absurd rfl he
  | cons=>simp
 have hM2:M<=2000:=by rw[<- hM,Oo]; exact ht
 clear he ht;have P1:=hid (Aj r M k w R (by omega) (by omega) (by omega));go_enter Tryz.func34,Tryz.ntmps34;go_wp2_with fail;refine P1.out.mono ?_;rintro e w1 ⟨x,⟨hx0,hx1⟩,rfl,R1,K1⟩;obtain⟨j,rfl⟩:∃ j:Nat,x=(j:Int):=⟨x.toNat,by omega⟩;have hj:j<M:=by omega
 clear P1 R hx0 hx1;have P2:=hid (Aj r 6 (k+1) w1 R1 (by omega) (by omega) (by omega));go_wp2_with fail;refine P2.out.mono ?_;rintro e w2 ⟨y,⟨hy0,hy1⟩,rfl,R2,K2⟩;have z1:=K1.size;have z2:=K2.size;have K:=hid (K1.trans K2);replace R2:=hid (show RdU B w2 r (k+2) from R2.mono (by omega));clear P2 R1 K1 K2;by_cases q0:y=0
 . subst q0;have E:=ON w2 (str t);have hsz:=Lib.bytesWorld_size w2 5 (str t);have hobj:=Lib.bytesWorld_at_new w2 5 (str t);have hcell:=hid (fun i hi=>Lib.bytesWorld_cell w2 5 (str t) i hi);have O:=hid (fun W (Q:RdU B W r (k+2)) b=>OO (B:=B) r b 0 6 6 (k+2) (fun s=>∃ c,s=⟨#[c]⟩) W Q (by omega) (by omega));have hcs:M<=(Lib.bytesCells w2 5 (str t)).size:=by rw[Lib.bytesCells,<- hM]; simp[ByteArray.size]
   have hcv:=Lib.run_convert_string_bytes w2 9 22 5 (str t) Tryz.underlying9 Tryz.underlying22 Tryz.underlying5;generalize grownCap w2 (str t).size 0 5=cap at *;generalize Lib.bytesWorld w2 5 (str t)=w3 at *;generalize Lib.bytesCells w2 5 (str t)=cs at *;rw[hM] at hcell hcv;have R3:=hid (R2.out.below (E.mono (Nat.le_trans hB (by omega))));have K3:=hid (K.out.trans (Kept.of_below E));clear R2 E K;go_wp2_with fail;have A4:=Pa w3;rw[hsz] at A4;refine(O.out _ (R3.out.alloc _) (w2.heap.size+1) (by omega) (by simp[hsz]) A4 (by omega)).mono ?_;rintro e w5 ⟨s1,rfl,⟨x1,rfl⟩,R5,K5⟩;have E4:=Ab (Ac w3) (.cells Oq 9)
   have hgz:w2.heap.size<w3.heap.size:=by omega
   have z5:=K5.size;have z4:w3.heap.size<=(w3.alloc (.cells Oq 9)).heap.size:=E4.size;have hob5:w5.heap[w2.heap.size]?=some (.cells cs 5 (cs.size,cs.size+1)):=((K5.block _ (by omega) (by omega)).trans (E4.block _ hgz)).trans hobj;have hc5:∀ i,i<M->w5.cell? ⟨w2.heap.size,i,none⟩=some (.int .u8 ((str t).data.toList.getD i 0).toNat):=fun i hi=>((K5.cell (p:=⟨w2.heap.size,i,none⟩) (show w2.heap.size<_ by omega) (show w2.heap.size≠r by omega)).trans (E4.cell (p:=⟨w2.heap.size,i,none⟩) hgz)).trans (hcell.out i (by omega));have hfj:w5.frozen? ⟨w2.heap.size,j,none⟩=false:=by
    simp only[World.frozen?,hob5];simp;omega
   have hcj:=hc5 j hj;clear hcv;have c1:(j:Int)<((M:Nat):Int):=by omega
   have Kw:Kept r w w5:=(K3.out.trans (Kept.of_below E4)).trans K5;have hyl:∀ x:Int,(((str t).data.toList.map (fun b:UInt8=>(b.toNat:Int))).set j x).length=M:=fun x=>by simp[<- hM,ByteArray.size]
   have hall:∀(x:Int) i,i<M->(w5.setCell ⟨w2.heap.size,j,none⟩ (.int .u8 x)).cell? ⟨w2.heap.size,0+i,none⟩=some (.int .u8 ((((str t).data.toList.map (fun b:UInt8=>(b.toNat:Int))).set j x).getD i 0)):=fun x i hi=>by
    rw[Nat.zero_add];have hil:i<((str t).data.toList.map (fun b:UInt8=>(b.toNat:Int))).length:=by have:=hyl 0; rw[List.length_set] at this; omega
    by_cases e:j=i
    . subst e;rw[World.cell?_setCell_same _ _ _ hcj,List.getD_eq_getElem?_getD,List.getElem?_set_self hil];rfl
    . rw[World.cell?_setCell_other _ _ _ _ (by intro q; injection q with q1 q2; exact e q2),hc5 i hi];simp only[List.getD_eq_getElem?_getD,List.getElem?_set_ne e,List.getElem?_map];rw[List.getElem?_eq_getElem (show i<(str t).data.toList.length by simpa using hil)];rfl
   have hRB:B<=w2.heap.size:=Nat.le_trans hB (by omega);have hKS:∀ v,Kept r w (w5.setCell ⟨w2.heap.size,j,none⟩ v):=fun v=>by
    have Bs:Below w2.heap.size w5 (w5.setCell ⟨w2.heap.size,j,none⟩ v):=(Below.refl _ _).setCell (p:=⟨w2.heap.size,j,none⟩) (Nat.le_refl _) v;exact⟨Bs.os.trans Kw.os,Bs.tape.trans Kw.tape,Bs.output.trans Kw.output,Nat.le_trans Kw.size Bs.size,fun q hq hqr=>(Bs.block q (by omega)).trans (Kw.block q hq hqr)⟩
   have hRS:∀ v,RdU B (w5.setCell ⟨w2.heap.size,j,none⟩ v) r (k+3):=fun v=>(R5.mono (by omega)).set _ _ _ hRB;replace hall:=hid hall;replace hyl:=hid hyl;replace hKS:=hid hKS;replace hRS:=hid hRS;clear hc5 Kw hob5 K3 R3 hcell hobj O A4 K5 R5 E4;generalize w2.heap.size=g at *;have hcv2:=run_convert_bytes_arg (w5.setCell ⟨g,j,none⟩ (.int .u8 ((⟨#[x1]⟩:ByteArray)[0]'(Nat.zero_lt_one)).toNat)) 22 5 Tryz.underlying22 Tryz.underlying5 g 0 M cap _ (hyl.out _) (hall.out _) 9 Tryz.underlying9;go_wp2;go_ret;exact⟨_,rfl,by rw[strOfNums_size,hyl.out]; omega,hRS.out _,hKS.out _⟩
 by_cases q1:y=1
 . subst q1;have c1:(j:Int)<=((M:Nat):Int):=by omega
   go_wp2;go_ret;refine⟨(str t).extract 0 j,rfl,?_,R2.out.mono (by omega),K.out⟩;rw[ByteArray.size_extract,hM]; omega
 by_cases q2:y=2
 . subst q2;have c1:(j:Int)<=((M:Nat):Int):=by omega
   go_wp2_with fail
   go_quiet (fail)
   go_wp2;go_ret;refine⟨(str t).extract 0 j++⟨#[48]⟩++(str t).extract j M,rfl,?_,(R2.out.mono (by omega)).drewN _,K.out.trans (Kept.of_below (AY (Ac _) _))⟩;rw[ByteArray.size_append,ByteArray.size_append,ByteArray.size_extract,ByteArray.size_extract,hM,show(⟨#[48]⟩:ByteArray).size=1 from rfl]; omega
 by_cases q3:y=3
 . subst q3;go_wp2;go_ret;refine⟨str t++⟨#[10]⟩,rfl,?_,R2.out.mono (by omega),K.out⟩;rw[ByteArray.size_append,hM,show(⟨#[10]⟩:ByteArray).size=1 from rfl]; omega
 have hy45:y=4\/y=5:=by omega
 clear q0 q1 q2 q3 hy0 hy1;rcases hy45 with rfl | rfl
 . go_wp2;go_ret;exact⟨str t,rfl,by rw[hM]; omega,R2.out.mono (by omega),K.out⟩
 . go_wp2;go_ret;exact⟨str t,rfl,by rw[hM]; omega,R2.out.mono (by omega),K.out⟩
end Go.Proofs.YtgbiagonfbnooaaGreatDoor
