import Derived.WalkSmall
import Derived.Test.YtgbiagonfbnooaaDoorZCelS
import Derived.Test.YtgbiagonfbnooaaDoorZRepTxt
import Derived.Test.YtgbiagonfbnooaaDoorZShelf
set_option linter.all false
set_option maxRecDepth 100000
set_option maxHeartbeats 8000000
open Go.Lib
namespace Go.Proofs.YtgbiagonfbnooaaDoor
open Go.RowKit
open M
structure Tabs(w:World):Prop where
 pow:Lib.TabIs Tryd.prog w "internal/strconv.uint64pow10" .u64 Lib.pow10Tab
 pw:1<w.heap.size
 l0:w.cell? ⟨0,0,none⟩=some (.string (str kR))
 l1:w.cell? ⟨0,1,none⟩=some (.string (str kI))
 l2:w.cell? ⟨0,2,none⟩=some (.string (str kH))
 l3:w.cell? ⟨0,3,none⟩=some (.string (str kT))
theorem gPow:Tryd.prog.globalNamed "internal/strconv.uint64pow10" = some 1:=by kernel_rfl
theorem BH{w w':World}{g off:Nat}{v:Value}(h:w.cell? ⟨g,off,none⟩=some v)(B:Below w.heap.size w w'):w'.cell? ⟨g,off,none⟩=some v :=
 (B.cell (show(⟨g,off,none⟩:Addr).block<w.heap.size from Lib.lt_of_cell h)).trans h
theorem Tabs.step{w w':World}(T:Tabs w)(B:Below w.heap.size w w'):Tabs w' where
 pow:=var?_below B gPow T.pw T.pow
 pw:=Nat.lt_of_lt_of_le T.pw B.size
 l0:=BH T.l0 B
 l1:=BH T.l1 B
 l2:=BH T.l2 B
 l3:=BH T.l3 B
theorem Tabs.alloc{w:World}(T:Tabs w)(ob:Obj):Tabs (w.alloc ob):=T.step (Ab (Ac w) ob)
theorem Tabs.drew{w:World}(T:Tabs w):Tabs w.drew:=T.step (Cg (Ac w) 1)
theorem Kv(w:World)(k:Nat)(os:Array Obj):Below w.heap.size w (Go.Sort.grow (w.drewN k) os) :=
 ⟨rfl,rfl,rfl,by simp[Go.Sort.grow],fun i hi=>by simp only[Go.Sort.grow]; exact Array.getElem?_append_left hi⟩
theorem Kw(n:Int)(h0:-9223372036854775808<=n)(h1:n<=9223372036854775807)(w:World)(T:Tabs w) :
 Calls Tryd.prog 45 #[.int .i64 n] w fun e w'=>e=.returned (.string (str (Go.Lib.itoa n)))/\Below w.heap.size w w':=by
 refine(De n h0 h1 w T.pow).mono ?_;rintro e w' ⟨rfl,k,os,rfl⟩;exact⟨rfl,Kv w k os⟩
open Go.RowKit
open M
theorem M.nums_snoc'(l:List Int)(n:Int):nums (l++[n])=nums l++32::dec n.toNat:=by simp[nums]
theorem M.dec_le'{n:Nat}(h:n<=9999999):(dec n).length<=7:=Dn n 6 (by omega)
theorem M.nums_le':∀(l:List Int),JG l->(nums l).length<=8*l.length
 | [],_=>by simp[nums]
 | n::l,h=>by
  have ih:=nums_le' l fun x hx=>h x (List.mem_cons_of_mem _ hx);have h1:=h n (by simp);have h2:=dec_le' (n:=n.toNat) (by omega);have e:nums (n::l)=32::(dec n.toNat++nums l):=by simp[nums]
  rw[e];simp only[List.length_cons,List.length_append];omega
theorem Cf(a b:Tx):str a++str b=str (a++b):=by
 apply ByteArray.ext;simp[str]
def LM(w:World)(n:Nat)(t:Tx)(ns:List Int)(sv iv:Value)(W:World):Prop :=
 ∃ k:Nat,k<=n/\iv=.int .i64 k/\sv=.string (str (t++nums (ns.take k)))/\Below w.heap.size w W
theorem BI(t:Tx)(A:Option Addr)(n cap:Nat)(ns:List Int)(w:World)(T:Tabs w)(I:Ints w A n ns)(ht:t.length<=1000)(hn:n<=1000000)(hr:JG ns) :
 Calls Tryd.prog 18 #[.string (str t),.slice A n cap] w fun e w'=>e=.returned (.string (str (t++nums ns++[10])))/\Below w.heap.size w w':=by
 have hl:=hid I.1;replace I:=hid I;replace hr:=hid hr;replace T:=hid T;go_enter Tryd.func18,Tryd.ntmps18;go_wp2
 go_loopw [5,11] (LM w n t ns) (fun _ i _=>n-(RowKit.intOf i).toNat)
 case atStart=>exact⟨0,Nat.zero_le _,rfl,by simp[nums],Ac w⟩
 case round =>
  obtain⟨k,hk,rfl,rfl,B⟩:=hrel;by_cases hlt:k<n
  . obtain⟨b,off,rfl,hb,hc⟩:=(I.out.step B).2 (by omega);have cc:=hc k hlt;have hkl:k<ns.length:=by have:=hl.out; omega
    have hz:=hr.out _ (List.getElem_mem hkl);have e1:ns.take (k+1)=ns.take k++[ns.getD k 0]:=by rw[List.take_succ_eq_append_getElem hkl,List.getD_eq_getElem?_getD,List.getElem?_eq_getElem hkl]; rfl
    have e0:ns[k]=ns.getD k 0:=by rw[List.getD_eq_getElem?_getD,List.getElem?_eq_getElem hkl]; rfl
    rw[e0] at hz;have en:t++nums (ns.take (k+1))=(t++nums (ns.take k))++32::dec (ns.getD k 0).toNat:=by rw[e1,nums_snoc']; simp
    have hln:=nums_le' (ns.take k) fun x hx=>hr.out x (List.mem_of_mem_take hx);have hlk:(ns.take k).length<=k:=by simp; omega
    have hdl:=dec_le' (n:=(ns.getD k 0).toNat) (by omega);have T2:=T.out.step B;replace B:=hid B;clear hc e0 e1 hkl;generalize ns.getD k 0=z at *;have C:=fun W TT=>Kw z (by omega) (by omega) W TT;rw[Jp hz.1] at C;have en2:str (t++nums (ns.take k))++(({ data:=#[32] }:ByteArray)++str (dec z.toNat))=str (t++nums (ns.take (k+1))):=by
     rw[show({ data:=#[32] }:ByteArray)=str [32] from rfl,Cf,Cf,en]; simp
    have hxl:(t++nums (ns.take k)).length<=1000+8*k:=by simp only[List.length_append]; omega
    replace en2:=hid en2;replace C:=hid C;replace T2:=hid T2;clear en hln;generalize t++nums (ns.take k)=x at *;generalize hnx:t++nums (ns.take (k+1))=x2 at *;replace hnx:=hid hnx;generalize dec z.toNat=d at *;have no1:¬ 9223372036854775807<1+d.length:=by omega
    have no2:¬ 9223372036854775807<x.length+(1+d.length):=by omega
    clear hxl hlk hdl hz;go_wp2_with fail;refine(C.out _ T2.out).mono ?_;rintro e w2 ⟨rfl,B2⟩;replace B:=hid (Aa B.out B2);clear B2 C cc T2;go_wp2
    go_roundw
    case rel=>exact⟨k+1,by omega,by go_num,by rw[hnx.out,<- en2.out],B.out⟩
    case measure=>simp[RowKit.intOf]; omega
  . obtain rfl:k=n:=by omega
    have hs:ns.take k=ns:=by rw[<- hl.out,List.take_length]
    rw[hs];have hxl:(t++nums ns).length<=1000+8*k:=by
     have:=nums_le' ns hr.out;have:=hl.out;simp only[List.length_append]; omega
    have e2:=hid (show str (t++nums ns)++({ data:=#[10] }:ByteArray)=str (t++nums ns++[10]) by rw[show({ data:=#[10] }:ByteArray)=str [10] from rfl,Cf]);replace B:=hid B;clear hs;generalize hx:t++nums ns=x at *;replace hx:=hid hx;have no:¬ 9223372036854775807<x.length+1:=by omega
    clear hxl;go_wp2;go_ret;exact⟨by rw[hx.out,<- e2.out]; rfl,B.out⟩
open Go.RowKit
open M
def lenOf:Value->Nat
 | .string s=>s.size
 | _=>0
end Go.Proofs.YtgbiagonfbnooaaDoor
