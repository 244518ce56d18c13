import Derived.WalkSmall
import Derived.Test.YtgbiagonfbnooaaGreatDoorZCelS
import Derived.Test.YtgbiagonfbnooaaGreatDoorZRepTxt
import Derived.Test.YtgbiagonfbnooaaGreatDoorZShelf
set_option linter.all false
set_option maxRecDepth 100000
set_option maxHeartbeats 8000000
open Go.Lib
namespace Go.Proofs.YtgbiagonfbnooaaGreatDoor
open Go.RowKit
open M
structure Tabs(w:World):Prop where
 pow:Lib.TabIs Tryz.prog w "internal/strconv.uint64pow10" .u64 Lib.pow10Tab
 pw:1<w.heap.size
 l0:w.cell? ⟨0,0,none⟩=some (.string (str kR))
 l1:w.cell? ⟨0,1,none⟩=some (.string (str kI))
 l2:w.cell? ⟨0,2,none⟩=some (.string (str kH))
 l3:w.cell? ⟨0,3,none⟩=some (.string (str kT))
structure TabsD(w:World):Prop extends Tabs w where
 mx:∃ m,w.cell? ⟨2,0,none⟩=some (.int .i64 m)
 es:∃ te pe,w.cell? ⟨5,0,none⟩=some (.iface te pe)
 er:∃ te pe,w.cell? ⟨6,0,none⟩=some (.iface te pe)
theorem gPow:Tryz.prog.globalNamed "internal/strconv.uint64pow10" = some 1:=by kernel_rfl
theorem Bg{w w':World}{g off:Nat}{v:Value}(h:w.cell? ⟨g,off,none⟩=some v)(B:Below w.heap.size w w'):w'.cell? ⟨g,off,none⟩=some v :=
 (B.cell (show(⟨g,off,none⟩:Addr).block<w.heap.size from Lib.lt_of_cell h)).trans h
theorem Tabs.step{w w':World}(T:Tabs w)(B:Below w.heap.size w w'):Tabs w' where
 pow:=var?_below B gPow T.pw T.pow
 pw:=Nat.lt_of_lt_of_le T.pw B.size
 l0:=Bg T.l0 B
 l1:=Bg T.l1 B
 l2:=Bg T.l2 B
 l3:=Bg T.l3 B
theorem TabsD.step{w w':World}(T:TabsD w)(B:Below w.heap.size w w'):TabsD w' where
 toTabs:=T.toTabs.step B
 mx:=T.mx.imp fun _ h=>Bg h B
 es:=T.es.imp fun _ h=>h.imp fun _ k=>Bg k B
 er:=T.er.imp fun _ h=>h.imp fun _ k=>Bg k B
theorem Tabs.alloc{w:World}(T:Tabs w)(ob:Obj):Tabs (w.alloc ob):=T.step (Ab (Ac w) ob)
theorem Tabs.drew{w:World}(T:Tabs w):Tabs w.drew:=T.step (AY (Ac w) 1)
theorem TabsD.alloc{w:World}(T:TabsD w)(ob:Obj):TabsD (w.alloc ob):=T.step (Ab (Ac w) ob)
theorem TabsD.drew{w:World}(T:TabsD w):TabsD w.drew:=T.step (AY (Ac w) 1)
theorem Mc(w:World)(k:Nat)(os:Array Obj):Below w.heap.size w (Go.Sort.grow (w.drewN k) os) :=
 ⟨rfl,rfl,rfl,by simp[Go.Sort.grow],fun i hi=>by simp only[Go.Sort.grow]; exact Array.getElem?_append_left hi⟩
theorem Iw(n:Int)(h0:-9223372036854775808<=n)(h1:n<=9223372036854775807)(w:World)(T:Tabs w) :
 Calls Tryz.prog 37 #[.int .i64 n] w fun e w'=>e=.returned (.string (str (Go.Lib.itoa n)))/\Below w.heap.size w w':=by
 refine(DX n h0 h1 w T.pow).mono ?_;rintro e w' ⟨rfl,k,os,rfl⟩;exact⟨rfl,Mc w k os⟩
theorem Md(s:ByteArray)(w:World)(T:TabsD w)(hs:s.size<=2097152) :
 Calls Tryz.prog 99 #[.string s] w fun e w'=>((∃ v,Go.Lib.atoiAll (tx s)=.ok v/\e=.returned (.tuple #[.int .i64 v,.nilIface]))\/((∀ v,Go.Lib.atoiAll (tx s)≠.ok v)/\∃ z t p,e=.returned (.tuple #[.int .i64 z,.iface t p])))/\Below w.heap.size w w':=by
 cases h:Go.Lib.atoiAll (tx s) with
 | ok v =>
  refine(C7 s (by omega) v h w).mono ?_;rintro e w' ⟨rfl,hw⟩;refine⟨.inl ⟨v,rfl,rfl⟩,?_⟩;rcases hw with rfl | ⟨t,rfl⟩
  . exact Ac _
  . exact Lib.bytesWorld_below _ _ _
 | range =>
  obtain⟨te,pe,hv⟩:=T.er;refine(Cn s (by omega) h _ w hv (.inr ⟨te,pe,rfl⟩)).mono ?_;rintro e w' ⟨N,rfl,_,_,B⟩;exact⟨.inr ⟨fun v=>(by intro x; cases x),_,_,_,rfl⟩,B⟩
 | _ =>
  obtain⟨te,pe,hv⟩:=T.es;refine(Cg s (by omega) (fun v x=>by cases h.symm.trans x) (fun x=>by cases h.symm.trans x) _ w hv (.inr ⟨te,pe,rfl⟩)).mono ?_;rintro e w' ⟨N,rfl,_,_,B⟩;exact⟨.inr ⟨fun v=>(by intro x; cases x),_,_,_,rfl⟩,B⟩
def Cy(w:Tx):Value:=.tuple #[.int .i64 ((Dn w).getD 0),.bool (Dn w).isSome]
theorem M.numW_no{w:Tx}(h:∀ v,Go.Lib.atoiAll w≠.ok v):Dn w=none:=by
 unfold Dn;split
 . next v e=>exact absurd e (h v)
 . rfl
theorem M.numW_ok{w:Tx}{v:Int}(h:Go.Lib.atoiAll w=.ok v):Dn w=if Go.Lib.itoa v=w then some v else none:=by
 unfold Dn; rw[h]
theorem FV(s:ByteArray)(w:World)(T:TabsD w)(hs:s.size<=2097152) :
 Calls Tryz.prog 73 #[.string s] w fun e w'=>e=.returned (Cy (tx s))/\Below w.heap.size w w':=by
 have C:=Md s w T hs;go_enter Tryz.func73,Tryz.ntmps73;go_wp2_with fail;refine C.mono ?_;rintro e w1 ⟨h,B⟩;clear C;rcases h with⟨v,h,rfl⟩ | ⟨h,z,t,p,rfl⟩
 . obtain⟨vb0,vb1⟩:=Lib.atoiAll_bounds h;have en:=hid (numW_ok h);have C:=hid (Iw v vb0 vb1 w1 (T.step B).toTabs);replace B:=hid B;clear h vb0 vb1 T;go_wp2_with fail;refine C.out.mono ?_;rintro e w2 ⟨rfl,B2⟩;replace B:=hid (Aa B.out B2);clear B2 C;by_cases hq:Go.Lib.itoa v=tx s
   . have e2:=hid (show Cy (tx s)=.tuple #[.int .i64 v,.bool true] by rw[Cy,en.out,if_pos hq]; rfl);have hq2:(Go.Lib.itoa v==s.toList)=true:=by rw[hq,Lib.toList_data]; simp
     clear hq;go_wp2
     go_ret2
     exact⟨by rw[e2.out]; rfl,B.out⟩
   . have e2:=hid (show Cy (tx s)=.tuple #[.int .i64 0,.bool false] by rw[Cy,en.out,if_neg hq]; rfl);have hq2:(Go.Lib.itoa v==s.toList)=false:=by rw[Lib.toList_data,beq_eq_false_iff_ne]; exact hq
     clear hq;go_wp2
     go_ret2
     exact⟨by rw[e2.out]; rfl,B.out⟩
 . have e2:=hid (show Cy (tx s)=.tuple #[.int .i64 0,.bool false] by rw[Cy,numW_no h]; rfl);replace B:=hid B;clear h;go_wp2
   go_ret2
   exact⟨by rw[e2.out]; rfl,B.out⟩
open Go.RowKit
open M
theorem M.nums_snoc'(l:List Int)(n:Int):nums (l++[n])=nums l++32::dec n.toNat:=by simp[nums]
theorem M.dec_le'{n:Nat}(h:n<=9999999):(dec n).length<=7:=Eg n 6 (by omega)
theorem M.nums_le':∀(l:List Int),F7 l->(nums l).length<=8*l.length
 | [],_=>by simp[nums]
 | n::l,h=>by
  have ih:=nums_le' l fun x hx=>h x (List.mem_cons_of_mem _ hx);have h1:=h n (by simp);have h2:=dec_le' (n:=n.toNat) (by omega);have e:nums (n::l)=32::(dec n.toNat++nums l):=by simp[nums]
  rw[e];simp only[List.length_cons,List.length_append];omega
theorem CO(a b:Tx):str a++str b=str (a++b):=by
 apply ByteArray.ext;simp[str]
def NI(w:World)(n:Nat)(t:Tx)(ns:List Int)(sv iv:Value)(W:World):Prop :=
 ∃ k:Nat,k<=n/\iv=.int .i64 k/\sv=.string (str (t++nums (ns.take k)))/\Below w.heap.size w W
theorem Ch(t:Tx)(A:Option Addr)(n cap:Nat)(ns:List Int)(w:World)(T:Tabs w)(I:Ints w A n ns)(ht:t.length<=1000)(hn:n<=1000000)(hr:F7 ns) :
 Calls Tryz.prog 16 #[.string (str t),.slice A n cap] w fun e w'=>e=.returned (.string (str (t++nums ns++[10])))/\Below w.heap.size w w':=by
 have hl:=hid I.1;replace I:=hid I;replace hr:=hid hr;replace T:=hid T;go_enter Tryz.func16,Tryz.ntmps16;go_wp2
 go_loopw [5,11] (NI w n t ns) (fun _ i _=>n-(RowKit.intOf i).toNat)
 case atStart=>exact⟨0,Nat.zero_le _,rfl,by simp[nums],Ac w⟩
 case round =>
  obtain⟨k,hk,rfl,rfl,B⟩:=hrel;by_cases hlt:k<n
  . obtain⟨b,off,rfl,hb,hc⟩:=(I.out.step B).2 (by omega);have cc:=hc k hlt;have hkl:k<ns.length:=by have:=hl.out; omega
    have hz:=hr.out _ (List.getElem_mem hkl);have e1:ns.take (k+1)=ns.take k++[ns.getD k 0]:=by rw[List.take_succ_eq_append_getElem hkl,List.getD_eq_getElem?_getD,List.getElem?_eq_getElem hkl]; rfl
    have e0:ns[k]=ns.getD k 0:=by rw[List.getD_eq_getElem?_getD,List.getElem?_eq_getElem hkl]; rfl
    rw[e0] at hz;have en:t++nums (ns.take (k+1))=(t++nums (ns.take k))++32::dec (ns.getD k 0).toNat:=by rw[e1,nums_snoc']; simp
    have hln:=nums_le' (ns.take k) fun x hx=>hr.out x (List.mem_of_mem_take hx);have hlk:(ns.take k).length<=k:=by simp; omega
    have hdl:=dec_le' (n:=(ns.getD k 0).toNat) (by omega);have T2:=T.out.step B;replace B:=hid B;clear hc e0 e1 hkl;generalize ns.getD k 0=z at *;have C:=fun W TT=>Iw z (by omega) (by omega) W TT;rw[EQ hz.1] at C;have en2:str (t++nums (ns.take k))++(({ data:=#[32] }:ByteArray)++str (dec z.toNat))=str (t++nums (ns.take (k+1))):=by
     rw[show({ data:=#[32] }:ByteArray)=str [32] from rfl,CO,CO,en]; simp
    have hxl:(t++nums (ns.take k)).length<=1000+8*k:=by simp only[List.length_append]; omega
    replace en2:=hid en2;replace C:=hid C;replace T2:=hid T2;clear en hln;generalize t++nums (ns.take k)=x at *;generalize hnx:t++nums (ns.take (k+1))=x2 at *;replace hnx:=hid hnx;generalize dec z.toNat=d at *;have no1:¬ 9223372036854775807<1+d.length:=by omega
    have no2:¬ 9223372036854775807<x.length+(1+d.length):=by omega
    clear hxl hlk hdl hz;go_wp2_with fail;refine(C.out _ T2.out).mono ?_;rintro e w2 ⟨rfl,B2⟩;replace B:=hid (Aa B.out B2);clear B2 C cc T2;go_wp2
    go_roundw
    case rel=>exact⟨k+1,by omega,by go_num,by rw[hnx.out,<- en2.out],B.out⟩
    case measure=>simp[RowKit.intOf]; omega
  . obtain rfl:k=n:=by omega
    have hs:ns.take k=ns:=by rw[<- hl.out,List.take_length]
    rw[hs];have hxl:(t++nums ns).length<=1000+8*k:=by
     have:=nums_le' ns hr.out;have:=hl.out;simp only[List.length_append]; omega
    have e2:=hid (show str (t++nums ns)++({ data:=#[10] }:ByteArray)=str (t++nums ns++[10]) by rw[show({ data:=#[10] }:ByteArray)=str [10] from rfl,CO]);replace B:=hid B;clear hs;generalize hx:t++nums ns=x at *;replace hx:=hid hx;have no:¬ 9223372036854775807<x.length+1:=by omega
    clear hxl;go_wp2;go_ret;exact⟨by rw[hx.out,<- e2.out]; rfl,B.out⟩
open Go.RowKit
open M
theorem M.rdT_step(q:Tx):GA (32::q)=match Dn ((M.cut 32 q).headD []) with
 | some n=>(GA (q.drop ((M.cut 32 q).headD []).length)).map (n::·)
 | none=>none:=by
 have ne:=Bw 32 q;have e:=Ca 32 q;have hf:Io (M.cut 32 q).tail:=fun w hw=>@Di 32 q w (by rw[ne]; exact List.mem_cons_of_mem _ hw);have e1:GA (32::q)=Lp (M.cut 32 q):=by rw[GA,M.cut,if_pos rfl]
 rw[ne,Cc] at e;have key:∀ u v:Tx,u++v=q->q.drop u.length=v:=by
  rintro u v rfl;exact List.drop_left ..
 have e2:q.drop ((M.cut 32 q).headD []).length=LZ (M.cut 32 q).tail:=key _ _ e;rw[e1,e2,Iq hf]
 conv=>lhs; rw[ne,Lp]
 cases Dn ((M.cut 32 q).headD [])<;>rfl
theorem M.head_le(q:Tx):((M.cut 32 q).headD []).length<=q.length:=by
 have e:=Ca 32 q;rw[Bw,Cc] at e;have:=congrArg List.length e;rw[List.length_append] at this;omega
theorem NJ{W W':World}(B:Below W.heap.size W W'):W.grownBy W' none:=⟨B.os,B.tape,B.output,B.size,fun k hk _=>B.block k hk⟩
theorem KQ{W W':World}{base:Nat}{e:TypeId}{sz:Nat}{v:Value}{n:Nat}{xs:List Value}(h:W.ownsRow base e sz v n xs)(B:Below W.heap.size W W'):W'.ownsRow base e sz v n xs:=h.kept (NJ B) (by
 cases h':v.ownBlock with
 | none=>exact .inl rfl
 | some g=>exact .inr (by simp))
def NK(w:World)(o:Option (List Int))(e:Ending)(w':World):Prop :=
 ∃ v,e=.returned (.tuple #[v,.bool o.isSome])/\(∀ l,o=some l->w'.ownsRow w.heap.size 3 1 v l.length (l.map (Value.int .i64)))/\Below w.heap.size w w'
def NL(w:World)(m:Nat)(r0:Tx)(rv ov:Value)(W:World):Prop :=
 ∃(r:Tx) (ls:List Int),rv=.string (str r)/\ls.length+r.length<=m/\GA r0=(GA r).map (ls++·)/\W.ownsRow w.heap.size 3 1 ov ls.length (ls.map (Value.int .i64))/\Below w.heap.size w W
def lenOf:Value->Nat
 | .string s=>s.size
 | _=>0
theorem Nl(q:Tx)(w:World)(T:TabsD w)(hs:q.length<=2097152) :
 Calls Tryz.prog 72 #[.string (str q),.string ⟨#[32]⟩] w fun e w'=>∃ a b n,e=.returned (.tuple #[.string (str ((M.cut 32 q).headD [])),.string a,.bool b])/\w'=w.drewN n:=by
 obtain⟨m,hm⟩:=T.mx;have hz:(str q).size=q.length:=by rw[<- BV]
 refine(EY (str q) ⟨#[32]⟩ m w (by rw[hz]; omega) hm).mono ?_;rintro e w' ⟨rfl,n,rfl⟩;refine⟨⟨(Go.Lib.cut (str q).data.toList ({ data:=#[32] }:ByteArray).data.toList).2.1.toArray⟩,(Go.Lib.cut (str q).data.toList ({ data:=#[32] }:ByteArray).data.toList).2.2,n,?_,rfl⟩;rw[show(Go.Lib.cut (str q).data.toList ({ data:=#[32] }:ByteArray).data.toList).1=(M.cut 32 q).headD [] from L5 32 q]
theorem Ff(s t:ByteArray)(w:World)(T:TabsD w)(hs:s.size<=2097152) :
 Calls Tryz.prog 46 #[.string s,.string t] w (NK w (BE (tx s) (tx t))):=by
 replace T:=hid T;have C:=BC s t w;cases hp:Go.Lib.hasPrefix (tx s) (tx t)
 . have e:=hid (show BE (tx s) (tx t)=none by rw[BE,if_neg (by rw[hp]; simp)]);rw[show Go.Lib.hasPrefix s.data.toList t.data.toList=false from hp] at C;replace C:=hid C;clear hp;go_enter Tryz.func46,Tryz.ntmps46;go_wp2_with fail;refine C.out.mono ?_;rintro e w1 ⟨rfl,rfl⟩;clear C;go_wp2
   go_ret2
   exact⟨_,by rw[e.out]; rfl,(by rw[e.out]; intro l h; cases h),Ac _⟩
 have e0:=hid (show BE (tx s) (tx t)=GA (Go.Lib.trimPrefix (tx s) (tx t)) by rw[BE,if_pos hp]);have hlen:(Go.Lib.trimPrefix (tx s) (tx t)).length<=s.size:=by rw[<- BV]; exact Lib.trimPrefix_le _ _
 rw[show Go.Lib.hasPrefix s.data.toList t.data.toList=true from hp] at C;have C:Calls Tryz.prog 71 #[.string s,.string t] w fun e w'=>e=.returned (.tuple #[.string (str (Go.Lib.trimPrefix (tx s) (tx t))),.bool true])/\w'=w:=C;clear hp;generalize Go.Lib.trimPrefix (tx s) (tx t)=r0 at *;generalize BE (tx s) (tx t)=o at *;have O:(w.alloc (.cells #[] 3)).ownsRow w.heap.size 3 1 (.slice (some ⟨w.heap.size,0,none⟩) 0 0) ([]:List Int).length (([]:List Int).map (Value.int .i64)):=World.ownsRow_lit w #[] 0 (Nat.le_refl _) (Nat.zero_le _) rfl;have B:=Ab (Ac w) (.cells #[] 3);replace C:=hid C;replace O:=hid O;replace B:=hid B
 replace hlen:=hid (Nat.le_trans hlen hs);clear hs;go_enter Tryz.func46,Tryz.ntmps46;go_wp2_with fail;refine C.out.mono ?_;rintro e w1 ⟨rfl,rfl⟩;clear C;go_wp2
 go_loopw [6,8] (NL w1 2097152 r0) (fun rv _ _=>lenOf rv)
 case atStart=>exact⟨r0,[],rfl,by have:=hlen.out; simpa using this,by simp,O.out,B.out⟩
 case round =>
  clear O B;obtain⟨r,ls,rfl,hm,hr,O,B⟩:=hrel;replace O:=hid O;cases r with
  | nil =>
   have e1:=hid (show o=some ls by rw[e0.out,hr]; simp[GA,M.cut,Lp]);replace B:=hid B;clear hr hm;go_wp2;exact bodyPost_ret (v:=.tuple #[_,.bool true]) (by simp[results,Tryz.results46,go_sem]; rfl) rfl ⟨_,by rw[e1.out]; rfl,(by rw[e1.out]; intro l h; cases h; exact O.out),B.out⟩
  | cons b q =>
   have hq:q.length<=2097152:=by simp only[List.length_cons] at hm; omega
   have hne:((b::q)==([]:List UInt8))=false:=rfl;have C:=BC (str (b::q)) ⟨#[32]⟩;by_cases hb:b=32
   rotate_left
   . have e1:=hid (show o=none by rw[e0.out,hr,L3 hb]; rfl);rw[show Go.Lib.hasPrefix (str (b::q)).data.toList ({ data:=#[32] }:ByteArray).data.toList=false by show(List.isPrefixOf [32] (b::q))=false; simp[List.isPrefixOf,Ne.symm hb]] at C;replace C:=hid C;replace B:=hid B;clear hr hm hb;generalize b::q=r at *;go_wp2_with fail;refine(C.out _).mono ?_;rintro e w2 ⟨rfl,rfl⟩;clear C;go_wp2;exact bodyPost_ret (v:=.tuple #[_,.bool false]) (by simp[results,Tryz.results46,go_sem]; rfl) rfl ⟨_,by rw[e1.out]; rfl,(by rw[e1.out]; intro l h; cases h),B.out⟩
   subst hb;have T2:=T.out.step B;have e1:=rdT_step q;have hu:=head_le q;have D:=Nl q;have C:∀ W,Calls Tryz.prog 71 #[.string (str (32::q)),.string ⟨#[32]⟩] W fun e w'=>e=.returned (.tuple #[.string (str q),.bool true])/\w'=W:=fun W=>by
    have:=C W;rw[show Go.Lib.hasPrefix (str (32::q)).data.toList ({ data:=#[32] }:ByteArray).data.toList=true by show(List.isPrefixOf [32] (32::q))=true; simp[List.isPrefixOf],show Go.Lib.trimPrefix (str (32::q)).data.toList ({ data:=#[32] }:ByteArray).data.toList=q by show Go.Lib.trimPrefix (32::q) [32]=q; simp[Go.Lib.trimPrefix,Go.Lib.hasPrefix,List.isPrefixOf]] at this;exact this
   have E:=fun W TW=>FV (str ((M.cut 32 q).headD [])) W TW (by rw[<- BV,Cz]; omega);rw[Cz] at E;have hex:(str q).extract ((M.cut 32 q).headD []).length q.length=str (q.drop ((M.cut 32 q).headD []).length):=by
    rw[Hs,Cz,List.take_length]
   rw[e1] at hr;simp only[List.length_cons] at hm;replace C:=hid C;replace D:=hid D;replace E:=hid E;replace hex:=hid hex;replace T2:=hid T2;replace B:=hid B;clear e1;generalize (M.cut 32 q).headD []=u at *;generalize h32:(32:UInt8)::q=r at *;replace h32:=hid h32;go_wp2_with fail;refine(C.out _).mono ?_;rintro e w2 ⟨rfl,rfl⟩;clear C;go_wp2_with fail;refine(D.out _ T2.out hq).mono ?_;rintro e w3 ⟨a,bb,nd,rfl,rfl⟩;clear D;go_wp2_with fail;refine(E.out _ (T2.out.step (AY (Ac _) nd))).mono ?_;rintro e w4 ⟨he,B4⟩;have BD:=(Aa (AY (Ac w2) nd) B4);replace O:=hid (KQ O.out BD);replace B:=hid (Aa B.out BD);clear BD B4 E T2
   cases hn:Dn u with
   | none =>
    have e1:=hid (show o=none by rw[e0.out,hr,hn]; rfl);rw[show Cy u=.tuple #[.int .i64 0,.bool false] by rw[Cy,hn]; rfl] at he;subst he;clear hn hr;go_wp2;exact bodyPost_ret (v:=.tuple #[_,.bool false]) (by simp[results,Tryz.results46,go_sem]; rfl) rfl ⟨_,by rw[e1.out]; rfl,(by rw[e1.out]; intro l h; cases h),B.out⟩
   | some n =>
    rw[show Cy u=.tuple #[.int .i64 n,.bool true] by rw[Cy,hn]; rfl] at he;subst he;have hr2:=hid (show GA r0=(GA (q.drop u.length)).map ((ls++[n])++·) by
     rw[hr,hn];simp only[Option.map_map];congr 1;funext x;simp)
    have hdl:(q.drop u.length).length+u.length=q.length:=by rw[List.length_drop]; omega
    clear hn hr;obtain⟨A2,ca2,hv2,_⟩:=Ints.of_own O.out;subst hv2;have hsz2:=B.out.size;have hll:ls.length<=2097152:=by omega
    go_wp2_with (go_loud (at_builtin; refine AP _ rfl (.tmp 46) (.tmp 48) rfl w1.heap.size (Value.slice A2 ls.length ca2) ls.length ls rfl (O.out.alloc _) (some ⟨w4.heap.size,0,none⟩) 1 1 [n] rfl (Ints.one w4 n _) (by omega) (by simp; omega) ?_));intro v' w9 O9 G9 hB9;have B9:=(Ab B.out _).grown G9 (by simp; omega) (fun g' e=>by have:=(O.out.lt g' e).1; omega);replace O9:=hid O9;replace B9:=hid B9;clear G9 O B hB9;go_wp2
    go_roundw
    case rel=>exact⟨q.drop u.length,ls++[n],(by rw[<- hex.out]),(by simp; omega),hr2.out,(by simpa using O9.out),B9.out⟩
    case measure=>have hrl:=congrArg List.length h32.out; have z1:(str q).size=q.length:=(by rw[<- BV]); have z2:(str r).size=r.length:=(by rw[<- BV]); simp only[List.length_cons] at hrl; simp[lenOf]; omega
end Go.Proofs.YtgbiagonfbnooaaGreatDoor
