import Derived.Test.YtflmmdljkhdjlaaZRepR
import Derived.Test.YtflmmdljkhdjlaaZRepV
import Derived.Test.YtflmmdljkhdjlaaZRunStep
import Derived.Test.YtflmmdljkhdjlaaZDrawRepA
set_option linter.all false
set_option maxRecDepth 100000
set_option maxHeartbeats 8000000
open Go.Lib
namespace Go.Proofs.Ytflmmdljkhdjlaa
open Go.RowKit
open M
theorem Gz(s p s' p':Int)(w:World):(Op.equalIn 10000 34 (.agg #[.int .i64 s,.int .i64 p]) (.agg #[.int .i64 s',.int .i64 p'])).run Try.prog w=.ok ((s==s')&&(p==p')) w:=by
 have u3:=Try.underlying3;have a3:=Try.isAgg3;have z3:=Try.sizeOf3;have hS:Try.prog.underlying 34=some (.struct (Try.prog.fieldsOf 34)):=by kernel_rfl
 have hp:Try.prog.stoodInHeld 34=false:=by kernel_rfl
 rw[show(10000:Nat)=9999+1 from rfl,run_equalIn_agg w 9999 34 _ _ hS hp];simp only[Program.fieldsOf,Try.underlying34];go_simp;by_cases h1:s=s'<;>by_cases h2:p=p'<;>simp[h1,h2]
theorem EH(s p:Int)(w:World):(binOp .neq 34 (.agg #[.int .i64 s,.int .i64 p]) (.agg #[.int .i64 s,.int .i64 p])).run Try.prog w=.ok (.bool false) w:=by
 rw[run_neq_struct,Gz];simp
theorem GA:Try.prog.eqGuardType Try.prog.depth 34=false:=by kernel_rfl
theorem Eo(s p:Int)(z:Bool)(w:World):(binOp .neq 36 (BH s p z) (BH s p z)).run Try.prog w=.ok (.bool false) w:=Hv (Hw s p z) w
theorem Ay(A D:Option Addr)(n c d:Nat)(xs:List Pt)(w:World)(I:Parts w A n xs)(J:Parts w D n xs)(hn:n<=1048576) :
 Calls Try.prog 19 #[.slice A n c,.slice D n d] w fun e w'=>e=.returned (.bool true)/\Below w.heap.size w w':=by
 replace I:=hid I;replace J:=hid J;have hN:=EH;have hG:=GA;go_enter Try.func19,Try.ntmps19;go_wp2
 go_loopw [5] (fun i W=>∃ k m:Nat,k<=n/\i=.int .i64 k/\w.drewN m=W) (fun i _=>n-(intOf i).toNat)
 case atStart=>exact⟨0,0,Nat.zero_le _,rfl,rfl⟩
 case round =>
  obtain⟨k,m,hk,rfl,rfl⟩:=hrel;by_cases hlt:k<n
  . obtain⟨b,off,hA,_,hc⟩:=I.out.2 (by omega);obtain⟨b2,off2,hD,_,hc2⟩:=J.out.2 (by omega);obtain⟨W,hW⟩:∃ W,w.drewN m=W:=⟨_,rfl⟩;have k1:PtAt W b (off+k*2) (xs.getD k pz):=hW▸(hc k hlt).of rfl;have k2:PtAt W b2 (off2+k*2) (xs.getD k pz):=hW▸(hc2 k hlt).of rfl;clear hc hc2;subst hA hD;generalize xs.getD k pz=q at *;obtain⟨qc,qm⟩:=q;obtain⟨c0,c1⟩:=k1;obtain⟨d0,d1⟩:=k2;simp only at c0 c1 d0 d1;have hNN:=hN qc qm;rw[hW];replace hW:=hid hW;clear hN;go_wp2_with fail
    go_quiet (fail)
    go_wp2
    go_roundw
    case rel=>exact⟨k+1,m+_,by omega,by go_num,by rw[<- hW.out]; exact(Cm w m _).symm⟩
    case measure=>simp[intOf]; omega
  . go_wp2;go_ret;exact⟨rfl,AM (Ac w) m⟩
theorem Au(A D:Option Addr)(n c d:Nat)(xs:List In)(w:World)(I:Inputs w A n xs)(J:Inputs w D n xs)(hn:n<=1048576) :
 Calls Try.prog 21 #[.slice A n c,.slice D n d] w fun e w'=>e=.returned (.bool true)/\Below w.heap.size w w':=by
 replace I:=hid I;replace J:=hid J;have hN:=Eo;have hG:=F2;go_enter Try.func21,Try.ntmps21;go_wp2
 go_loopw [5] (fun i W=>∃ k m:Nat,k<=n/\i=.int .i64 k/\w.drewN m=W) (fun i _=>n-(intOf i).toNat)
 case atStart=>exact⟨0,0,Nat.zero_le _,rfl,rfl⟩
 case round =>
  obtain⟨k,m,hk,rfl,rfl⟩:=hrel;by_cases hlt:k<n
  . obtain⟨b,off,hA,_,hc⟩:=I.out.2 (by omega);obtain⟨b2,off2,hD,_,hc2⟩:=J.out.2 (by omega);obtain⟨W,hW⟩:∃ W,w.drewN m=W:=⟨_,rfl⟩;have k1:InAt W b (off+k*3) (xs.getD k iz):=hW▸(hc k hlt).of rfl;have k2:InAt W b2 (off2+k*3) (xs.getD k iz):=hW▸(hc2 k hlt).of rfl;clear hc hc2;subst hA hD;generalize xs.getD k iz=q at *;obtain⟨qs,qp,qz⟩:=q;obtain⟨c0,c1,c2⟩:=k1;obtain⟨d0,d1,d2⟩:=k2;simp only at c0 c1 c2 d0 d1 d2;have hNN:=hN qs qp qz;rw[hW];replace hW:=hid hW;clear hN;go_wp2_with fail
    go_quiet (fail)
    go_wp2
    go_roundw
    case rel=>exact⟨k+1,m+_,by omega,by go_num,by rw[<- hW.out]; exact(Cm w m _).symm⟩
    case measure=>simp[intOf]; omega
  . go_wp2;go_ret;exact⟨rfl,AM (Ac w) m⟩
theorem Bu(A:Option Addr)(n cap:Nat)(xs:List In)(ps:List Pt)(L:Nat)(hp:AQ xs=ps)(hL:ps.length=L)(w:World)(Y:Inputs w A n xs)(hn:n<=281474976710656):Calls Try.prog 17 #[.slice A n cap] w (fun e w'=>∃ A1 c1,e=.returned (.slice A1 L c1)/\Parts w' A1 L ps/\(∀ g off,A1=some ⟨g,off,none⟩->w.heap.size<=g)/\L<=c1/\Below w.heap.size w w'):=by
 subst hp;subst hL;refine(Ht A n cap xs w Y hn).mono ?_;rintro e w' ⟨v,rfl,O,B⟩;obtain⟨A,c,rfl,I,M⟩:=Parts.of_own O;exact⟨A,c,rfl,I,M,Bc O,B⟩
theorem Cl(A:Option Addr)(n cap:Nat)(ps:List Pt)(xs:List In)(M:Nat)(hp:Az ps=some xs)(hM:xs.length=M)(w:World)(Y:Parts w A n ps)(hn:n<=281474976710656):Calls Try.prog 20 #[.slice A n cap] w (fun e w'=>∃ A1 c1,e=.returned (.tuple #[.slice A1 M c1,.bool true])/\Inputs w' A1 M xs/\(∀ g off,A1=some ⟨g,off,none⟩->w.heap.size<=g)/\M<=c1/\Below w.heap.size w w'):=by
 subst hM;refine(Dr A n cap ps w Y hn).mono ?_;rintro e w' ⟨v,rfl,O,B⟩;rw[hp] at O ⊢;obtain⟨A,c,rfl,I,M⟩:=Inputs.of_own O;exact⟨A,c,rfl,I,M,Bc O,B⟩
theorem Bq(A:Option Addr)(n cap:Nat)(ps:List Pt)(hp:Az ps=none)(w:World)(Y:Parts w A n ps)(hn:n<=281474976710656):Calls Try.prog 20 #[.slice A n cap] w (fun e w'=>∃ A1 c1,e=.returned (.tuple #[.slice A1 0 c1,.bool false])/\Inputs w' A1 0 []/\(∀ g off,A1=some ⟨g,off,none⟩->w.heap.size<=g)/\0<=c1/\Below w.heap.size w w'):=by
 refine(Dr A n cap ps w Y hn).mono ?_;rintro e w' ⟨v,rfl,O,B⟩;rw[hp] at O ⊢;obtain⟨A,c,rfl,I,M⟩:=Inputs.of_own O;exact⟨A,c,rfl,I,M,Bc O,B⟩
theorem CH(l p s:Int)(A:Option Addr)(n c:Nat)(H:Option Addr)(m d:Nat)(t:Int)(xs:List In)(hs:List Int)(ns:List Int)(L:Nat)(hr:rlist ⟨l,p,s,xs,hs,t⟩=ns)(hL:ns.length=L)(w:World)(Y:Inputs w A n xs)(Z:Ints w H m hs)(hn:n<=281474976710656)(hm:m<=281474976710656):Calls Try.prog 26 #[Dp l p s A n c H m d t] w (fun e w'=>∃ A1 c1,e=.returned (.slice A1 L c1)/\Ints w' A1 L ns/\(∀ g off,A1=some ⟨g,off,none⟩->w.heap.size<=g)/\L<=c1/\Below w.heap.size w w'):=by
 subst hr;subst hL;refine(Hx l p s A n c H m d t xs hs w Y Z hn hm).mono ?_;rintro e w' ⟨v,rfl,O,B⟩;obtain⟨A,c,rfl,I⟩:=Ints.of_own O;refine⟨A,c,rfl,I,fun g off e=>?_,Bc O,B⟩;subst e;exact(O.lt g rfl).1
theorem CI(A:Option Addr)(n cap:Nat)(xs:List In)(ps:List Pt)(L:Nat)(hp:AQ xs=ps)(hL:ps.length=L)(w:World)(Y:Inputs w A n xs)(hn:n<=281474976710656):Calls Try.prog 18 #[.slice A n cap] w (fun e w'=>∃ A1 c1,e=.returned (.slice A1 L c1)/\Parts w' A1 L ps/\(∀ g off,A1=some ⟨g,off,none⟩->w.heap.size<=g)/\L<=c1/\Below w.heap.size w w'):=by
 subst hp;subst hL;refine(EZ A n cap xs w Y hn).mono ?_;rintro e w' ⟨v,rfl,O,B⟩;obtain⟨A,c,rfl,I,M⟩:=Parts.of_own O;exact⟨A,c,rfl,I,M,Bc O,B⟩
theorem Ep(A:Option Addr)(n cap:Nat)(ps:List Pt)(xs:List In)(M:Nat)(hp:Az ps=some xs)(hM:xs.length=M)(w:World)(Y:Parts w A n ps)(hn:n<=281474976710656):Calls Try.prog 23 #[.slice A n cap] w (fun e w'=>∃ A1 c1,e=.returned (.tuple #[.slice A1 M c1,.bool true])/\Inputs w' A1 M xs/\(∀ g off,A1=some ⟨g,off,none⟩->w.heap.size<=g)/\M<=c1/\Below w.heap.size w w'):=by
 subst hM;refine(Do A n cap ps w Y hn).mono ?_;rintro e w' ⟨v,rfl,O,B⟩;rw[hp] at O ⊢;obtain⟨A,c,rfl,I,M⟩:=Inputs.of_own O;exact⟨A,c,rfl,I,M,Bc O,B⟩
theorem Er(A:Option Addr)(n cap:Nat)(ps:List Pt)(hp:Az ps=none)(w:World)(Y:Parts w A n ps)(hn:n<=281474976710656):Calls Try.prog 23 #[.slice A n cap] w (fun e w'=>∃ A1 c1,e=.returned (.tuple #[.slice A1 0 c1,.bool false])/\Inputs w' A1 0 []/\(∀ g off,A1=some ⟨g,off,none⟩->w.heap.size<=g)/\0<=c1/\Below w.heap.size w w'):=by
 refine(Do A n cap ps w Y hn).mono ?_;rintro e w' ⟨v,rfl,O,B⟩;rw[hp] at O ⊢;obtain⟨A,c,rfl,I,M⟩:=Inputs.of_own O;exact⟨A,c,rfl,I,M,Bc O,B⟩
theorem Es(l p s:Int)(A:Option Addr)(n c:Nat)(H:Option Addr)(m d:Nat)(t:Int)(xs:List In)(hs:List Int)(ns:List Int)(L:Nat)(hr:rlist ⟨l,p,s,xs,hs,t⟩=ns)(hL:ns.length=L)(w:World)(Y:Inputs w A n xs)(Z:Ints w H m hs)(hn:n<=281474976710656)(hm:m<=281474976710656):Calls Try.prog 27 #[Dp l p s A n c H m d t] w (fun e w'=>∃ A1 c1,e=.returned (.slice A1 L c1)/\Ints w' A1 L ns/\(∀ g off,A1=some ⟨g,off,none⟩->w.heap.size<=g)/\L<=c1/\Below w.heap.size w w'):=by
 subst hr;subst hL;refine(Hs l p s A n c H m d t xs hs w Y Z hn hm).mono ?_;rintro e w' ⟨v,rfl,O,B⟩;obtain⟨A,c,rfl,I⟩:=Ints.of_own O;refine⟨A,c,rfl,I,fun g off e=>?_,Bc O,B⟩;subst e;exact(O.lt g rfl).1
open Go.RowKit
open M
theorem M.okP_at:∀(ps:List Pt) (k:Nat),Dq ps=true->k<ps.length->1<=(ps.getD k pz).m/\(k+1<ps.length->(ps.getD k pz).c≠(ps.getD (k+1) pz).c)
 | [],k,_,h=>absurd h (by simp)
 | [p],0,h,_=>⟨BL h,fun h1=>absurd h1 (by simp)⟩
 | [p],k+1,_,h=>absurd h (by simp)
 | p::q::ps,0,h,_=>by
  simp only[Dq,Bool.and_eq_true,decide_eq_true_eq] at h;exact⟨h.1.1,fun _=>h.1.2⟩
 | p::q::ps,k+1,h,hk=>by
  have t:=okP_at (q::ps) k (CY h) (by simpa using hk);refine⟨by simpa using t.1,fun h1=>by simpa using t.2 (by simpa using h1)⟩
theorem M.exsP_next{ps:List Pt}{k:Nat}(h:k<ps.length):(BI (ps.take (k+1))).length=(BI (ps.take k)).length+(ps.getD k pz).m.toNat:=by
 rw[List.take_succ_eq_append_getElem h,Fq,List.length_append,List.getD_eq_getElem?_getD,List.getElem?_eq_getElem h];simp[BI]
theorem M.exsP_le(ps:List Pt)(k:Nat):(BI (ps.take k)).length<=(BI ps).length:=by
 have:BI ps=BI (ps.take k)++BI (ps.drop k):=by rw[<- Fq,List.take_append_drop]
 rw[this,List.length_append];omega
theorem Dw(a:Option Addr)(len cap:Nat)(zs:List Int)(w:World)(h:IsRow .u8 w a len cap zs) :
 Calls Try.prog 5 #[.slice a len cap] w fun e w'=>e=.returned (.bool true)/\Below w.heap.size w w':=by
 have hm:=h.bytes.1;have hm2:=h.bytes.2.1;unfold maxLen at hm2;by_cases g:1048576<len
 . have g1:(1048576:Int)<(len:Int):=by omega
   go_enter Try.func5,Try.ntmps5;go_wp2;go_ret;exact⟨rfl,Below.refl _ _⟩
 have g1:(len:Int)<=1048576:=by omega
 clear g hm hm2;go_enter Try.func5,Try.ntmps5;go_wp2_with fail;refine(Cz a len cap zs w h).mono ?_;rintro e w1 ⟨D,N,cc,xs,rfl,⟨hN,hNc⟩,Y,B⟩;have H:=hid B;clear B h;have hxl:=Y.1;have hlen:=BZ xs;obtain⟨ps,hps⟩:∃ ps,AQ xs=ps:=⟨_,rfl⟩;rw[hps] at hlen;obtain⟨L,hL⟩:∃ L,ps.length=L:=⟨_,rfl⟩;have V:=hid (fun W (Z:Inputs W D N xs)=>Bu D N cc xs ps L hps hL W Z (by omega));have S:=hid (fun W (Z:Inputs W D N xs)=>CI D N cc xs ps L hps hL W Z (by omega));replace Y:=hid Y;have hL60:L<=1048576:=by omega
 by_cases h0:L=0
 . subst h0;go_wp2_with fail;refine(V.out _ Y.out).mono ?_;rintro e w2 ⟨A1,c1,rfl,I1,M1,hc1,B⟩;replace Y:=hid (Y.out.step B);replace I1:=hid I1;replace H:=hid (Aa H.out B);clear B;go_wp2_with fail;refine(S.out _ Y.out).mono ?_;rintro e w3 ⟨A2,c2,rfl,I2,M2,hc2,B⟩;replace Y:=hid (Y.out.step B);replace I1:=hid (I1.out.step B);replace I2:=hid I2;replace H:=hid (Aa H.out B);clear B;go_wp2_with fail;refine((Ay A1 A2 0 c1 c2 ps _ I1.out I2.out hL60)).mono ?_;rintro e w4 ⟨rfl,B⟩;replace Y:=hid (Y.out.step B);replace I1:=hid (I1.out.step B);replace I2:=hid (I2.out.step B);replace H:=hid (Aa H.out B);clear B;go_wp2_with fail
   refine((Ay A1 A2 0 c1 c2 ps _ I1.out I2.out hL60)).mono ?_;rintro e w5 ⟨rfl,B⟩;replace Y:=hid (Y.out.step B);replace I1:=hid (I1.out.step B);replace I2:=hid (I2.out.step B);replace H:=hid (Aa H.out B);clear B;go_wp2;go_ret;exact⟨rfl,H.out⟩
 have ok:Ce xs=true:=by
  cases ok:Ce xs
  . rw[AQ,ok] at hps; subst hps; simp at hL; omega
  . rfl
 have hpe:ps=Bj (An xs):=by rw[<- hps,AQ,ok]; rfl
 have hok:Dq ps=true:=by rw[hpe]; exact Df _
 have hex:(BI ps).length=N:=by rw[hpe,Cb,<- hxl]; simp[An]
 have h0b:((L:Int)==0)=false:=by simpa using h0
 have h0c:(L==0)=false:=by simpa using h0
 clear hps hpe ok h0;go_wp2_with fail;refine(V.out _ Y.out).mono ?_;rintro e w2 ⟨A1,c1,rfl,I1,M1,hc1,B⟩;replace Y:=hid (Y.out.step B);replace I1:=hid I1;replace H:=hid (Aa H.out B);clear B;go_wp2_with fail;refine(S.out _ Y.out).mono ?_;rintro e w3 ⟨A2,c2,rfl,I2,M2,hc2,B⟩;replace Y:=hid (Y.out.step B);replace I1:=hid (I1.out.step B);replace I2:=hid I2;replace H:=hid (Aa H.out B);clear B;go_wp2_with fail;refine((Ay A1 A2 L c1 c2 ps _ I1.out I2.out hL60)).mono ?_;rintro e w4 ⟨rfl,B⟩;replace Y:=hid (Y.out.step B);replace I1:=hid (I1.out.step B);replace I2:=hid (I2.out.step B);replace H:=hid (Aa H.out B);clear B;go_wp2
 go_loopw [6,7] (fun nv iv W=>∃ k:Nat,k<=L/\iv=.int .i64 k/\nv=.int .i64 ((BI (ps.take k)).length:Nat)/\Below w4.heap.size w4 W) (fun _ i _=>L-(intOf i).toNat)
 case atStart=>exact⟨0,Nat.zero_le _,rfl,by simp[BI],Ac _⟩
 case round =>
  obtain⟨k,hk,rfl,rfl,B4⟩:=hrel;by_cases hlt:k<L
  rotate_left
  . obtain rfl:k=L:=by omega
    have hx:ps.take k=ps:=by rw[<- hL,List.take_length]
    rw[hx,hex];replace H:=hid (Aa H.out B4);clear B4 hx;go_wp2;go_ret;exact⟨rfl,H.out⟩
  have hkl:k<ps.length:=by omega
  have hat:=okP_at ps k hok hkl;have hen:=exsP_next hkl;have hle:=exsP_le ps (k+1);rw[hex] at hle;obtain⟨b,off,hA,hb,hc⟩:=I1.out.2 (by omega);obtain⟨c0,c1⟩:=(hc k hlt).of (B4.block b hb);have cp:∀ k',k=k'+1->wr.cell? ⟨b,off+k'*2,none⟩=some (.int .i64 (ps.getD k' pz).c):=fun k' e=>((hc k' (by omega)).of (B4.block b hb)).c0;have hne:∀ k',k=k'+1->(ps.getD k' pz).c≠(ps.getD k pz).c:=fun k' e=>by subst e; exact(okP_at ps k' hok (by omega)).2 hkl
  subst hA;generalize ps.getD k pz=q at *;obtain⟨qc,qm⟩:=q;simp only at c0 c1 hat hen hne;generalize hE:(BI (ps.take k)).length=E at *;generalize hE2:(BI (ps.take (k+1))).length=E2 at *;have hm1:=hat.1;have hw:IntKind.i64.wrap ((E:Int)+qm)=((E2:Nat):Int):=by rw[IntWalk.i64_in _ (by omega)]; omega
  have hd1:decide (qm<1)=false:=decide_eq_false (by omega);have hrel2:∀ W:World,Below wr.heap.size wr W->∃ k2:Nat,k2<=L/\(Value.int .i64 ((k+1:Nat):Int))=.int .i64 k2/\(Value.int .i64 (E2:Int))=.int .i64 ((BI (ps.take k2)).length:Nat)/\Below w4.heap.size w4 W:=fun W B5=>⟨k+1,by omega,rfl,by rw[hE2],Aa B4 B5⟩;replace hrel2:=hid hrel2;replace B4:=hid B4;clear hat hen hle hc;by_cases hk0:k=0
  . subst hk0;clear cp hne;go_wp2_with fail
    go_quiet (fail)
    go_wp2
    go_roundw
    case rel=>exact hrel2.out _ (AM (Ac _) _)
    case measure=>simp[intOf]; omega
  obtain⟨k',hk'⟩:∃ k',k=k'+1:=⟨k-1,by omega⟩;have cb:=cp k' hk';have hb2:=hne k' hk';generalize (ps.getD k' pz).c=pc at *;have hw2:IntKind.i64.wrap ((k:Int)-1)=(k':Int):=by rw[IntWalk.i64_in _ (by omega)]; omega
  have g1:decide ((k:Int)>0)=true:=decide_eq_true (by omega);have g2:decide (0<k)=true:=decide_eq_true (by omega);have k0:0<=(k:Int)-1:=by omega
  have k1:(k':Int)<(L:Int):=by omega
  have hq:(pc==qc)=false:=by simpa using hb2
  clear cp hne hk' hb2 hk0;go_wp2_with fail
  go_quiet (fail)
  clear g1 g2;go_wp2
  go_roundw
  case rel=>exact hrel2.out _ (AM (Ac _) _)
  case measure=>simp[intOf]; omega
end Go.Proofs.Ytflmmdljkhdjlaa
