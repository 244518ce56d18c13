import Derived.Test.YtflmmdljkhdjlaaZRepR
import Derived.Test.YtflmmdljkhdjlaaZRepV
import Derived.Test.YtflmmdljkhdjlaaZRunHsP
set_option linter.all false
set_option maxRecDepth 100000
set_option maxHeartbeats 8000000
open Go.Lib
namespace Go.Proofs.Ytflmmdljkhdjlaa
open Go.RowKit
open M
theorem Gz(s p s' p':Int)(w:World):(Op.equalIn 10000 34 (.agg #[.int .i64 s,.int .i64 p]) (.agg #[.int .i64 s',.int .i64 p'])).run Try.prog w=.ok ((s==s')&&(p==p')) w:=by
 have u3:=Try.underlying3;have a3:=Try.isAgg3;have z3:=Try.sizeOf3;have hS:Try.prog.underlying 34=some (.struct (Try.prog.fieldsOf 34)):=by kernel_rfl
 have hp:Try.prog.stoodInHeld 34=false:=by kernel_rfl
 rw[show(10000:Nat)=9999+1 from rfl,run_equalIn_agg w 9999 34 _ _ hS hp];simp only[Program.fieldsOf,Try.underlying34];go_simp;by_cases h1:s=s'<;>by_cases h2:p=p'<;>simp[h1,h2]
theorem EH(s p:Int)(w:World):(binOp .neq 34 (.agg #[.int .i64 s,.int .i64 p]) (.agg #[.int .i64 s,.int .i64 p])).run Try.prog w=.ok (.bool false) w:=by
 rw[run_neq_struct,Gz];simp
theorem GA:Try.prog.eqGuardType Try.prog.depth 34=false:=by kernel_rfl
theorem Eo(s p:Int)(z:Bool)(w:World):(binOp .neq 36 (BH s p z) (BH s p z)).run Try.prog w=.ok (.bool false) w:=Hv (Hw s p z) w
theorem Ay(A D:Option Addr)(n c d:Nat)(xs:List Pt)(w:World)(I:Parts w A n xs)(J:Parts w D n xs)(hn:n<=1048576) :
 Calls Try.prog 19 #[.slice A n c,.slice D n d] w fun e w'=>e=.returned (.bool true)/\Below w.heap.size w w':=by
 replace I:=hid I;replace J:=hid J;have hN:=EH;have hG:=GA;go_enter Try.func19,Try.ntmps19;go_wp2
 go_loopw [5] (fun i W=>∃ k m:Nat,k<=n/\i=.int .i64 k/\w.drewN m=W) (fun i _=>n-(intOf i).toNat)
 case atStart=>exact⟨0,0,Nat.zero_le _,rfl,rfl⟩
 case round =>
  obtain⟨k,m,hk,rfl,rfl⟩:=hrel;by_cases hlt:k<n
  . obtain⟨b,off,hA,_,hc⟩:=I.out.2 (by omega);obtain⟨b2,off2,hD,_,hc2⟩:=J.out.2 (by omega);obtain⟨W,hW⟩:∃ W,w.drewN m=W:=⟨_,rfl⟩;have k1:PtAt W b (off+k*2) (xs.getD k pz):=hW▸(hc k hlt).of rfl;have k2:PtAt W b2 (off2+k*2) (xs.getD k pz):=hW▸(hc2 k hlt).of rfl;clear hc hc2;subst hA hD;generalize xs.getD k pz=q at *;obtain⟨qc,qm⟩:=q;obtain⟨c0,c1⟩:=k1;obtain⟨d0,d1⟩:=k2;simp only at c0 c1 d0 d1;have hNN:=hN qc qm;rw[hW];replace hW:=hid hW;clear hN;go_wp2_with fail
    go_quiet (fail)
    go_wp2
    go_roundw
    case rel=>exact⟨k+1,m+_,by omega,by go_num,by rw[<- hW.out]; exact(Cm w m _).symm⟩
    case measure=>simp[intOf]; omega
  . go_wp2;go_ret;exact⟨rfl,AM (Ac w) m⟩
theorem Au(A D:Option Addr)(n c d:Nat)(xs:List In)(w:World)(I:Inputs w A n xs)(J:Inputs w D n xs)(hn:n<=1048576) :
 Calls Try.prog 21 #[.slice A n c,.slice D n d] w fun e w'=>e=.returned (.bool true)/\Below w.heap.size w w':=by
 replace I:=hid I;replace J:=hid J;have hN:=Eo;have hG:=F2;go_enter Try.func21,Try.ntmps21;go_wp2
 go_loopw [5] (fun i W=>∃ k m:Nat,k<=n/\i=.int .i64 k/\w.drewN m=W) (fun i _=>n-(intOf i).toNat)
 case atStart=>exact⟨0,0,Nat.zero_le _,rfl,rfl⟩
 case round =>
  obtain⟨k,m,hk,rfl,rfl⟩:=hrel;by_cases hlt:k<n
  . obtain⟨b,off,hA,_,hc⟩:=I.out.2 (by omega);obtain⟨b2,off2,hD,_,hc2⟩:=J.out.2 (by omega);obtain⟨W,hW⟩:∃ W,w.drewN m=W:=⟨_,rfl⟩;have k1:InAt W b (off+k*3) (xs.getD k iz):=hW▸(hc k hlt).of rfl;have k2:InAt W b2 (off2+k*3) (xs.getD k iz):=hW▸(hc2 k hlt).of rfl;clear hc hc2;subst hA hD;generalize xs.getD k iz=q at *;obtain⟨qs,qp,qz⟩:=q;obtain⟨c0,c1,c2⟩:=k1;obtain⟨d0,d1,d2⟩:=k2;simp only at c0 c1 c2 d0 d1 d2;have hNN:=hN qs qp qz;rw[hW];replace hW:=hid hW;clear hN;go_wp2_with fail
    go_quiet (fail)
    go_wp2
    go_roundw
    case rel=>exact⟨k+1,m+_,by omega,by go_num,by rw[<- hW.out]; exact(Cm w m _).symm⟩
    case measure=>simp[intOf]; omega
  . go_wp2;go_ret;exact⟨rfl,AM (Ac w) m⟩
theorem Bu(A:Option Addr)(n cap:Nat)(xs:List In)(ps:List Pt)(L:Nat)(hp:AQ xs=ps)(hL:ps.length=L)(w:World)(Y:Inputs w A n xs)(hn:n<=281474976710656):Calls Try.prog 17 #[.slice A n cap] w (fun e w'=>∃ A1 c1,e=.returned (.slice A1 L c1)/\Parts w' A1 L ps/\(∀ g off,A1=some ⟨g,off,none⟩->w.heap.size<=g)/\L<=c1/\Below w.heap.size w w'):=by
 subst hp;subst hL;refine(Ht A n cap xs w Y hn).mono ?_;rintro e w' ⟨v,rfl,O,B⟩;obtain⟨A,c,rfl,I,M⟩:=Parts.of_own O;exact⟨A,c,rfl,I,M,Bc O,B⟩
theorem Cl(A:Option Addr)(n cap:Nat)(ps:List Pt)(xs:List In)(M:Nat)(hp:Az ps=some xs)(hM:xs.length=M)(w:World)(Y:Parts w A n ps)(hn:n<=281474976710656):Calls Try.prog 20 #[.slice A n cap] w (fun e w'=>∃ A1 c1,e=.returned (.tuple #[.slice A1 M c1,.bool true])/\Inputs w' A1 M xs/\(∀ g off,A1=some ⟨g,off,none⟩->w.heap.size<=g)/\M<=c1/\Below w.heap.size w w'):=by
 subst hM;refine(Dr A n cap ps w Y hn).mono ?_;rintro e w' ⟨v,rfl,O,B⟩;rw[hp] at O ⊢;obtain⟨A,c,rfl,I,M⟩:=Inputs.of_own O;exact⟨A,c,rfl,I,M,Bc O,B⟩
theorem Bq(A:Option Addr)(n cap:Nat)(ps:List Pt)(hp:Az ps=none)(w:World)(Y:Parts w A n ps)(hn:n<=281474976710656):Calls Try.prog 20 #[.slice A n cap] w (fun e w'=>∃ A1 c1,e=.returned (.tuple #[.slice A1 0 c1,.bool false])/\Inputs w' A1 0 []/\(∀ g off,A1=some ⟨g,off,none⟩->w.heap.size<=g)/\0<=c1/\Below w.heap.size w w'):=by
 refine(Dr A n cap ps w Y hn).mono ?_;rintro e w' ⟨v,rfl,O,B⟩;rw[hp] at O ⊢;obtain⟨A,c,rfl,I,M⟩:=Inputs.of_own O;exact⟨A,c,rfl,I,M,Bc O,B⟩
theorem CH(l p s:Int)(A:Option Addr)(n c:Nat)(H:Option Addr)(m d:Nat)(t:Int)(xs:List In)(hs:List Int)(ns:List Int)(L:Nat)(hr:rlist ⟨l,p,s,xs,hs,t⟩=ns)(hL:ns.length=L)(w:World)(Y:Inputs w A n xs)(Z:Ints w H m hs)(hn:n<=281474976710656)(hm:m<=281474976710656):Calls Try.prog 26 #[Dp l p s A n c H m d t] w (fun e w'=>∃ A1 c1,e=.returned (.slice A1 L c1)/\Ints w' A1 L ns/\(∀ g off,A1=some ⟨g,off,none⟩->w.heap.size<=g)/\L<=c1/\Below w.heap.size w w'):=by
 subst hr;subst hL;refine(Hx l p s A n c H m d t xs hs w Y Z hn hm).mono ?_;rintro e w' ⟨v,rfl,O,B⟩;obtain⟨A,c,rfl,I⟩:=Ints.of_own O;refine⟨A,c,rfl,I,fun g off e=>?_,Bc O,B⟩;subst e;exact(O.lt g rfl).1
theorem CI(A:Option Addr)(n cap:Nat)(xs:List In)(ps:List Pt)(L:Nat)(hp:AQ xs=ps)(hL:ps.length=L)(w:World)(Y:Inputs w A n xs)(hn:n<=281474976710656):Calls Try.prog 18 #[.slice A n cap] w (fun e w'=>∃ A1 c1,e=.returned (.slice A1 L c1)/\Parts w' A1 L ps/\(∀ g off,A1=some ⟨g,off,none⟩->w.heap.size<=g)/\L<=c1/\Below w.heap.size w w'):=by
 subst hp;subst hL;refine(EZ A n cap xs w Y hn).mono ?_;rintro e w' ⟨v,rfl,O,B⟩;obtain⟨A,c,rfl,I,M⟩:=Parts.of_own O;exact⟨A,c,rfl,I,M,Bc O,B⟩
theorem Ep(A:Option Addr)(n cap:Nat)(ps:List Pt)(xs:List In)(M:Nat)(hp:Az ps=some xs)(hM:xs.length=M)(w:World)(Y:Parts w A n ps)(hn:n<=281474976710656):Calls Try.prog 23 #[.slice A n cap] w (fun e w'=>∃ A1 c1,e=.returned (.tuple #[.slice A1 M c1,.bool true])/\Inputs w' A1 M xs/\(∀ g off,A1=some ⟨g,off,none⟩->w.heap.size<=g)/\M<=c1/\Below w.heap.size w w'):=by
 subst hM;refine(Do A n cap ps w Y hn).mono ?_;rintro e w' ⟨v,rfl,O,B⟩;rw[hp] at O ⊢;obtain⟨A,c,rfl,I,M⟩:=Inputs.of_own O;exact⟨A,c,rfl,I,M,Bc O,B⟩
theorem Er(A:Option Addr)(n cap:Nat)(ps:List Pt)(hp:Az ps=none)(w:World)(Y:Parts w A n ps)(hn:n<=281474976710656):Calls Try.prog 23 #[.slice A n cap] w (fun e w'=>∃ A1 c1,e=.returned (.tuple #[.slice A1 0 c1,.bool false])/\Inputs w' A1 0 []/\(∀ g off,A1=some ⟨g,off,none⟩->w.heap.size<=g)/\0<=c1/\Below w.heap.size w w'):=by
 refine(Do A n cap ps w Y hn).mono ?_;rintro e w' ⟨v,rfl,O,B⟩;rw[hp] at O ⊢;obtain⟨A,c,rfl,I,M⟩:=Inputs.of_own O;exact⟨A,c,rfl,I,M,Bc O,B⟩
theorem Es(l p s:Int)(A:Option Addr)(n c:Nat)(H:Option Addr)(m d:Nat)(t:Int)(xs:List In)(hs:List Int)(ns:List Int)(L:Nat)(hr:rlist ⟨l,p,s,xs,hs,t⟩=ns)(hL:ns.length=L)(w:World)(Y:Inputs w A n xs)(Z:Ints w H m hs)(hn:n<=281474976710656)(hm:m<=281474976710656):Calls Try.prog 27 #[Dp l p s A n c H m d t] w (fun e w'=>∃ A1 c1,e=.returned (.slice A1 L c1)/\Ints w' A1 L ns/\(∀ g off,A1=some ⟨g,off,none⟩->w.heap.size<=g)/\L<=c1/\Below w.heap.size w w'):=by
 subst hr;subst hL;refine(Hs l p s A n c H m d t xs hs w Y Z hn hm).mono ?_;rintro e w' ⟨v,rfl,O,B⟩;obtain⟨A,c,rfl,I⟩:=Ints.of_own O;refine⟨A,c,rfl,I,fun g off e=>?_,Bc O,B⟩;subst e;exact(O.lt g rfl).1
end Go.Proofs.Ytflmmdljkhdjlaa
