import Derived.Test.YtgghhedkephohaaZDrawEnt
import Derived.Test.YtgghhedkephohaaZEnC
set_option linter.all false
set_option maxRecDepth 100000
set_option maxHeartbeats 8000000
open Go.Lib
namespace Go.Proofs.Ytgghhedkephohaa
open Go.RowKit
open M
theorem Eb(s p s' p':Int)(w:World):(Op.equalIn 10000 25 (.agg #[.int .i64 s,.int .i64 p]) (.agg #[.int .i64 s',.int .i64 p'])).run Try.prog w=.ok ((s==s')&&(p==p')) w:=by
 have u3:=Try.underlying3;have a3:=Try.isAgg3;have z3:=Try.sizeOf3;have hS:Try.prog.underlying 25=some (.struct (Try.prog.fieldsOf 25)):=by kernel_rfl
 have hp:Try.prog.stoodInHeld 25=false:=by kernel_rfl
 rw[show(10000:Nat)=9999+1 from rfl,run_equalIn_agg w 9999 25 _ _ hS hp];simp only[Program.fieldsOf,Try.underlying25];go_simp;by_cases h1:s=s'<;>by_cases h2:p=p'<;>simp[h1,h2]
theorem CV(s p:Int)(w:World):(binOp .neq 25 (.agg #[.int .i64 s,.int .i64 p]) (.agg #[.int .i64 s,.int .i64 p])).run Try.prog w=.ok (.bool false) w:=by
 rw[run_neq_struct,Eb];simp
theorem Ec:Try.prog.eqGuardType Try.prog.depth 25=false:=by kernel_rfl
theorem Ab(A D:Option Addr)(n c d:Nat)(xs:List En)(w:World)(I:Ents w A n xs)(J:Ents w D n xs)(hn:n<=1048576) :
 Calls Try.prog 22 #[.slice A n c,.slice D n d] w fun e w'=>e=.returned (.bool true)/\Below w.heap.size w w':=by
 replace I:=hid I;replace J:=hid J;have hN:=CV;have hG:=Ec;go_enter Try.func22,Try.ntmps22;go_wp2
 go_loopw [5] (fun i W=>∃ k m:Nat,k<=n/\i=.int .i64 k/\w.drewN m=W) (fun i _=>n-(RowKit.intOf i).toNat)
 case atStart=>exact⟨0,0,Nat.zero_le _,rfl,rfl⟩
 case round =>
  obtain⟨k,m,hk,rfl,rfl⟩:=hrel;by_cases hlt:k<n
  . obtain⟨b,off,hA,_,hc⟩:=I.out.2 (by omega);obtain⟨b2,off2,hD,_,hc2⟩:=J.out.2 (by omega);obtain⟨W,hW⟩:∃ W,w.drewN m=W:=⟨_,rfl⟩;have k1:EnAt W b (off+k*2) (xs.getD k ez):=hW▸(hc k hlt).of rfl;have k2:EnAt W b2 (off2+k*2) (xs.getD k ez):=hW▸(hc2 k hlt).of rfl;clear hc hc2;subst hA hD;generalize xs.getD k ez=q at *;obtain⟨qc,qm⟩:=q;obtain⟨c0,c1⟩:=k1;obtain⟨d0,d1⟩:=k2;simp only at c0 c1 d0 d1;have hNN:=hN qc qm;rw[hW];replace hW:=hid hW;clear hN;go_wp2_with fail
    go_quiet (fail)
    go_wp2
    go_roundw
    case rel=>exact⟨k+1,m+_,by omega,by go_num,by rw[<- hW.out]; exact Ao w m _⟩
    case measure=>simp[RowKit.intOf]; omega
  . go_wp2;go_ret;exact⟨rfl,Ai (Ac w) m⟩
def FE(w:World)(n:Nat)(xs:List En)(pl:Int)(iv:Value)(W:World):Prop:=∃ k:Nat,k<=n/\iv=.int .i64 k/\(∀ j,j<k->(xs.getD j ez).p≠pl)/\Below w.heap.size w W
theorem M.esc_at{xs:List En}{pl:Int}{k:Nat}(h:k<xs.length)(hp:(xs.getD k ez).p=pl)(hb:∀ j,j<k->(xs.getD j ez).p≠pl):FW xs pl=(xs.getD k ez).s:=by
 have e:=CH h hp hb;rw[FW,e,if_pos h]
theorem M.esc_no{xs:List En}{pl:Int}(h:∀ j,j<xs.length->(xs.getD j ez).p≠pl):FW xs pl=-1:=by rw[FW,Cg h,if_neg (by omega)]
theorem Db(A:Option Addr)(n cap:Nat)(xs:List En)(pl:Int)(w:World)(Y:Ents w A n xs)(hn:n<=281474976710656) :
 Calls Try.prog 24 #[.slice A n cap,.int .i64 pl] w fun e w'=>e=.returned (.int .i64 (FW xs pl))/\Below w.heap.size w w':=by
 have hl:=hid Y.1;have Y:=hid Y;go_enter Try.func24,Try.ntmps24;go_wp2
 go_loopw [5] (FE w n xs pl) (fun i _=>n-(RowKit.intOf i).toNat)
 case atStart=>exact⟨0,Nat.zero_le _,rfl,fun j hj=>absurd hj (by omega),Ac w⟩
 case round =>
  obtain⟨k,hk,rfl,ha,B⟩:=hrel;by_cases hlt:k<n
  . obtain⟨b,off,rfl,hb,hc⟩:=(Y.out.step B).2 (by omega);obtain⟨c0,c1⟩:=hc k hlt;have hkl:k<xs.length:=by have:=hl.out; omega
    clear hc;have B:=hid B;by_cases hp:(xs.getD k ez).p=pl
    . have E:=hid (esc_at hkl hp ha);clear ha;rw[hp] at c0;have hpb:(pl==pl)=true:=by simp
      clear hp;generalize (xs.getD k ez).s=zs at *;go_wp2;go_ret;exact⟨Ar E.out.symm,B.out⟩
    . have ha:=hid (show ∀ j,j<k+1->(xs.getD j ez).p≠pl from fun j hj=>by
       rcases Nat.lt_or_ge j k with h1 | h1
       . exact ha j h1
       . have:j=k:=by omega
         subst this; exact hp)
      have hpb:((xs.getD k ez).p==pl)=false:=beq_eq_false_iff_ne.2 hp;clear hp;generalize (xs.getD k ez).s=zs at *;generalize (xs.getD k ez).p=zp at *;go_wp2
      go_roundw
      case rel=>exact⟨k+1,by omega,by go_num,ha.out,B.out⟩
      case measure=>simp[RowKit.intOf]; omega
  . obtain rfl:k=n:=by omega
    have E:=hid (esc_no (xs:=xs) (pl:=pl) (fun j hj=>ha j (by have:=hl.out; omega)));have B:=hid B;clear ha;go_wp2;go_ret;exact⟨Ar E.out.symm,B.out⟩
def Fs(w:World)(e:Ending)(w':World):Prop :=
 ∃(D:Option Addr) (N cc:Nat) (xs:List En),e=.returned (.slice D N cc)/\(N<=5/\N<=cc)/\Ents w' D N xs/\Below w.heap.size w w'
def E8(w:World)(e:Ending)(w':World):Prop :=
 ∃(D:Option Addr) (N cc:Nat) (xs:List En) (p s:Int),e=.returned (.tuple #[.slice D N cc,.agg #[.int .i64 p,.int .i64 s]])/\(N<=5/\N<=cc)/\((-1<=p/\p<=20)/\(-1<=s/\s<=61))/\Ents w' D N xs/\Below w.heap.size w w'
theorem FT(a:Option Addr)(len cap:Nat)(zs:List Int)(w:World)(h:IsRow .u8 w a len cap zs):Calls Try.prog 35 #[.slice a len cap] w (Fs w):=by
 go_enter Try.func35,Try.ntmps35;go_wp2_with fail;refine(Cu a len cap zs _ h).mono ?_;rintro e w1 ⟨rfl,R1,B⟩;have z1:=R1.base;have H:=hid B;clear B h;go_wp2_with fail;refine(Bc _ 0 _ R1 (by omega) (by omega)).mono ?_;rintro e w2 ⟨A,N,c,xs,rfl,hN,I,M,R2,K⟩;replace H:=hid (Bo H.out K (by omega));have I:=hid I;clear R1 R2 K M;go_wp2;go_ret;exact⟨A,N,c,xs,rfl,hN,I.out,H.out⟩
theorem Cy{P:Program}{fn:Func}{p q:Tmp}{ty:TypeId}{tmps:Array Value}{w:World}(h:fn.results=#[.tmp q,.cell p ty])(b:Nat)(hp:tmps[p]?.getD undef=.pointer (some ⟨b,0,none⟩))(vs:List Value)(L:CellsAt w b vs)(v:Value)(hq:tmps[q]?.getD undef=v){d:TypeDesc}
 (hu:P.underlying ty=some d) (hd:d.isRow=true) (hi:(P.info? ty).map (·.size)=some vs.length):(results fn tmps).run P w=.ok (.tuple #[v,.agg vs.toArray]) w:=by
 subst hq;have hl:=run_loadVar_mid w b 0 ty vs d L.range hu hd hi;clear hu hd hi L;simp[results,h,hp,asAddr,hl]
theorem Bu(a:Option Addr)(len cap:Nat)(zs:List Int)(w:World)(h:IsRow .u8 w a len cap zs):Calls Try.prog 19 #[.slice a len cap] w (E8 w):=by
 have D0:CellsAt (w.alloc (.cells #[.int .i64 0,.int .i64 0] 25)) w.heap.size (B8 0 0):=CellsAt.new w _ _ _ rfl;have h2:=h.below (Ad (Ac w) (.cells #[.int .i64 0,.int .i64 0] 25));have Ba:=hid (Ad (Ac w) (.cells #[.int .i64 0,.int .i64 0] 25));have hw0:=hid (show(w.alloc (.cells #[.int .i64 0,.int .i64 0] 25)).heap.size=w.heap.size+1 by simp);go_enter Try.func19,Try.ntmps19;go_wp2_with fail;generalize w.alloc (.cells #[.int .i64 0,.int .i64 0] 25)=wa at *;refine(Cu a len cap zs _ h2).mono ?_;rintro e w1 ⟨rfl,R1,B⟩;have z1:=R1.base;have D1:=D0.step B;have H:=hid (Aa Ba.out B);clear B h h2 D0 Ba;go_wp2_with fail
 refine(Bc _ 0 _ R1 (by have:=hw0.out; omega) (by have:=hw0.out; omega)).mono ?_;rintro e w2 ⟨A,N,c,xs,rfl,hN,I,M,R2,K⟩;rw[hw0.out] at z1;have D2:=D1.kept K (by have:=hw0.out; omega);replace H:=hid (Bo H.out K (by have:=hw0.out; omega));have hz2:=K.size;have I:=hid I;clear R1 K D1;go_wp2_with fail;refine(B5 _ _ _ R2 (by have:=hw0.out; omega)).mono ?_;rintro e w3 ⟨p,s,hb,rfl,R3,K3⟩;have D3:=D2.kept K3 (by have:=hw0.out; omega);have I3:=I.out.kept K3 (fun _ k off e=>by have:=M k off e; have:=hw0.out; omega);replace H:=hid (Bo H.out K3 (by have:=hw0.out; omega))
 have D6:CellsAt ((w3.setCell ⟨w.heap.size,0,none⟩ (.int .i64 p)).setCell ⟨w.heap.size,1,none⟩ (.int .i64 s)) w.heap.size (B8 p s):=(D3.set 0 (by simp[B8]) (.int .i64 p)).set 1 (by simp[B8]) (.int .i64 s);have I6:=hid (show Ents ((w3.setCell ⟨w.heap.size,0,none⟩ (.int .i64 p)).setCell ⟨w.heap.size,1,none⟩ (.int .i64 s)) A N xs from I3.kept (Cm (Cm (Kept.refl w.heap.size w3) _ _) _ _) (fun _ k off e=>by have:=M k off e; have:=hw0.out; omega));have H6:=hid (show Below w.heap.size w ((w3.setCell ⟨w.heap.size,0,none⟩ (.int .i64 p)).setCell ⟨w.heap.size,1,none⟩ (.int .i64 s)) from EV (EV H.out _ _ _ (Nat.le_refl _)) _ _ _ (Nat.le_refl _))
 have x0:=D3.cell 0 _ rfl;have x1:=D3.cell 1 _ rfl;have f0:=D3.fr 0;have f1:=D3.fr 1;clear R2 R3 K3 M D2 D3 I3 H I;go_wp2;exact bodyPost_end (v:=.tuple #[.slice A N c,.agg #[.int .i64 p,.int .i64 s]]) (Cy rfl w.heap.size rfl (B8 p s) D6 _ rfl Try.underlying25 rfl Az) rfl ⟨A,N,c,xs,p,s,rfl,hN,hb,I6.out,H6.out⟩
end Go.Proofs.Ytgghhedkephohaa
