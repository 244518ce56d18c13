import Derived.Test.YtflmmdljkhdjlaaZInRow
import Derived.Great.BuildSlice
import Derived.Laws.StructEq
set_option linter.all false
set_option maxRecDepth 100000
set_option maxHeartbeats 8000000
namespace Go.Proofs.Ytflmmdljkhdjlaa
open Go.RowKit
open M
theorem Gw(w:World):(Instr.buildSlice 23 0 #[]).run Try.prog w=.ok (.slice (some ⟨w.heap.size,0,none⟩) 0 0) (w.alloc (.cells #[] 36)):=by
 obtain⟨i0,hi,hz0,hz1,hz2⟩:=info_parts Bs;simp[Instr.buildSlice,run_underlying Try.underlying23,sizeOf,typeInfo,hi,Instr.fill,newRow]
 first | rfl | kernel_rfl | simp[Array.range]
theorem Bh{w:World}{o:Oper}{a:Act}{K:Act->World->Prop}{Q:Exit->Act->World->Prop}(hop:o.op=.buildSlice 23 0 #[])
 (h:∀(g:Nat) (w':World),Below w.heap.size w w'->w.heap.size<=g->w'.ownsRow g 36 3 (.slice (some ⟨g,0,none⟩) 0 0) 0 (Ba [])->K (a.put o.dst (.slice (some ⟨g,0,none⟩) 0 0)) w'):o.wp Try.prog a w K Q:=by
 unfold Oper.wp execOp;simp only[hop,Sem.run_bind,List.map_toArray,List.map_nil,Gw,Result.andThen_ok];exact h _ _ (Ab (Ac w) _) (Nat.le_refl _) (AJ w _ _ rfl (Nat.le_refl _))
theorem BG{w:World}{o:Oper}{a:Act}{K:Act->World->Prop}{Q:Exit->Act->World->Prop}(x:Operand)(hop:o.op=.buildSlice 23 1 #[(0,x)])(s p:Int)(z:Bool)(hx:a.eval x=BH s p z)
 (h:∀(g:Nat) (w':World),Below w.heap.size w w'->w.heap.size<=g->Inputs w' (some ⟨g,0,none⟩) 1 [⟨s,p,z⟩]->K (a.put o.dst (.slice (some ⟨g,0,none⟩) 1 1)) w'):o.wp Try.prog a w K Q:=by
 obtain⟨i0,hi,hz0,hz1,hz2⟩:=info_parts Bs;refine wp_buildSlice 23 36 1 _ hop #[.int .i64 s,.int .i64 p,.bool z] i0 (BH 0 0 false) Try.underlying23 hi hz0 (by rw[hz1]; decide) (by rw[hz1]; decide) ?_ (h _ _ (Ab (Ac w) _) (Nat.le_refl _) (Inputs.one w _ s p z _ rfl));rw[hz1];simp only[List.map_toArray,List.map_cons,List.map_nil,hx]
 first | kernel_rfl | (simp[Instr.fill,Array.range,Value.cells]; done) | go_simp
theorem AB{w:World}{o:Oper}{a:Act}{K:Act->World->Prop}{Q:Exit->Act->World->Prop}(s x:Operand)
 (ho:o.op=.call { callee:=.builtin .append,args:=#[s,x],argTypes:=#[23,23] }) (base:Nat) (v:Value) (n:Nat) (qs:List In) (hs:a.eval s=v) (hown:w.ownsRow base 36 3 v n (Ba qs))
 (A:Option Addr) (m c:Nat) (xs:List In) (hx:a.eval x=.slice A m c) (I:Inputs w A m xs) (hn:n+m<=10000000) (hb:base<=w.heap.size)
 (h:∀ v' w',w'.ownsRow base 36 3 v' (n+m) (Ba (qs++xs))->w.grownBy w' v.ownBlock->K (a.put o.dst v') w'):o.wp Try.prog a w K Q:=by
 obtain⟨v',w',hr,h2,h3,_⟩:=Bf w base o.type v n qs hown A m c xs I hn hb;unfold Oper.wp execOp;simp only[ho,resolve,invoke,builtin,Sem.run_bind,Sem.run_pure,Result.andThen_ok,List.map_toArray,List.map_cons,List.map_nil,hs,hx,hr];exact h v' w' h2 h3
theorem Bz{W:World}{base lo:Nat}{e:TypeId}{sz:Nat}{v:Value}{n:Nat}{xs:List Value}(h:W.ownsRow base e sz v n xs)(hb:lo<=base):W.ownsRow lo e sz v n xs :=
 ⟨h.1,h.2.imp id (fun⟨g,cap,cur,e1,hg,r⟩=>⟨g,cap,cur,e1,Nat.le_trans hb hg,r⟩)⟩
end Go.Proofs.Ytflmmdljkhdjlaa
namespace Go.Proofs.Ytflmmdljkhdjlaa
namespace M
def Gx(ps:Int)(z:Bool):Int:=if z then ps+1 else ps
def Cf(t b i ps s0:Int)(q:In):Bool:=decide (t<=i)||decide (3<Gx ps q.z)||!D5 b s0 q.s q.p q.z
def FE(t b:Int):List In->Int->Int->Int->Int
 | [],_,_,_=>-1
 | q::xs,i,ps,s0=>if Cf t b i ps s0 q then i else FE t b xs (i+1) (Gx ps q.z) q.s
def Gd(t b:Int)(xs:List In):Int:=FE t b xs 0 0 0
def HF(i t x y:Int)(ws gs:List Bx)(fp fq fs fz b:Int)(xs:List In):Int:=if BX i t x y ws gs fp fq fs fz b then Gd t b xs else 0
theorem BA{t b i ps s0:Int}{q:In}{xs:List In}(h:Cf t b i ps s0 q=true):FE t b (q::xs) i ps s0=i:=by simp[FE,h]
theorem El{t b i ps s0:Int}{q:In}{xs:List In}(h:Cf t b i ps s0 q=false):FE t b (q::xs) i ps s0=FE t b xs (i+1) (Gx ps q.z) q.s:=by simp[FE,h]
theorem IY{t b i ps s0:Int}{q:In}(h:Cf t b i ps s0 q=false):i<t/\Gx ps q.z<=3/\D5 b s0 q.s q.p q.z=true:=by
 simp only[Cf,Bool.or_eq_false_iff,decide_eq_false_iff_not,Bool.not_eq_false'] at h;exact⟨by omega,by omega,h.2⟩
theorem KW{t b i ps s0:Int}{q:In}(h:t<=i):Cf t b i ps s0 q=true:=by simp[Cf,h]
theorem Ln{t b i ps s0:Int}{q:In}(h:3<Gx ps q.z):Cf t b i ps s0 q=true:=by simp[Cf,h]
theorem KX{t b i ps s0:Int}{q:In}(h:D5 b s0 q.s q.p q.z=false):Cf t b i ps s0 q=true:=by simp[Cf,h]
theorem IZ{t b i ps s0:Int}{q:In}(h1:i<t)(h2:Gx ps q.z<=3)(h3:D5 b s0 q.s q.p q.z=true):Cf t b i ps s0 q=false:=by
 have a1:¬ t<=i:=by omega
 have a2:¬ 3<Gx ps q.z:=by omega
 simp[Cf,a1,a2,h3]
theorem Fv{b s0 s p:Int}{z:Bool}(h:D5 b s0 s p z=true):Bp s p z=true:=by
 simp only[D5,Bool.and_eq_true] at h;exact h.1.1.1
theorem I0(t b:Int):∀(xs:List In) (i ps s0:Int),FE t b xs i ps s0=-1\/(i<=FE t b xs i ps s0/\FE t b xs i ps s0<i+xs.length)
 | [],i,ps,s0=>.inl rfl
 | q::xs,i,ps,s0=>by
  cases h:Cf t b i ps s0 q
  . rw[El h];rcases I0 t b xs (i+1) (Gx ps q.z) q.s with g | g
    . exact .inl g
    . right;simp only[List.length_cons];omega
  . rw[BA h];right;simp only[List.length_cons];omega
theorem GZ(t b:Int):∀(xs:List In) (k:Nat) (i ps s0:Int),0<=i->FE t b xs i ps s0=-1->FE t b (xs.take k) i ps s0=-1
 | [],k,i,ps,s0,_,_=>by simp[FE]
 | q::xs,0,i,ps,s0,_,_=>rfl
 | q::xs,k+1,i,ps,s0,hi,h=>by
  cases g:Cf t b i ps s0 q
  . rw[El g] at h;rw[List.take_succ_cons,El g];exact GZ t b xs k _ _ _ (by omega) h
  . rw[BA g] at h;omega
theorem drop_at{xs:List In}{k:Nat}(h:k<xs.length):xs.drop k=xs.getD k iz::xs.drop (k+1):=by
 rw[List.drop_eq_getElem_cons h];simp[List.getD_eq_getElem?_getD,h]
end M
end Go.Proofs.Ytflmmdljkhdjlaa
namespace Go.Proofs.Ytflmmdljkhdjlaa
open Go.RowKit
open M
theorem F1(s p:Int)(z:Bool)(s' p':Int)(z':Bool)(w:World):(Op.equalIn 10000 36 (BH s p z) (BH s' p' z')).run Try.prog w=.ok ((s==s')&&((p==p')&&(z==z'))) w:=by
 have u3:=Try.underlying3;have a3:=Try.isAgg3;have z3:=Try.sizeOf3;have u4:=Try.underlying4;have a4:=Try.isAgg4;have z4:=Try.sizeOf4;have hS:Try.prog.underlying 36=some (.struct (Try.prog.fieldsOf 36)):=by kernel_rfl
 have hp:Try.prog.stoodInHeld 36=false:=by kernel_rfl
 rw[show(10000:Nat)=9999+1 from rfl,run_equalIn_agg w 9999 36 _ _ hS hp];simp only[Program.fieldsOf,Try.underlying36];go_simp;by_cases h1:s=s'<;>by_cases h2:p=p'<;>cases z<;>cases z'<;>simp[h1,h2]
theorem Hv{s p:Int}{z:Bool}{s' p':Int}{z':Bool}{r:Bool}(h:((s==s')&&((p==p')&&(z==z')))=r)(w:World):(binOp .neq 36 (BH s p z) (BH s' p' z')).run Try.prog w=.ok (.bool (!r)) w:=by
 rw[run_neq_struct,F1,h];rfl
theorem Hw(s p:Int)(z:Bool):((s==s)&&((p==p)&&(z==z)))=true:=by simp
theorem F2:Try.prog.eqGuardType Try.prog.depth 36=false:=by kernel_rfl
open Go.RowKit
open M
end Go.Proofs.Ytflmmdljkhdjlaa
