import Derived.Lib.Strings
import Derived.Lib.Slices
import Derived.Test.YtgbiagonfbnooaaGreatDoorZRepMath
import Derived.Test.YtgbiagonfbnooaaGreatDoorZCelS
import Derived.Great.BuildSlice
import Derived.Laws.StructEq
set_option linter.all false
set_option maxRecDepth 100000
set_option maxHeartbeats 8000000
namespace Go.Proofs.YtgbiagonfbnooaaGreatDoor
open Go.RowKit
open M
abbrev tx(s:ByteArray):Tx:=s.data.toList
theorem BV(s:ByteArray):(tx s).length=s.size:=by simp[tx]
abbrev str(l:Tx):ByteArray:=⟨l.toArray⟩
theorem Cz(l:Tx):tx (str l)=l:=rfl
theorem Nn(s:ByteArray):str (tx s)=s:=by cases s; simp[str,tx]
theorem Hs(s:ByteArray)(a b:Nat):s.extract a b=str (((tx s).take b).drop a):=by
 obtain⟨l⟩:=s;rw[show(⟨l⟩:ByteArray)=⟨l.toList.toArray⟩ by simp,ByteArray.extract_mk];simp[str,tx,List.drop_take]
end Go.Proofs.YtgbiagonfbnooaaGreatDoor
namespace Go.Proofs.YtgbiagonfbnooaaGreatDoor
namespace M
def Fg:List Pt->Int->Bool
 | [],_=>false
 | q::_,c=>decide (q.c=c)
def CB:List Pt->Nat->Option (List Int)
 | [],_=>some []
 | p::ps,n=>if decide (0<=p.c/\p.c<=9)&&decide (1<=p.m)&&decide (p.m<=60-n)&&!(Fg ps p.c) then (CB ps (n+p.m.toNat)).map (List.replicate p.m.toNat p.c++·) else none
theorem GK:∀(ps:List Pt) (n:Nat) (b:Option Int),Lo ps n b=if b=none\/(∀ c,b=some c->Fg ps c=false) then CB ps n else none
 | [],n,b=>by simp[Lo,CB,Fg]
 | p::ps,n,b=>by
  rw[Lo,CB,GK ps _ (some p.c)];cases b with
  | none =>
   cases hn:Fg ps p.c<;>simp[hn]
  | some c =>
   by_cases hc:p.c=c
   . subst hc;simp[Fg]
   . have h1:Fg (p::ps) c=false:=by simp[Fg,hc]
     have h2:¬ c=p.c:=fun e=>hc e.symm;cases hn:Fg ps p.c<;>simp[hn,h1,h2]
theorem KY(ps:List Pt):Lo ps 0 none=CB ps 0:=by rw[GK]; simp
theorem Mf{p:Pt}{ps:List Pt}{n:Nat}(h:(decide (0<=p.c/\p.c<=9)&&decide (1<=p.m)&&decide (p.m<=60-n)&&!(Fg ps p.c))=false):CB (p::ps) n=none:=by
 rw[CB,h]; simp
theorem K0{p:Pt}{ps:List Pt}{n:Nat}(h:(decide (0<=p.c/\p.c<=9)&&decide (1<=p.m)&&decide (p.m<=60-n)&&!(Fg ps p.c))=true):CB (p::ps) n=(CB ps (n+p.m.toNat)).map (List.replicate p.m.toNat p.c++·):=by
 rw[CB,h]; simp
theorem Mg{c:Int}{cs:List Int}(h:Fg (Ba cs) c=false):Ba (c::cs)=⟨c,1⟩::Ba cs:=by
 rw[Ba];cases e:Ba cs with
 | nil=>rfl
 | cons p ps=>rw[e] at h; simp[Fg] at h; simp[h]
theorem Mh{c m:Int}{cs:List Int}{ps:List Pt}(h:Ba cs=⟨c,m⟩::ps):Ba (c::cs)=⟨c,m+1⟩::ps:=by
 rw[Ba,h]; simp
theorem Jf{α:Type}(z:α){xs:List α}{k:Nat}(h:k<xs.length):xs.drop k=xs.getD k z::xs.drop (k+1):=by
 rw[List.drop_eq_getElem_cons h,List.getD_eq_getElem?_getD,List.getElem?_eq_getElem h];rfl
end M
end Go.Proofs.YtgbiagonfbnooaaGreatDoor
namespace Go.Proofs.YtgbiagonfbnooaaGreatDoor
open Go.RowKit
open M
theorem Ht(w:World):(Instr.buildSlice 23 0 #[]).run Tryz.prog w=.ok (.slice (some ⟨w.heap.size,0,none⟩) 0 0) (w.alloc (.cells #[] 89)):=by
 obtain⟨i0,hi,hz0,hz1,hz2⟩:=info_parts Bs;simp[Instr.buildSlice,run_underlying Tryz.underlying23,sizeOf,typeInfo,hi,Instr.fill,newRow]
 first | rfl | kernel_rfl | simp[Array.range]
theorem Bc{w:World}{o:Oper}{a:Act}{K:Act->World->Prop}{Q:Exit->Act->World->Prop}(hop:o.op=.buildSlice 23 0 #[])
 (h:∀(g:Nat) (w':World),Below w.heap.size w w'->w.heap.size<=g->w'.ownsRow g 89 3 (.slice (some ⟨g,0,none⟩) 0 0) 0 (AZ [])->K (a.put o.dst (.slice (some ⟨g,0,none⟩) 0 0)) w'):o.wp Tryz.prog a w K Q:=by
 unfold Oper.wp execOp;simp only[hop,Sem.run_bind,List.map_toArray,List.map_nil,Ht,Result.andThen_ok];exact h _ _ (Ab (Ac w) _) (Nat.le_refl _) (Bl w _ _ rfl (Nat.le_refl _))
theorem BJ{w:World}{o:Oper}{a:Act}{K:Act->World->Prop}{Q:Exit->Act->World->Prop}(x:Operand)(hop:o.op=.buildSlice 23 1 #[(0,x)])(s p:Int)(z:Bool)(hx:a.eval x=BK s p z)
 (h:∀(g:Nat) (w':World),Below w.heap.size w w'->w.heap.size<=g->Inputs w' (some ⟨g,0,none⟩) 1 [⟨s,p,z⟩]->K (a.put o.dst (.slice (some ⟨g,0,none⟩) 1 1)) w'):o.wp Tryz.prog a w K Q:=by
 obtain⟨i0,hi,hz0,hz1,hz2⟩:=info_parts Bs;refine wp_buildSlice 23 89 1 _ hop #[.int .i64 s,.int .i64 p,.bool z] i0 (BK 0 0 false) Tryz.underlying23 hi hz0 (by rw[hz1]; decide) (by rw[hz1]; decide) ?_ (h _ _ (Ab (Ac w) _) (Nat.le_refl _) (Inputs.one w _ s p z _ rfl));rw[hz1];simp only[List.map_toArray,List.map_cons,List.map_nil,hx]
 first | kernel_rfl | (simp[Instr.fill,Array.range,Value.cells]; done) | go_simp
theorem AA{w:World}{o:Oper}{a:Act}{K:Act->World->Prop}{Q:Exit->Act->World->Prop}(s x:Operand)
 (ho:o.op=.call { callee:=.builtin .append,args:=#[s,x],argTypes:=#[23,23] }) (base:Nat) (v:Value) (n:Nat) (qs:List In) (hs:a.eval s=v) (hown:w.ownsRow base 89 3 v n (AZ qs))
 (A:Option Addr) (m c:Nat) (xs:List In) (hx:a.eval x=.slice A m c) (I:Inputs w A m xs) (hn:n+m<=10000000) (hb:base<=w.heap.size)
 (h:∀ v' w',w'.ownsRow base 89 3 v' (n+m) (AZ (qs++xs))->w.grownBy w' v.ownBlock->K (a.put o.dst v') w'):o.wp Tryz.prog a w K Q:=by
 obtain⟨v',w',hr,h2,h3,_⟩:=AX w base o.type v n qs hown A m c xs I hn hb;unfold Oper.wp execOp;simp only[ho,resolve,invoke,builtin,Sem.run_bind,Sem.run_pure,Result.andThen_ok,List.map_toArray,List.map_cons,List.map_nil,hs,hx,hr];exact h v' w' h2 h3
theorem Ds{W:World}{base lo:Nat}{e:TypeId}{sz:Nat}{v:Value}{n:Nat}{xs:List Value}(h:W.ownsRow base e sz v n xs)(hb:lo<=base):W.ownsRow lo e sz v n xs :=
 ⟨h.1,h.2.imp id (fun⟨g,cap,cur,e1,hg,r⟩=>⟨g,cap,cur,e1,Nat.le_trans hb hg,r⟩)⟩
end Go.Proofs.YtgbiagonfbnooaaGreatDoor
namespace Go.Proofs.YtgbiagonfbnooaaGreatDoor
namespace M
def Hu(ps:Int)(z:Bool):Int:=if z then ps+1 else ps
def Co(t b i ps s0:Int)(q:In):Bool:=decide (t<=i)||decide (3<Hu ps q.z)||!Er b s0 q.s q.p q.z
def F8(t b:Int):List In->Int->Int->Int->Int
 | [],_,_,_=>-1
 | q::xs,i,ps,s0=>if Co t b i ps s0 q then i else F8 t b xs (i+1) (Hu ps q.z) q.s
def GW(t b:Int)(xs:List In):Int:=F8 t b xs 0 0 0
def Jm(i t x y:Int)(ws gs:List Bx)(fp fq fs fz b:Int)(xs:List In):Int:=if Cd i t x y ws gs fp fq fs fz b then GW t b xs else 0
theorem Bz{t b i ps s0:Int}{q:In}{xs:List In}(h:Co t b i ps s0 q=true):F8 t b (q::xs) i ps s0=i:=by simp[F8,h]
theorem E3{t b i ps s0:Int}{q:In}{xs:List In}(h:Co t b i ps s0 q=false):F8 t b (q::xs) i ps s0=F8 t b xs (i+1) (Hu ps q.z) q.s:=by simp[F8,h]
theorem La{t b i ps s0:Int}{q:In}(h:Co t b i ps s0 q=false):i<t/\Hu ps q.z<=3/\Er b s0 q.s q.p q.z=true:=by
 simp only[Co,Bool.or_eq_false_iff,decide_eq_false_iff_not,Bool.not_eq_false'] at h;exact⟨by omega,by omega,h.2⟩
theorem NP{t b i ps s0:Int}{q:In}(h:t<=i):Co t b i ps s0 q=true:=by simp[Co,h]
theorem NY{t b i ps s0:Int}{q:In}(h:3<Hu ps q.z):Co t b i ps s0 q=true:=by simp[Co,h]
theorem NQ{t b i ps s0:Int}{q:In}(h:Er b s0 q.s q.p q.z=false):Co t b i ps s0 q=true:=by simp[Co,h]
theorem Lb{t b i ps s0:Int}{q:In}(h1:i<t)(h2:Hu ps q.z<=3)(h3:Er b s0 q.s q.p q.z=true):Co t b i ps s0 q=false:=by
 have a1:¬ t<=i:=by omega
 have a2:¬ 3<Hu ps q.z:=by omega
 simp[Co,a1,a2,h3]
theorem FY{b s0 s p:Int}{z:Bool}(h:Er b s0 s p z=true):Bm s p z=true:=by
 simp only[Er,Bool.and_eq_true] at h;exact h.1.1.1
theorem Lc(t b:Int):∀(xs:List In) (i ps s0:Int),F8 t b xs i ps s0=-1\/(i<=F8 t b xs i ps s0/\F8 t b xs i ps s0<i+xs.length)
 | [],i,ps,s0=>.inl rfl
 | q::xs,i,ps,s0=>by
  cases h:Co t b i ps s0 q
  . rw[E3 h];rcases Lc t b xs (i+1) (Hu ps q.z) q.s with g | g
    . exact .inl g
    . right;simp only[List.length_cons];omega
  . rw[Bz h];right;simp only[List.length_cons];omega
theorem Iy(t b:Int):∀(xs:List In) (k:Nat) (i ps s0:Int),0<=i->F8 t b xs i ps s0=-1->F8 t b (xs.take k) i ps s0=-1
 | [],k,i,ps,s0,_,_=>by simp[F8]
 | q::xs,0,i,ps,s0,_,_=>rfl
 | q::xs,k+1,i,ps,s0,hi,h=>by
  cases g:Co t b i ps s0 q
  . rw[E3 g] at h;rw[List.take_succ_cons,E3 g];exact Iy t b xs k _ _ _ (by omega) h
  . rw[Bz g] at h;omega
theorem drop_at{xs:List In}{k:Nat}(h:k<xs.length):xs.drop k=xs.getD k iz::xs.drop (k+1):=by
 rw[List.drop_eq_getElem_cons h];simp[List.getD_eq_getElem?_getD,h]
end M
end Go.Proofs.YtgbiagonfbnooaaGreatDoor
namespace Go.Proofs.YtgbiagonfbnooaaGreatDoor
open Go.RowKit
open M
def Strs(w:World)(A:Option Addr)(n:Nat)(xs:List ByteArray):Prop :=
 xs.length=n/\(0<n->∃ b off,A=some ⟨b,off,none⟩/\b<w.heap.size/\∀ k,k<n->w.cell? ⟨b,off+k,none⟩=some (.string (xs.getD k ByteArray.empty)))
theorem Strs.step{w w':World}{A:Option Addr}{n:Nat}{xs:List ByteArray}(h:Strs w A n xs)(B:Below w.heap.size w w'):Strs w' A n xs :=
 ⟨h.1,fun hn=>by
  obtain⟨b,off,e,hb,hc⟩:=h.2 hn;exact⟨b,off,e,Nat.lt_of_lt_of_le hb B.size,fun k hk=>(B.cell (p:=⟨b,off+k,none⟩) hb).trans (hc k hk)⟩⟩
theorem Strs.alloc{w:World}{A:Option Addr}{n:Nat}{xs:List ByteArray}(h:Strs w A n xs)(o:Obj):Strs (w.alloc o) A n xs:=h.step (Ab (Ac w) o)
theorem Strs.of_own{w:World}{base:Nat}{e:TypeId}{v:Value}{n:Nat}{xs:List ByteArray}(h:w.ownsRow base e 1 v n (xs.map Value.string)):∃ A cap,v=.slice A n cap/\Strs w A n xs:=by
 have hl:xs.length=n:=by simpa using h.1
 have h0:=h;rcases h0.2 with⟨rfl,rfl⟩ | ⟨g,cap,cur,rfl,_,hh,_⟩
 . exact⟨none,0,rfl,hl,fun hn=>by omega⟩
 . refine⟨_,_,rfl,hl,fun _=>⟨g,0,rfl,?_,fun k hk=>?_⟩⟩
   . exact(h.lt g rfl).2
   . rw[Nat.zero_add,h.cellAt k (by omega),List.getElem?_map,List.getD_eq_getElem?_getD,List.getElem?_eq_getElem (by omega)];rfl
theorem Strs.nil(w:World)(A:Option Addr):Strs w A 0 []:=⟨rfl,fun h=>absurd h (by omega)⟩
theorem Strs.drew{w:World}{A:Option Addr}{n:Nat}{xs:List ByteArray}(h:Strs w A n xs):Strs w.drew A n xs:=h
theorem Strs.one(w:World)(a:ByteArray)(t:TypeId):Strs (w.alloc (.cells #[.string a] t)) (some ⟨w.heap.size,0,none⟩) 1 [a] :=
 ⟨rfl,fun _=>⟨w.heap.size,0,rfl,by simp,fun k hk=>by
  match k,hk with
  | 0,_=>simp⟩⟩
theorem Strs.news{w:World}{b off m:Nat}{ys:List ByteArray}(I:Strs w (some ⟨b,off,Option.none⟩) m ys):∀ j u,(ys.map Value.string)[j]?=some u->w.cell? ((⟨b,off,Option.none⟩:Addr).add j)=some u:=by
 intro j u hj;rw[List.getElem?_map] at hj;have hl:j<ys.length:=by
  rcases Nat.lt_or_ge j ys.length with h | h
  . exact h
  . rw[List.getElem?_eq_none h] at hj; cases hj
 obtain⟨b',off',e,_,hc⟩:=I.2 (by have:=I.1; omega);cases e
 rw[List.getElem?_eq_getElem hl] at hj;cases hj
 rw[Addr.add_lit,hc j (by have:=I.1; omega),List.getD_eq_getElem?_getD,List.getElem?_eq_getElem hl];rfl
end Go.Proofs.YtgbiagonfbnooaaGreatDoor
namespace Go.Proofs.YtgbiagonfbnooaaGreatDoor
open Go.RowKit
def Enters(P:Program)(f:FuncId):Prop:=∃ fn,P.funcs[f]?=some fn/\(fn.name == "runtime.NumGoroutine")=false/\fn.body.isNone=false
theorem FZ{P:Program}{f:FuncId}(hf:Enters P f)(vs:Array Value)(w:World):(callFunc f vs).run P w=.ok (.enter f vs) w:=by
 obtain⟨fn,h1,h2,h3⟩:=hf;unfold callFunc;simp only[Sem.run_bind,show(program:Sem Program).run P w=.ok P w from rfl,Result.andThen_ok,h1,h2,h3];rfl
theorem GL{P:Program}{w:World}{o:Oper}{a:Act}{K:Act->World->Prop}{Q:Exit->Act->World->Prop}{f:FuncId}{vs:Array Value}(e:(execOp a.eval o).run P w=.ok (.enter f vs) w){R:Ending->World->Prop}(hc:Calls P f vs w R)
 (h:∀ e w',R e w'->∃ v,e=.returned v/\K (a.put o.dst v) w'):o.wp P a w K Q:=by
 unfold Oper.wp;rw[e,Oper.upon_enter];refine hc.mono fun e w' hR=>?_;obtain⟨v,rfl,hK⟩:=h e w' hR;exact hK
theorem Hv{P:Program}{w:World}{o:Oper}{a:Act}{K:Act->World->Prop}{Q:Exit->Act->World->Prop}{f:FuncId}(hf:Enters P f)(xs:Array Operand)(ts:Array TypeId)
 (ho:o.op=.call { callee:=.value (.func f),args:=xs,argTypes:=ts }) (vs:Array Value) (hv:xs.map a.eval=vs) {R:Ending->World->Prop} (hc:Calls P f vs w R)
 (h:∀ e w',R e w'->∃ v,e=.returned v/\K (a.put o.dst v) w'):o.wp P a w K Q:=by
 refine GL ?_ hc h;unfold execOp;have e0:(#[]++vs++#[]:Array Value)=vs:=by simp
 simp only[ho,resolve,invoke,Deferred.ofValue,hv,Sem.run_bind,Sem.run_pure,Result.andThen_ok,Act.eval,e0];exact FZ hf vs w
open Go.RowKit
open M
theorem GM(s p:Int)(z:Bool)(s' p':Int)(z':Bool)(w:World):(Op.equalIn 10000 89 (BK s p z) (BK s' p' z')).run Tryz.prog w=.ok ((s==s')&&((p==p')&&(z==z'))) w:=by
 have u3:=Tryz.underlying3;have a3:=Tryz.isAgg3;have z3:=Tryz.sizeOf3;have u4:=Tryz.underlying4;have a4:=Tryz.isAgg4;have z4:=Tryz.sizeOf4;have hS:Tryz.prog.underlying 89=some (.struct (Tryz.prog.fieldsOf 89)):=by kernel_rfl
 have hp:Tryz.prog.stoodInHeld 89=false:=by kernel_rfl
 rw[show(10000:Nat)=9999+1 from rfl,run_equalIn_agg w 9999 89 _ _ hS hp];simp only[Program.fieldsOf,Tryz.underlying89];go_simp;by_cases h1:s=s'<;>by_cases h2:p=p'<;>cases z<;>cases z'<;>simp[h1,h2]
theorem Jg{s p:Int}{z:Bool}{s' p':Int}{z':Bool}{r:Bool}(h:((s==s')&&((p==p')&&(z==z')))=r)(w:World):(binOp .neq 89 (BK s p z) (BK s' p' z')).run Tryz.prog w=.ok (.bool (!r)) w:=by
 rw[run_neq_struct,GM,h];rfl
theorem Jh(s p:Int)(z:Bool):((s==s)&&((p==p)&&(z==z)))=true:=by simp
theorem GO:Tryz.prog.eqGuardType Tryz.prog.depth 89=false:=by kernel_rfl
end Go.Proofs.YtgbiagonfbnooaaGreatDoor
