import Derived.Conc.Events
import Derived.Laws.World
import GoSem.Step
import Derived.Control
import Derived.Conc.Listed
import Derived.Conc.Token
import Derived.Below
import Derived.Conc.LoneCalls
set_option linter.all false
set_option maxRecDepth 100000
set_option maxHeartbeats 8000000
namespace Go.Proofs.YtaemcekcancpdaaGreatDoor.Ren
abbrev Rho:=Nat->Nat->Prop
structure Rho.Ok(G:Nat)(r:Rho):Prop where
 fn:∀{i j j'},r i j->r i j'->j=j'
 inj:∀{i i' j},r i j->r i' j->i=i'
 glob:∀{i j},r i j->(i<G\/j<G)->j=i
def Rho.le(r s:Rho):Prop:=∀ i j,r i j->s i j
theorem Rho.le_refl(r:Rho):r.le r:=fun _ _ h=>h
theorem Rho.le_trans{r s t:Rho}(h:r.le s)(k:s.le t):r.le t:=fun _ _ x=>k _ _ (h _ _ x)
structure AR(r:Rho)(a b:Addr):Prop where
 block:r a.block b.block
 off:a.off=b.off
 spot:a.spot=b.spot
structure Good where
 f:FuncId->Prop
 t:TypeId->Prop
 h:FuncId->Prop
instance:CoeFun Good fun _=>FuncId->Prop:=⟨Good.f⟩
inductive FnR(L:Good)(r:Rho):Fn->Fn->Prop
 | func (f:FuncId) (h:L f):FnR L r (.func f) (.func f)
 | yield {l l':Nat} (h:r l l'):FnR L r (.yield l) (.yield l')
structure Jk(v:Value):Prop where
 one:v.cells=#[v]
 n1:v≠.pointer none
 n2:v≠.nilIface
 n3:v≠.nilFunc
 n4:∀ f a c,v≠.func f a c
 n5:∀ b,v≠.bool b
inductive VR(L:Good)(r:Rho):Value->Value->Prop
 | bool (b:Bool):VR L r (.bool b) (.bool b)
 | int (k:IntKind) (n:Int):VR L r (.int k n) (.int k n)
 | string (s:ByteArray):VR L r (.string s) (.string s)
 | pnil:VR L r (.pointer none) (.pointer none)
 | ptr {a b:Addr} (h:AR r a b):VR L r (.pointer (some a)) (.pointer (some b))
 | snil (n c:Nat):VR L r (.slice none n c) (.slice none n c)
 | slice {a b:Addr} (n c:Nat) (h:AR r a b):VR L r (.slice (some a) n c) (.slice (some b) n c)
 | mnil:VR L r (.map none) (.map none)
 | map {i j:Nat} (h:r i j):VR L r (.map (some i)) (.map (some j))
 | chan (o:Option Nat):VR L r (.chan o) (.chan o)
 | func {f g:Fn} {a b c d:Array Value} (h:FnR L r f g) (ha:a.size=b.size) (ka:∀(i:Nat) (x y:Value),a[i]?=some x->b[i]?=some y->VR L r x y)
  (hc:c.size=d.size) (kc:∀(i:Nat) (x y:Value),c[i]?=some x->d[i]?=some y->VR L r x y):VR L r (.func f a c) (.func g b d)
 | nilFunc:VR L r .nilFunc .nilFunc
 | nofunc (f:Fn) (a c:Array Value):VR L r .nilFunc (.func f a c)
 | iface (t:TypeId) (ht:L.t t) {v w:Value} (h:VR L r v w):VR L r (.iface t v) (.iface t w)
 | nilIface:VR L r .nilIface .nilIface
 | agg {a b:Array Value} (ha:a.size=b.size) (ka:∀(i:Nat) (x y:Value),a[i]?=some x->b[i]?=some y->VR L r x y):VR L r (.agg a) (.agg b)
 | tuple {a b:Array Value} (ha:a.size=b.size) (ka:∀(i:Nat) (x y:Value),a[i]?=some x->b[i]?=some y->VR L r x y):VR L r (.tuple a) (.tuple b)
 | junk {v:Value} (h:Jk v):VR L r undef v
def ArrR(L:Good)(r:Rho)(a b:Array Value):Prop:=a.size=b.size/\∀(i:Nat) (x y:Value),a[i]?=some x->b[i]?=some y->VR L r x y
section
variable {L:Good} {r s:Rho}
theorem AR.mono{a b:Addr}(h:AR r a b)(k:r.le s):AR s a b:=⟨k _ _ h.block,h.off,h.spot⟩
theorem FnR.mono{f g:Fn}(h:FnR L r f g)(k:r.le s):FnR L s f g:=by
 cases h with
 | func f h=>exact .func f h
 | yield h=>exact .yield (k _ _ h)
theorem VR.mono{v w:Value}(h:VR L r v w)(k:r.le s):VR L s v w:=by
 induction h with
 | bool b=>exact .bool b
 | int k n=>exact .int k n
 | string s=>exact .string s
 | pnil=>exact .pnil
 | ptr h=>exact .ptr (h.mono k)
 | snil n c=>exact .snil n c
 | slice n c h=>exact .slice n c (h.mono k)
 | mnil=>exact .mnil
 | map h=>exact .map (k _ _ h)
 | chan o=>exact .chan o
 | func h ha _ hc _ i1 i2=>exact .func (h.mono k) ha i1 hc i2
 | nilFunc=>exact .nilFunc
 | nofunc f a c=>exact .nofunc f a c
 | iface t ht _ ih=>exact .iface t ht ih
 | nilIface=>exact .nilIface
 | agg ha _ ih=>exact .agg ha ih
 | tuple ha _ ih=>exact .tuple ha ih
 | junk h=>exact .junk h
theorem ArrR.mono{a b:Array Value}(h:ArrR L r a b)(k:r.le s):ArrR L s a b:=⟨h.1,fun i x y hx hy=>(h.2 i x y hx hy).mono k⟩
theorem ArrR.agg{a b:Array Value}(h:ArrR L r a b):VR L r (.agg a) (.agg b):=.agg h.1 h.2
theorem ArrR.tuple{a b:Array Value}(h:ArrR L r a b):VR L r (.tuple a) (.tuple b):=.tuple h.1 h.2
theorem ArrR.nil:ArrR L r #[] #[]:=⟨rfl,fun i x y h=>by simp at h⟩
theorem ArrR.push{a b:Array Value}{x y:Value}(h:ArrR L r a b)(k:VR L r x y):ArrR L r (a.push x) (b.push y):=by
 refine⟨by simp[h.1],fun i u v hu hv=>?_⟩;rw[Array.getElem?_push] at hu hv;have e:=h.1;by_cases hi:i=a.size
 . rw[if_pos hi] at hu; rw[if_pos (hi.trans e)] at hv;cases hu; cases hv; exact k
 . rw[if_neg hi] at hu; rw[if_neg (fun x=>hi (x.trans e.symm))] at hv;exact h.2 i u v hu hv
theorem ArrR.one{x y:Value}(k:VR L r x y):ArrR L r #[x] #[y]:=ArrR.nil.push k
theorem ArrR.append{a b c d:Array Value}(h:ArrR L r a b)(k:ArrR L r c d):ArrR L r (a++c) (b++d):=by
 refine⟨by simp[h.1,k.1],fun i u v hu hv=>?_⟩;rw[Array.getElem?_append] at hu hv;have e:=h.1;by_cases hi:i<a.size
 . rw[if_pos hi] at hu; rw[if_pos (by omega)] at hv;exact h.2 i u v hu hv
 . rw[if_neg hi] at hu; rw[if_neg (by omega)] at hv;rw[<- e] at hv;exact k.2 _ u v hu hv
theorem ArrR.extract{a b:Array Value}(h:ArrR L r a b)(m n:Nat):ArrR L r (a.extract m n) (b.extract m n):=by
 refine⟨by simp[h.1],fun i u v hu hv=>?_⟩;rw[Array.getElem?_extract] at hu hv;have e:=h.1;split at hu
 . split at hv
   . exact h.2 _ u v hu hv
   . cases hv
 . cases hu
theorem ArrR.replicate(n:Nat){x y:Value}(k:VR L r x y):ArrR L r (Array.replicate n x) (Array.replicate n y):=by
 refine⟨by simp,fun i u v hu hv=>?_⟩;rw[Array.getElem?_replicate] at hu hv;split at hu
 . cases hu; rw[if_pos (by assumption)] at hv; cases hv; exact k
 . cases hu
theorem ArrR.getD{a b:Array Value}(h:ArrR L r a b)(i:Nat){x y:Value}(k:VR L r x y):VR L r (a.getD i x) (b.getD i y):=by
 have e:=h.1;by_cases hi:i<a.size
 . have hb:i<b.size:=by omega
   simp only[Array.getD,hi,hb,dif_pos];exact h.2 i _ _ (by simp[hi]) (by simp[hb])
 . have hb:¬ i<b.size:=by omega
   simpa only[Array.getD,hi,hb,dif_neg,not_false_eq_true] using k
theorem ArrR.set{a b:Array Value}(h:ArrR L r a b)(i:Nat){x y:Value}(k:VR L r x y):ArrR L r (a.setIfInBounds i x) (b.setIfInBounds i y):=by
 refine⟨by simp[h.1],fun j u v hu hv=>?_⟩;rw[Array.getElem?_setIfInBounds] at hu hv;have e:=h.1;by_cases hj:i=j
 . subst hj;rw[if_pos rfl] at hu hv;split at hu
   . cases hu; rw[if_pos (by omega)] at hv; cases hv; exact k
   . cases hu
 . rw[if_neg hj] at hu hv;exact h.2 j u v hu hv
theorem ArrR.get?{a b:Array Value}(h:ArrR L r a b){i:Nat}{x:Value}(k:a[i]?=some x):∃ y,b[i]?=some y/\VR L r x y:=by
 have hi:=(Array.getElem?_eq_some_iff.1 k).1;have hb:i<b.size:=h.1▸hi;exact⟨b[i],by simp[hb],h.2 i _ _ k (by simp[hb])⟩
theorem ArrR.none{a b:Array Value}(h:ArrR L r a b){i:Nat}(k:a[i]?=none):b[i]?=none:=by
 rw[Array.getElem?_eq_none_iff] at k ⊢;rw[<- h.1]; exact k
theorem ArrR.map{α:Type}(f g:α->Value)(h:∀ x,VR L r (f x) (g x))(xs:Array α):ArrR L r (xs.map f) (xs.map g):=by
 refine⟨by simp,fun i u v hu hv=>?_⟩;rw[Array.getElem?_map] at hu hv;cases hx:xs[i]? with
 | none=>rw[hx] at hu; cases hu
 | some x=>rw[hx] at hu hv; cases hu; cases hv; exact h x
inductive LsR(L:Good)(r:Rho):List Value->List Value->Prop
 | nil:LsR L r [] []
 | cons {x y:Value} {a b:List Value} (h:VR L r x y) (k:LsR L r a b):LsR L r (x::a) (y::b)
theorem LsR.of:∀{a b:List Value},a.length=b.length->(∀(i:Nat) (x y:Value),a[i]?=some x->b[i]?=some y->VR L r x y)->LsR L r a b
 | [],[],_,_=>.nil
 | [],_::_,h,_=>by simp at h
 | _::_,[],h,_=>by simp at h
 | x::a,y::b,h,k=>.cons (k 0 x y rfl rfl) (LsR.of (by simpa using h) fun i u v hu hv=>k (i+1) u v (by simpa using hu) (by simpa using hv))
theorem ArrR.toList{a b:Array Value}(h:ArrR L r a b):LsR L r a.toList b.toList:=LsR.of (by simpa using h.1) fun i x y hx hy=>h.2 i x y (by simpa using hx) (by simpa using hy)
theorem LsR.toArr{a b:List Value}(h:LsR L r a b):ArrR L r a.toArray b.toArray:=by
 induction h with
 | nil=>exact .nil
 | @cons x y a b h k ih =>
  have e1:(x::a).toArray=#[x]++a.toArray:=by simp
  have e2:(y::b).toArray=#[y]++b.toArray:=by simp
  rw[e1,e2];exact(ArrR.one h).append ih
theorem VR.cells{v w:Value}(h:VR L r v w):ArrR L r v.cells w.cells:=by
 cases h with
 | agg ha ka=>exact⟨ha,ka⟩
 | tuple ha ka=>exact .one (.tuple ha ka)
 | @junk v hv=>rw[hv.one]; exact .one (.junk hv)
 | bool b=>exact .one (.bool b)
 | int k n=>exact .one (.int k n)
 | string s=>exact .one (.string s)
 | pnil=>exact .one .pnil
 | ptr h=>exact .one (.ptr h)
 | snil n c=>exact .one (.snil n c)
 | slice n c h=>exact .one (.slice n c h)
 | mnil=>exact .one .mnil
 | map h=>exact .one (.map h)
 | chan o=>exact .one (.chan o)
 | func h ha ka hc kc=>exact .one (.func h ha ka hc kc)
 | nilFunc=>exact .one .nilFunc
 | nofunc f a c=>exact .one (.nofunc f a c)
 | iface t ht h=>exact .one (.iface t ht h)
 | nilIface=>exact .one .nilIface
end
def PreR(L:Good)(r:Rho)(a b:Array Value):Prop:=a.size<=b.size/\∀(i:Nat) (x y:Value),a[i]?=some x->b[i]?=some y->VR L r x y
section
variable {L:Good} {r s:Rho}
theorem ArrR.pre{a b:Array Value}(h:ArrR L r a b):PreR L r a b:=⟨Nat.le_of_eq h.1,h.2⟩
theorem PreR.mono{a b:Array Value}(h:PreR L r a b)(k:r.le s):PreR L s a b:=⟨h.1,fun i x y hx hy=>(h.2 i x y hx hy).mono k⟩
theorem PreR.get?{a b:Array Value}(h:PreR L r a b){i:Nat}{x:Value}(k:a[i]?=some x):∃ y,b[i]?=some y/\VR L r x y:=by
 have hi:=(Array.getElem?_eq_some_iff.1 k).1;have hb:i<b.size:=Nat.lt_of_lt_of_le hi h.1;exact⟨b[i],by simp[hb],h.2 i _ _ k (by simp[hb])⟩
theorem PreR.set{a b:Array Value}(h:PreR L r a b)(i:Nat){x y:Value}(k:VR L r x y):PreR L r (a.setIfInBounds i x) (b.setIfInBounds i y):=by
 refine⟨by simpa using h.1,fun j u v hu hv=>?_⟩;rw[Array.getElem?_setIfInBounds] at hu hv;have e:=h.1;by_cases hj:i=j
 . subst hj;rw[if_pos rfl] at hu hv;split at hu
   . cases hu; rw[if_pos (by omega)] at hv; cases hv; exact k
   . cases hu
 . rw[if_neg hj] at hu hv;exact h.2 j u v hu hv
end
inductive Plain:Value->Prop
 | bool (b:Bool):Plain (.bool b)
 | int (k:IntKind) (n:Int):Plain (.int k n)
 | string (s:ByteArray):Plain (.string s)
 | pnil:Plain (.pointer none)
 | snil (n c:Nat):Plain (.slice none n c)
 | mnil:Plain (.map none)
 | chan (o:Option Nat):Plain (.chan o)
 | nilIface:Plain .nilIface
 | agg {a:Array Value} (h:∀ x∈a,Plain x):Plain (.agg a)
 | tuple {a:Array Value} (hne:a.size≠0) (h:∀ x∈a,Plain x):Plain (.tuple a)
theorem Plain.rel{L:Good}{r:Rho}{v:Value}(h:Plain v):VR L r v v:=by
 have key:∀(a:Array Value),(∀ x∈a,VR L r x x)->∀(i:Nat) (x y:Value),a[i]?=some x->a[i]?=some y->VR L r x y:=by
  intro a ha i x y hx hy;obtain rfl:=Option.some.inj (hx.symm.trans hy);exact ha x (Array.mem_of_getElem? hx)
 induction h with
 | bool b=>exact .bool b
 | int k n=>exact .int k n
 | string s=>exact .string s
 | pnil=>exact .pnil
 | snil n c=>exact .snil n c
 | mnil=>exact .mnil
 | chan o=>exact .chan o
 | nilIface=>exact .nilIface
 | agg _ ih=>exact .agg rfl (key _ ih)
 | tuple _ _ ih=>exact .tuple rfl (key _ ih)
theorem Plain.eq{L:Good}{r:Rho}{v w:Value}(h:Plain v)(k:VR L r v w):w=v:=by
 have key:∀(a b:Array Value),a.size=b.size->(∀ x∈a,∀ y,VR L r x y->y=x)->(∀(i:Nat) (x y:Value),a[i]?=some x->b[i]?=some y->VR L r x y)->b=a:=by
  intro a b e ih kk;apply Array.ext e.symm;intro i h1 h2;exact ih _ (Array.getElem_mem h2) _ (kk i a[i] b[i] (by simp[h2]) (by simp[h1]))
 induction h generalizing w with
 | agg _ ih =>
  cases k with
  | agg e kk=>rw[key _ _ e (fun x hx y hy=>ih x hx hy) kk]
 | tuple hne _ ih =>
  cases k with
  | tuple e kk=>rw[key _ _ e (fun x hx y hy=>ih x hx hy) kk]
  | junk _=>exact absurd rfl hne
 | _=>cases k; rfl
structure LoopR(L:Good)(r:Rho)(C:Code->Prop)(l l':Loop):Prop where
 state:l'.state=l.state
 pending:l'.pending=l.pending
 fn:l'.fn=l.fn
 tmps:ArrR L r l.tmps l'.tmps
 params:l'.params=l.params
 assign:l'.assign=l.assign
 body:l'.body=l.body
 defers:r l.defers l'.defers
 cp:∀ c,l.pending=some c->C c
 ca:C l.assign
 cb:C l.body
 lf:L.h l.fn
structure EntR(L:Good)(r:Rho)(e e':MapEntry):Prop where
 key:VR L r e.key e'.key
 val:VR L r e.val e'.val
 born:e'.born=e.born
inductive OR(L:Good)(C:Code->Prop)(r:Rho):Obj->Obj->Prop
 | cells {a b:Array Value} (t:TypeId) {f g:Nat × Nat} (h:PreR L r a b) (hf:∀ k,k<a.size->g.1<=k->k<g.2->f.1<=k/\k<f.2):OR L C r (.cells a t f) (.cells b t g)
 | loop {l l':Loop} (h:LoopR L r C l l'):OR L C r (.loop l) (.loop l')
 | deferred:OR L C r (.deferred (some [])) (.deferred (some []))
 | taken:OR L C r (.deferred none) (.deferred none)
 | number {a b:Addr} (lost:Bool) (h:AR r a b):OR L C r (.number a lost) (.number b lost)
 | map {a b:Array MapEntry} (k:Nat) (h:a.size=b.size) (hk:∀(i:Nat) (x y:MapEntry),a[i]?=some x->b[i]?=some y->EntR L r x y):OR L C r (.map a k) (.map b k)
structure Ctx where
 P:Program
 L:Good
 C:Code->Prop
abbrev Ctx.G(X:Ctx):Nat:=X.P.globals.size
abbrev Ctx.Ok(X:Ctx)(r:Rho):Prop:=r.Ok X.G
section
variable {X:Ctx} {r s:Rho}
theorem LoopR.mono{l l':Loop}(h:LoopR X.L r X.C l l')(k:r.le s):LoopR X.L s X.C l l':=⟨h.state,h.pending,h.fn,h.tmps.mono k,h.params,h.assign,h.body,k _ _ h.defers,h.cp,h.ca,h.cb,h.lf⟩
theorem OR.mono{o o':Obj}(h:OR X.L X.C r o o')(k:r.le s):OR X.L X.C s o o':=by
 cases h with
 | cells t h hf=>exact .cells t (h.mono k) hf
 | loop h=>exact .loop (h.mono k)
 | deferred=>exact .deferred
 | taken=>exact .taken
 | number l h=>exact .number l (h.mono k)
 | map n h hk=>exact .map n h fun i x y hx hy=>⟨(hk i x y hx hy).key.mono k,(hk i x y hx hy).val.mono k,(hk i x y hx hy).born⟩
end
def WR(X:Ctx)(r:Rho)(w w':World):Prop:=∀ i j,r i j->∃ o o',w.heap[i]?=some o/\w'.heap[j]?=some o'/\OR X.L X.C r o o'
def Dj(w:World)(i:Nat):Prop:=∃ c t f,w.heap[i]?=some (.cells c t f)/\f.1=0/\c.size<=f.2
inductive Tame:Halt->Prop
 | panic (v:Value):Tame (.panic v)
 | stuck (s:String):Tame (.stuck s)
 | noEntry (s:String):Tame (.unsupported (.noEntry s))
 | unsafePointer (s:String):Tame (.unsupported (.unsafePointer s))
 | observed:Tame (.unsupported .addressObserved)
 | limit (s:String):Tame (.unsupported (.resourceLimit s))
inductive Dead(P:Program){α:Type}:Sem α->Prop
 | halt {h:Halt} (ht:Tame h):Dead P (.halt h)
 | frozen {a:Addr} {k:Bool->Sem α} (h:∀ b,Dead P (k b)):Dead P (.frozen a k)
 | shape {i:Nat} {k:Option (TypeId × Nat)->Sem α} (h:∀ x,Dead P (k x)):Dead P (.shape i k)
 | room {k:Sem α} (h:Dead P k):Dead P (.mark .noRoom k)
 | program {k:Program->Sem α} (h:Dead P (k P)):Dead P (.program k)
theorem Dead.bind{P:Program}{α β:Type}{x:Sem α}{f:α->Sem β}(h:Dead P x):Dead P (x >>= f):=by
 show Dead P (x.bind f)
 induction h with
 | halt ht=>exact .halt ht
 | frozen _ ih=>exact .frozen ih
 | shape _ ih=>exact .shape ih
 | room _ ih=>exact .room ih
 | program _ ih=>exact .program ih
theorem Dead.run{α:Type}{P:Program}{x:Sem α}(h:Dead P x)(w:World):∃ hh,Tame hh/\x.run P w=.halt hh w:=by
 induction h with
 | halt ht=>exact⟨_,ht,rfl⟩
 | frozen _ ih=>exact ih _
 | shape _ ih=>exact ih _
 | room _ ih=>exact ih
 | program _ ih=>exact ih
def ShR(x y:Option (TypeId × Nat)):Prop:=(x=none/\y=none)\/∃ t n m,x=some (t,n)/\y=some (t,m)/\n<=m
inductive SemR(X:Ctx){α:Type}(R:Rho->α->α->Prop):Rho->Sem α->Sem α->Prop
 | pure {r:Rho} {a b:α} (h:R r a b):SemR X R r (.pure a) (.pure b)
 | load {r:Rho} {a b:Addr} {k k':Value->Sem α} (m:Mode) (hm:m=.plain) (h:AR r a b) (hk:∀ v v',VR X.L r v v'->SemR X R r (k v) (k' v')):SemR X R r (.load m a k) (.load m b k')
 | store {r:Rho} {a b:Addr} {v v':Value} {k k':Sem α} (m:Mode) (hm:m=.plain) (h:AR r a b) (hv:VR X.L r v v') (hk:SemR X R r k k'):SemR X R r (.store m a v k) (.store m b v' k')
 | new {r:Rho} {o o':Obj} {k k':Nat->Sem α} (h:OR X.L X.C r o o') (hk:∀ s i j,r.le s->X.Ok s->s i j->SemR X R s (k i) (k' j)):SemR X R r (.new o k) (.new o' k')
 | shape {r:Rho} {i j:Nat} {k k':Option (TypeId × Nat)->Sem α} (h:r i j) (hk:∀ x y,ShR x y->SemR X R r (k x) (k' y)):SemR X R r (.shape i k) (.shape j k')
 | getObj {r:Rho} {i j:Nat} {k k':Obj->Sem α} (h:r i j) (hk:∀ o o',OR X.L X.C r o o'->SemR X R r (k o) (k' o')):SemR X R r (.getObj i k) (.getObj j k')
 | setObj {r:Rho} {i j:Nat} {o o':Obj} {k k':Sem α} (h:r i j) (ho:OR X.L X.C r o o') (hk:SemR X R r k k'):SemR X R r (.setObj i o k) (.setObj j o' k')
 | choose {r:Rho} {k k':Nat->Sem α} (q:Question) (hk:∀ n,SemR X R r (k n) (k' n)):SemR X R r (.choose q k) (.choose q k')
 | program {r:Rho} {k k':Program->Sem α} (hk:SemR X R r (k X.P) (k' X.P)):SemR X R r (.program k) (.program k')
 | room {r:Rho} {k k':Sem α} (hk:SemR X R r k k'):SemR X R r (.mark .noRoom k) (.mark .noRoom k')
 | halt {r:Rho} {h:Halt} {s':Sem α} (ht:Tame h):SemR X R r (.halt h) s'
 | dead {r:Rho} {s s':Sem α} (h:Dead X.P s):SemR X R r s s'
section
variable {X:Ctx} {α β:Type} {R:Rho->α->α->Prop} {S:Rho->β->β->Prop}
theorem SemR.bind{r:Rho}{x x':Sem α}{f f':α->Sem β}(ok:X.Ok r)(h:SemR X R r x x')(hf:∀ s a b,r.le s->X.Ok s->R s a b->SemR X S s (f a) (f' b)):SemR X S r (x >>= f) (x' >>= f'):=by
 show SemR X S r (x.bind f) (x'.bind f')
 induction h with
 | @pure r a b h=>exact hf r a b (Rho.le_refl r) ok h
 | load m hm h _ ih=>exact .load m hm h fun v v' hv=>ih v v' hv ok hf
 | store m hm h hv _ ih=>exact .store m hm h hv (ih ok hf)
 | new h _ ih=>exact .new h fun s i j hs hok hij=>ih s i j hs hok hij hok fun t a b ht=>hf t a b (Rho.le_trans hs ht)
 | shape h _ ih=>exact .shape h fun x y hxy=>ih x y hxy ok hf
 | getObj h _ ih=>exact .getObj h fun o o' ho=>ih o o' ho ok hf
 | setObj h ho _ ih=>exact .setObj h ho (ih ok hf)
 | choose q _ ih=>exact .choose q fun n=>ih n ok hf
 | program _ ih=>exact .program (ih ok hf)
 | room _ ih=>exact .room (ih ok hf)
 | halt ht=>exact .halt ht
 | dead h=>exact .dead h.bind
theorem SemR.mono{R':Rho->α->α->Prop}{r:Rho}{x x':Sem α}(h:SemR X R r x x')(hf:∀ s a b,R s a b->R' s a b):SemR X R' r x x':=by
 induction h with
 | pure h=>exact .pure (hf _ _ _ h)
 | load m hm h _ ih=>exact .load m hm h fun v v' hv=>ih v v' hv
 | store m hm h hv _ ih=>exact .store m hm h hv ih
 | new h _ ih=>exact .new h fun s i j hs hok hij=>ih s i j hs hok hij
 | shape h _ ih=>exact .shape h fun x y hxy=>ih x y hxy
 | getObj h _ ih=>exact .getObj h fun o o' ho=>ih o o' ho
 | setObj h ho _ ih=>exact .setObj h ho ih
 | choose q _ ih=>exact .choose q fun n=>ih n
 | program _ ih=>exact .program ih
 | room _ ih=>exact .room ih
 | halt ht=>exact .halt ht
 | dead h=>exact .dead h
theorem SemR.ret{r:Rho}{a b:α}(h:R r a b):SemR X R r (Pure.pure a) (Pure.pure b):=.pure h
abbrev Cz{α:Type}:Rho->α->α->Prop:=fun _ a b=>a=b
end
def EvR(r:Rho)(w:World)(e:Event):Prop :=
 e=⟨.mark .noRoom,false,true⟩\/e.sync=false/\∃ i j,r i j/\((∃ a:Addr,e.loc=.cell a/\a.block=j)\/e.loc=.obj j)/\(e.write=true->¬ Dj w i)
structure Out(X:Ctx)(r s:Rho)(w w' v v':World):Prop where
 le:r.le s
 ok:X.Ok s
 wr:WR X s v v'
 fresh:∀ i j,s i j->r i j\/(w.heap.size<=i/\w'.heap.size<=j)
 sizel:w.heap.size<=v.heap.size
 size:w'.heap.size<=v'.heap.size
 framel:∀ i,i<w.heap.size->(∀ j,¬ r i j)->v.heap[i]?=w.heap[i]?
 frame:∀ j,j<w'.heap.size->(∀ i,¬ r i j)->v'.heap[j]?=w'.heap[j]?
 draws:∃ d,v.drawn=w.drawn+d/\v'.drawn=w'.drawn+d
 tapel:v.tape=w.tape
 tape:v'.tape=w'.tape
 osl:v.os=w.os
 os:v'.os=w'.os
 outl:v.output=w.output
 out:v'.output=w'.output
 sealed:∀ i,Dj w i->Dj v i
 still:∀ i j,r i j->Dj w i->v'.heap[j]?=w'.heap[j]?
theorem Out.refl{X:Ctx}{r:Rho}{w w':World}(ok:X.Ok r)(wr:WR X r w w'):Out X r r w w' w w' :=
 ⟨Rho.le_refl r,ok,wr,fun _ _ h=>.inl h,Nat.le_refl _,Nat.le_refl _,fun _ _ _=>rfl,fun _ _ _=>rfl,⟨0,rfl,rfl⟩,rfl,rfl,rfl,rfl,rfl,rfl,fun _ h=>h,fun _ _ _ _=>rfl⟩
theorem Out.trans{X:Ctx}{r s t:Rho}{w w' v v' u u':World}(h:Out X r s w w' v v')(k:Out X s t v v' u u'):Out X r t w w' u u':=by
 refine⟨Rho.le_trans h.le k.le,k.ok,k.wr,fun i j x=>?_,Nat.le_trans h.sizel k.sizel,Nat.le_trans h.size k.size,fun i hi hn=>?_,fun j hj hn=>?_,?_,k.tapel.trans h.tapel,k.tape.trans h.tape,k.osl.trans h.osl,k.os.trans h.os,k.outl.trans h.outl,k.out.trans h.out,fun i x=>k.sealed i (h.sealed i x),fun i j x y=>(k.still i j (h.le i j x) (h.sealed i y)).trans (h.still i j x y)⟩
 . rcases k.fresh i j x with y | ⟨a,b⟩
   . exact h.fresh i j y
   . exact .inr ⟨Nat.le_trans h.sizel a,Nat.le_trans h.size b⟩
 . refine(k.framel i (Nat.lt_of_lt_of_le hi h.sizel) fun j x=>?_).trans (h.framel i hi hn);rcases h.fresh i j x with y | ⟨a,_⟩
   . exact hn j y
   . omega
 . refine(k.frame j (Nat.lt_of_lt_of_le hj h.size) fun i x=>?_).trans (h.frame j hj hn);rcases h.fresh i j x with y | ⟨_,b⟩
   . exact hn i y
   . omega
 . obtain⟨d,a,b⟩:=h.draws;obtain⟨e,c,f⟩:=k.draws;exact⟨d+e,by omega,by omega⟩
theorem heap_setCell{w:World}{a:Addr}{c:Array Value}{t:TypeId}{f:Nat × Nat}(h:w.heap[a.block]?=some (.cells c t f))(v:Value)(i:Nat) :
 (w.setCell a v).heap[i]?=if a.block=i then some (.cells (if a.spot.isSome then c else c.setIfInBounds a.off v) t f) else w.heap[i]?:=by
 simp only[World.setCell,Array.getElem?_modify];split
 . rename_i e;subst e;rw[h]; rfl
 . rfl
theorem Cx(w:World)(o:Obj)(i:Nat):(w.heap.push o)[i]?=if i=w.heap.size then some o else w.heap[i]?:=by
 rw[Array.getElem?_push]
def Same(w w':World):Prop:=∀ i q,w.tape (w.drawn+i) q=w'.tape (w'.drawn+i) q
def Rho.add(r:Rho)(i j:Nat):Rho:=fun a b=>r a b\/(a=i/\b=j)
section
variable {X:Ctx} {r:Rho} {w w':World}
theorem WR.ltl(wr:WR X r w w'){i j:Nat}(h:r i j):i<w.heap.size:=by
 obtain⟨o,o',h1,_,_⟩:=wr i j h;exact(Array.getElem?_eq_some_iff.1 h1).1
theorem WR.lt(wr:WR X r w w'){i j:Nat}(h:r i j):j<w'.heap.size:=by
 obtain⟨o,o',_,h1,_⟩:=wr i j h;exact(Array.getElem?_eq_some_iff.1 h1).1
theorem WR.cell(wr:WR X r w w'){a b:Addr}(h:AR r a b){v:Value}(k:w.cell? a=some v):∃ v',w'.cell? b=some v'/\VR X.L r v v':=by
 obtain⟨o,o',h1,h2,ho⟩:=wr _ _ h.block;unfold World.cell? at k ⊢;rw[h1] at k;rw[h2];cases ho with
 | cells t hc hf =>
  simp only at k ⊢;rw[<- h.spot,<- h.off];split at k
  . cases k
  . obtain⟨y,hy,hv⟩:=hc.get? k;exact⟨y,by rw[if_neg (by assumption)]; exact hy,hv⟩
 | _=>simp at k
theorem WR.nocell(wr:WR X r w w'){a b:Addr}(h:AR r a b)(k:w.cell? a=none)(P:Program)(at_:Bool):∃ s,w.farLoad P a at_=.error (.stuck s)/\∀ v,w.farStore P a v at_=.error (.stuck "store: no such cell"):=by
 obtain⟨o,o',h1,_,ho⟩:=wr _ _ h.block;unfold World.farLoad World.farStore World.noCell;rw[h1];cases ho<;>exact⟨_,rfl,fun _=>rfl⟩
theorem WR.shape(wr:WR X r w w'){i j:Nat}(h:r i j):ShR (w.shape? i) (w'.shape? j):=by
 obtain⟨o,o',h1,h2,ho⟩:=wr _ _ h;unfold World.shape?;rw[h1,h2];cases ho with
 | cells t hc _=>exact .inr ⟨_,_,_,rfl,rfl,hc.1⟩
 | _=>exact .inl ⟨rfl,rfl⟩
theorem WR.mono_add(ok:X.Ok r)(g1:X.G<=w.heap.size)(g2:X.G<=w'.heap.size)(wr:WR X r w w'){o o':Obj}(ho:OR X.L X.C r o o') :
 X.Ok (r.add w.heap.size w'.heap.size)/\WR X (r.add w.heap.size w'.heap.size) { w with heap:=w.heap.push o } { w' with heap:=w'.heap.push o' }:=by
 have hl:r.le (r.add w.heap.size w'.heap.size):=fun _ _ x=>.inl x;refine⟨⟨?_,?_,?_⟩,?_⟩
 . rintro i j j' (a | ⟨a,b⟩) (c | ⟨c,d⟩)
   . exact ok.fn a c
   . subst c d; exact absurd (wr.ltl a) (Nat.lt_irrefl _)
   . subst a b; exact absurd (wr.ltl c) (Nat.lt_irrefl _)
   . rw[b,d]
 . rintro i i' j (a | ⟨a,b⟩) (c | ⟨c,d⟩)
   . exact ok.inj a c
   . subst c d; exact absurd (wr.lt a) (Nat.lt_irrefl _)
   . subst a b; exact absurd (wr.lt c) (Nat.lt_irrefl _)
   . rw[a,c]
 . rintro i j (a | ⟨rfl,rfl⟩) h
   . exact ok.glob a h
   . omega
 . rintro i j (a | ⟨rfl,rfl⟩)
   . obtain⟨x,y,h1,h2,h3⟩:=wr i j a;refine⟨x,y,?_,?_,h3.mono hl⟩
     . show(w.heap.push o)[i]?=_
       rw[Cx,if_neg (Nat.ne_of_lt (wr.ltl a))]; exact h1
     . show(w'.heap.push o')[j]?=_
       rw[Cx,if_neg (Nat.ne_of_lt (wr.lt a))]; exact h2
   . exact⟨o,o',by show(w.heap.push o)[_]?=_; rw[Cx,if_pos rfl],by show(w'.heap.push o')[_]?=_; rw[Cx,if_pos rfl],ho.mono hl⟩
theorem WR.put(ok:X.Ok r)(wr:WR X r w w'){i j:Nat}(h:r i j){v v':World}{o o':Obj}(h1:∀ k,v.heap[k]?=if i=k then some o else w.heap[k]?)(h2:∀ k,v'.heap[k]?=if j=k then some o' else w'.heap[k]?)(ho:OR X.L X.C r o o'):WR X r v v':=by
 intro a b hab;by_cases e:i=a
 . subst e;obtain rfl:=ok.fn h hab;exact⟨o,o',by rw[h1,if_pos rfl],by rw[h2,if_pos rfl],ho⟩
 . have e':j≠b:=fun x=>e (by subst x; exact ok.inj h hab);obtain⟨x,y,k1,k2,k3⟩:=wr a b hab;exact⟨x,y,by rw[h1,if_neg e]; exact k1,by rw[h2,if_neg e']; exact k2,k3⟩
theorem Ib{v w:World}{i:Nat}{o:Obj}(hi:i<w.heap.size)(h:∀ k,v.heap[k]?=if i=k then some o else w.heap[k]?):v.heap.size=w.heap.size:=by
 rcases Nat.lt_trichotomy v.heap.size w.heap.size with x | x | x
 . have:=h v.heap.size;rw[Array.getElem?_eq_none (Nat.le_refl _)] at this;split at this
   . cases this
   . rw[Array.getElem?_eq_getElem x] at this; cases this
 . exact x
 . have:=h w.heap.size;rw[Array.getElem?_eq_getElem x,if_neg (Nat.ne_of_lt hi),Array.getElem?_eq_none (Nat.le_refl _)] at this;cases this
theorem Out.put(ok:X.Ok r)(wr:WR X r w w'){i j:Nat}(h:r i j){v v':World}{o o':Obj}(h1:∀ k,v.heap[k]?=if i=k then some o else w.heap[k]?)(h2:∀ k,v'.heap[k]?=if j=k then some o' else w'.heap[k]?)(ho:OR X.L X.C r o o')
 (hs:¬ Dj w i) (d1:v.drawn=w.drawn) (d2:v'.drawn=w'.drawn) (t1:v.tape=w.tape) (t2:v'.tape=w'.tape) (o1:v.os=w.os) (o2:v'.os=w'.os) (u1:v.output=w.output) (u2:v'.output=w'.output):Out X r r w w' v v':=by
 have s1:=Ib (wr.ltl h) h1;have s2:=Ib (wr.lt h) h2;refine⟨Rho.le_refl r,ok,wr.put ok h h1 h2 ho,fun _ _ x=>.inl x,by omega,by omega,fun k _ hn=>?_,fun k _ hn=>?_,⟨0,d1,d2⟩,t1,t2,o1,o2,u1,u2,fun k hk=>?_,fun a b hab hk=>?_⟩
 . rw[h1,if_neg (fun(e:i=k)=>hn j (e▸h))]
 . rw[h2,if_neg (fun(e:j=k)=>hn i (e▸h))]
 . have e:i≠k:=fun e=>hs (e▸hk);obtain⟨c,t,f,a,b⟩:=hk;exact⟨c,t,f,by rw[h1,if_neg e]; exact a,b⟩
 . have e:j≠b:=fun e=>hs (by subst e; rw[ok.inj h hab]; exact hk);rw[h2,if_neg e]
end
theorem Same.step{w w' v v':World}(h:Same w w')(d:∃ d,v.drawn=w.drawn+d/\v'.drawn=w'.drawn+d)(t:v.tape=w.tape)(t':v'.tape=w'.tape):Same v v':=by
 obtain⟨d,a,b⟩:=d;intro i q;rw[t,t',a,b,Nat.add_assoc,Nat.add_assoc];exact h (d+i) q
theorem EvR.mono{s:Rho}{w v:World}{e:Event}(h:EvR s v e)(hs:∀ i,Dj w i->Dj v i):EvR s w e:=by
 rcases h with h | ⟨h0,i,j,h1,h2,h3⟩
 . exact .inl h
 . exact .inr ⟨h0,i,j,h1,h2,fun x y=>h3 x (hs i y)⟩
theorem EvR.up{r s:Rho}{w:World}{e:Event}(h:EvR r w e)(hs:r.le s):EvR s w e:=by
 rcases h with h | ⟨h0,i,j,h1,h2,h3⟩
 . exact .inl h
 . exact .inr ⟨h0,i,j,hs _ _ h1,h2,h3⟩
section
variable {X:Ctx} {α:Type} {R:Rho->α->α->Prop}
theorem SemR.run{r:Rho}{x x':Sem α}(h:SemR X R r x x'):∀{w w':World},X.Ok r->X.G<=w.heap.size->X.G<=w'.heap.size->WR X r w w'->Same w w'->∀{a:α} {v:World},x.run X.P w=.ok a v ->
 ∃ s a' v' ev,(∀ es,x'.runT X.P w' es=(.ok a' v',es++ev))/\R s a a'/\Out X r s w w' v v'/\∀ e∈ev,EvR s w e:=by
 induction h with
 | @pure r a b h =>
  intro w w' ok g1 g2 wr sm a v hr;simp only[Sem.run,Result.ok.injEq] at hr;obtain⟨rfl,rfl⟩:=hr;exact⟨r,b,w',#[],fun es=>by simp[Sem.runT,-Sem.runT_eq],h,.refl ok wr,by simp⟩
 | @load r a b k k' m hm h _ ih =>
  intro w w' ok g1 g2 wr sm z v hr;subst hm;simp only[Sem.run] at hr;cases hc:w.cell? a with
  | none =>
   obtain⟨s,hs,_⟩:=wr.nocell h hc X.P false;rw[hc] at hr;simp only[show(Mode.plain==Mode.atomic)=false from rfl,hs] at hr;cases hr
  | some u =>
   rw[hc] at hr;obtain⟨u',hu,hv⟩:=wr.cell h hc;obtain⟨s,a',v',ev,hrun,hR,ho,he⟩:=ih u u' hv ok g1 g2 wr sm hr;refine⟨s,a',v',#[⟨.cell b,false,false⟩]++ev,fun es=>?_,hR,ho,fun e hx=>?_⟩
   . simp only[Sem.runT,hu,show(Mode.plain==Mode.atomic)=false from rfl];rw[hrun];simp
   . rcases Array.mem_append.1 hx with hx | hx
     . simp only[List.mem_toArray,List.mem_cons,List.not_mem_nil,or_false] at hx;subst hx;exact .inr ⟨rfl,_,_,ho.le _ _ h.block,.inl ⟨b,rfl,rfl⟩,fun x=>by cases x⟩
     . exact he e hx
 | @store r a b u u' k k' m hm h hv _ ih =>
  intro w w' ok g1 g2 wr sm z v hr;subst hm;have hnot:(∀ cs,u≠.agg cs)/\(∀ cs,u≠.tuple cs):=by
   constructor<;>(rintro cs rfl; simp[Sem.run] at hr)
  have hnot':(∀ cs,u'≠.agg cs)/\(∀ cs,u'≠.tuple cs):=by
   constructor
   . rintro cs rfl; cases hv<;>first | exact hnot.1 _ rfl | exact hnot.2 _ rfl
   . rintro cs rfl; cases hv<;>exact hnot.2 _ rfl
  have hr':(match w.cell? a with
   | some _=>if w.frozen? a then .halt (.unsupported (.unsafePointer "a write to bytes that a string shares")) w else k.run X.P (w.setCell a u)
   | none=>match w.farStore X.P a u (Mode.plain==.atomic) with
    | .ok (w,_)=>k.run X.P w
    | .error h=>.halt h w)=Result.ok z v:=by
   rw[<- hr];cases u<;>first | rfl | exact absurd rfl (hnot.1 _) | exact absurd rfl (hnot.2 _)
  clear hr;cases hc:w.cell? a with
  | none =>
   obtain⟨s,_,hs⟩:=wr.nocell h hc X.P false;rw[hc] at hr';simp only[show(Mode.plain==Mode.atomic)=false from rfl,hs] at hr';cases hr'
  | some y =>
   rw[hc] at hr';simp only at hr';split at hr'
   . cases hr'
   rename_i hfz;obtain⟨y',hy,_⟩:=wr.cell h hc;obtain⟨o,o',h1,h2,ho⟩:=wr _ _ h.block;have hcells:∃ c t f c' g,o=.cells c t f/\o'=.cells c' t g/\PreR X.L r c c'/\∀ k,k<c.size->g.1<=k->k<g.2->f.1<=k/\k<f.2:=by
    unfold World.cell? at hc;rw[h1] at hc;cases ho with
    | @cells c c' t f g e hf=>exact⟨c,t,f,c',g,rfl,rfl,e,hf⟩
    | _=>simp at hc
   obtain⟨c,t,f,c',g,rfl,rfl,hcc,hfg⟩:=hcells;have hspot:a.spot.isSome=false:=by
    unfold World.cell? at hc;rw[h1] at hc;simp only at hc;cases hs:a.spot.isSome with
    | false=>rfl
    | true=>rw[hs] at hc; simp at hc
   have hoff:a.off<c.size:=by
    unfold World.cell? at hc;rw[h1] at hc;simp only[hspot,Bool.false_eq_true,if_false] at hc;exact(Array.getElem?_eq_some_iff.1 hc).1
   have hf1:¬ (f.1<=a.off/\a.off<f.2):=by
    intro hh;apply hfz;unfold World.frozen?;rw[h1];simp[hh.1,hh.2]
   have hfz':w'.frozen? b=false:=by
    unfold World.frozen?;rw[h2];rw[<- h.off];by_cases x:g.1<=a.off/\a.off<g.2
    . exact absurd (hfg a.off hoff x.1 x.2) hf1
    . simp only[Bool.and_eq_false_iff,decide_eq_false_iff_not];by_cases y:g.1<=a.off
      . exact .inr fun z=>x ⟨y,z⟩
      . exact .inl y
   have hns:¬ Dj w a.block:=by
    rintro⟨c0,t0,f0,e0,e1,e2⟩;rw[h1] at e0;obtain⟨rfl,rfl,rfl⟩:=Obj.cells.inj (Option.some.inj e0);exact hf1 ⟨by omega,by omega⟩
   have hput:=Out.put (v:=w.setCell a u) (v':=w'.setCell b u') (o:=.cells (c.setIfInBounds a.off u) t f) (o':=.cells (c'.setIfInBounds b.off u') t g) ok wr h.block
    (fun k=>by rw[heap_setCell h1]; simp[hspot]) (fun k=>by rw[heap_setCell h2]; rw[h.spot] at hspot; simp[hspot])
    (.cells t (by rw[h.off]; exact hcc.set _ hv) (by simpa using hfg)) hns rfl rfl rfl rfl rfl rfl rfl rfl
   obtain⟨s,a',v',ev,hrun,hR,ho',he⟩:=ih ok (Nat.le_trans g1 hput.sizel) (Nat.le_trans g2 hput.size) hput.wr (sm.step hput.draws hput.tapel hput.tape) hr';refine⟨s,a',v',#[⟨.cell b,true,false⟩]++ev,fun es=>?_,hR,hput.trans ho',fun e hx=>?_⟩
   . have e1:Sem.runT X.P (.store .plain b u' k') w' es=Sem.runT X.P k' (w'.setCell b u') (es.push ⟨.cell b,true,false⟩):=by
      cases u'<;>first | exact absurd rfl (hnot'.1 _) | exact absurd rfl (hnot'.2 _) | (simp only[Sem.runT,hy,hfz',Bool.false_eq_true,if_false,show(Mode.plain==Mode.atomic)=false from rfl])
     rw[e1,hrun];simp
   . rcases Array.mem_append.1 hx with hx | hx
     . simp only[List.mem_toArray,List.mem_cons,List.not_mem_nil,or_false] at hx;subst hx;exact .inr ⟨rfl,_,_,ho'.le _ _ h.block,.inl ⟨b,rfl,rfl⟩,fun _=>hns⟩
     . exact(he e hx).mono hput.sealed
 | @new r o o' k k' h _ ih =>
  intro w w' ok g1 g2 wr sm z v hr;simp only[Sem.run] at hr;obtain⟨ok2,wr2⟩:=wr.mono_add ok g1 g2 h;have h0:Out X r (r.add w.heap.size w'.heap.size) w w' { w with heap:=w.heap.push o } { w' with heap:=w'.heap.push o' }:=by
   refine⟨fun _ _ x=>.inl x,ok2,wr2,?_,by simp,by simp,fun i hi _=>?_,fun j hj _=>?_,⟨0,rfl,rfl⟩,rfl,rfl,rfl,rfl,rfl,rfl,fun i=>?_,fun i j x _=>?_⟩
   . rintro i j (x | ⟨rfl,rfl⟩)
     . exact .inl x
     . exact .inr ⟨Nat.le_refl _,Nat.le_refl _⟩
   . show(w.heap.push o)[i]?=_
     rw[Cx,if_neg (Nat.ne_of_lt hi)]
   . show(w'.heap.push o')[j]?=_
     rw[Cx,if_neg (Nat.ne_of_lt hj)]
   . rintro⟨c,t,f,a,b⟩;refine⟨c,t,f,?_,b⟩
     show(w.heap.push o)[i]?=_
     rw[Cx,if_neg (Nat.ne_of_lt (Array.getElem?_eq_some_iff.1 a).1)]; exact a
   . show(w'.heap.push o')[j]?=_
     rw[Cx,if_neg (Nat.ne_of_lt (wr.lt x))]
  obtain⟨s,a',v',ev,hrun,hR,ho,he⟩:=ih _ w.heap.size w'.heap.size h0.le ok2 (.inr ⟨rfl,rfl⟩) ok2 (Nat.le_trans g1 h0.sizel) (Nat.le_trans g2 h0.size) wr2 (sm.step h0.draws h0.tapel h0.tape) hr;exact⟨s,a',v',ev,fun es=>by simp only[Sem.runT]; exact hrun es,hR,h0.trans ho,fun e hx=>(he e hx).mono h0.sealed⟩
 | shape h _ ih =>
  intro w w' ok g1 g2 wr sm z v hr;simp only[Sem.run] at hr;obtain⟨s,a',v',ev,hrun,hR,ho,he⟩:=ih _ _ (wr.shape h) ok g1 g2 wr sm hr;exact⟨s,a',v',ev,fun es=>by simp only[Sem.runT]; exact hrun es,hR,ho,he⟩
 | @getObj r i j k k' h _ ih =>
  intro w w' ok g1 g2 wr sm z v hr;simp only[Sem.run] at hr;obtain⟨o,o',h1,h2,ho⟩:=wr _ _ h;rw[h1] at hr;have hn:(∀ c t f,o≠.cells c t f):=by rintro c t f rfl; cases hr
  have hn':(∀ c t f,o'≠.cells c t f):=by rintro c t f rfl; cases ho; exact hn _ _ _ rfl
  have hr':(k o).run X.P w=.ok z v:=by cases o<;>first | exact hr | exact absurd rfl (hn _ _ _)
  have hnc:o'.isChan=false:=by cases ho<;>rfl
  obtain⟨s,a',v',ev,hrun,hR,hout,he⟩:=ih o o' ho ok g1 g2 wr sm hr';refine⟨s,a',v',#[⟨.obj j,false,false⟩]++ev,fun es=>?_,hR,hout,fun e hx=>?_⟩
  . have e1:Sem.runT X.P (.getObj j k') w' es=Sem.runT X.P (k' o') w' (es.push ⟨.obj j,false,false⟩):=by
     simp only[Sem.runT,h2];cases o'<;>first | exact absurd rfl (hn' _ _ _) | (simp only[hnc])
    rw[e1,hrun];simp
  . rcases Array.mem_append.1 hx with hx | hx
    . simp only[List.mem_toArray,List.mem_cons,List.not_mem_nil,or_false] at hx;subst hx;exact .inr ⟨rfl,_,_,hout.le _ _ h,.inr rfl,fun x=>by cases x⟩
    . exact he e hx
 | @setObj r i j o o' k k' h ho _ ih =>
  intro w w' ok g1 g2 wr sm z v hr;simp only[Sem.run] at hr;obtain⟨p,p',h1,h2,hp⟩:=wr _ _ h;rw[h1] at hr;have hn:(∀ c t f,p≠.cells c t f):=by rintro c t f rfl; cases hr
  have hn':(∀ c t f,p'≠.cells c t f):=by rintro c t f rfl; cases hp; exact hn _ _ _ rfl
  have hr':k.run X.P { w with heap:=w.heap.setIfInBounds i o }=.ok z v:=by cases p<;>first | exact hr | exact absurd rfl (hn _ _ _)
  have hnc:o'.isChan=false:=by cases ho<;>rfl
  have hi:=wr.ltl h;have hj:=wr.lt h;have hns:¬ Dj w i:=by
   rintro⟨c0,t0,f0,e0,_⟩;rw[h1] at e0;exact hn _ _ _ (Option.some.inj e0)
  have hput:=Out.put (v:={ w with heap:=w.heap.setIfInBounds i o }) (v':={ w' with heap:=w'.heap.setIfInBounds j o' }) ok wr h
   (fun k=>by show(w.heap.setIfInBounds i o)[k]?=_; rw[Array.getElem?_setIfInBounds]; simp[hi]) (fun k=>by show(w'.heap.setIfInBounds j o')[k]?=_; rw[Array.getElem?_setIfInBounds]; simp[hj]) ho hns rfl rfl rfl rfl rfl rfl rfl rfl
  obtain⟨s,a',v',ev,hrun,hR,ho',he⟩:=ih ok (Nat.le_trans g1 hput.sizel) (Nat.le_trans g2 hput.size) hput.wr (sm.step hput.draws hput.tapel hput.tape) hr';refine⟨s,a',v',#[⟨.obj j,true,false⟩]++ev,fun es=>?_,hR,hput.trans ho',fun e hx=>?_⟩
  . have e1:Sem.runT X.P (.setObj j o' k') w' es=Sem.runT X.P k' { w' with heap:=w'.heap.setIfInBounds j o' } (es.push ⟨.obj j,true,false⟩):=by
     simp only[Sem.runT,h2];cases p'<;>first | exact absurd rfl (hn' _ _ _) | (simp only[hnc])
    rw[e1,hrun];simp
  . rcases Array.mem_append.1 hx with hx | hx
    . simp only[List.mem_toArray,List.mem_cons,List.not_mem_nil,or_false] at hx;subst hx;exact .inr ⟨rfl,_,_,ho'.le _ _ h,.inr rfl,fun _=>hns⟩
    . exact(he e hx).mono hput.sealed
 | @choose r k k' q _ ih =>
  intro w w' ok g1 g2 wr sm z v hr;simp only[Sem.run] at hr;by_cases hq:q.forced=true
  . rw[if_pos hq] at hr;obtain⟨s,a',v',ev,hrun,hR,ho,he⟩:=ih 0 ok g1 g2 wr sm hr;exact⟨s,a',v',ev,fun es=>by simp only[Sem.runT,hq,if_true]; exact hrun es,hR,ho,he⟩
  . rw[if_neg hq] at hr;have e0:w'.tape w'.drawn q=w.tape w.drawn q:=(sm 0 q).symm;have h0:Out X r r w w' { w with drawn:=w.drawn+1 } { w' with drawn:=w'.drawn+1 } :=
     ⟨Rho.le_refl r,ok,wr,fun _ _ x=>.inl x,Nat.le_refl _,Nat.le_refl _,fun _ _ _=>rfl,fun _ _ _=>rfl,⟨1,rfl,rfl⟩,rfl,rfl,rfl,rfl,rfl,rfl,fun _ x=>x,fun _ _ _ _=>rfl⟩
    obtain⟨s,a',v',ev,hrun,hR,ho,he⟩:=ih _ (w:={ w with drawn:=w.drawn+1 }) (w':={ w' with drawn:=w'.drawn+1 }) ok g1 g2 h0.wr (sm.step h0.draws h0.tapel h0.tape) hr;exact⟨s,a',v',ev,fun es=>by simp only[Sem.runT,hq,e0]; exact hrun es,hR,h0.trans ho,he⟩
 | program _ ih =>
  intro w w' ok g1 g2 wr sm z v hr;simp only[Sem.run] at hr;obtain⟨s,a',v',ev,hrun,hR,ho,he⟩:=ih ok g1 g2 wr sm hr;exact⟨s,a',v',ev,fun es=>by simp only[Sem.runT]; exact hrun es,hR,ho,he⟩
 | room _ ih =>
  intro w w' ok g1 g2 wr sm z v hr;simp only[Sem.run] at hr;obtain⟨s,a',v',ev,hrun,hR,ho,he⟩:=ih ok g1 g2 wr sm hr;refine⟨s,a',v',#[⟨.mark .noRoom,false,true⟩]++ev,fun es=>?_,hR,ho,fun e hx=>?_⟩
  . simp only[Sem.runT]; rw[hrun]; simp
  . rcases Array.mem_append.1 hx with hx | hx
    . simp only[List.mem_toArray,List.mem_cons,List.not_mem_nil,or_false] at hx;exact .inl hx
    . exact he e hx
 | halt ht =>
  intro w w' ok g1 g2 wr sm z v hr;simp[Sem.run] at hr
 | dead h =>
  intro w w' ok g1 g2 wr sm z v hr;obtain⟨hh,_,e⟩:=h.run (P:=X.P) w;rw[e] at hr; cases hr
theorem SemR.tame{r:Rho}{x x':Sem α}(h:SemR X R r x x'):∀{w w':World},X.Ok r->X.G<=w.heap.size->X.G<=w'.heap.size->WR X r w w'->∀{a:Halt} {v:World},x.run X.P w=.halt a v->Tame a/\∃ s v',r.le s/\X.Ok s/\WR X s v v':=by
 induction h with
 | pure h=>intro w w' ok g1 g2 wr a v hr; simp[Sem.run] at hr
 | @load r a b k k' m hm h _ ih =>
  intro w w' ok g1 g2 wr z v hr;subst hm;simp only[Sem.run] at hr;cases hc:w.cell? a with
  | none =>
   obtain⟨s,hs,_⟩:=wr.nocell h hc X.P false;rw[hc] at hr;simp only[show(Mode.plain==Mode.atomic)=false from rfl,hs,Result.halt.injEq] at hr;obtain⟨rfl,rfl⟩:=hr;exact⟨.stuck _,r,w',Rho.le_refl r,ok,wr⟩
  | some u =>
   rw[hc] at hr;obtain⟨u',hu,hv⟩:=wr.cell h hc;exact ih u u' hv ok g1 g2 wr hr
 | @store r a b u u' k k' m hm h hv _ ih =>
  intro w w' ok g1 g2 wr z v hr;subst hm;by_cases hnot:(∀ cs,u≠.agg cs)/\(∀ cs,u≠.tuple cs)
  . have hr':(match w.cell? a with
     | some _=>if w.frozen? a then .halt (.unsupported (.unsafePointer "a write to bytes that a string shares")) w else k.run X.P (w.setCell a u)
     | none=>match w.farStore X.P a u (Mode.plain==.atomic) with
      | .ok (w,_)=>k.run X.P w
      | .error h=>.halt h w)=Result.halt z v:=by
     rw[<- hr];cases u<;>first | rfl | exact absurd rfl (hnot.1 _) | exact absurd rfl (hnot.2 _)
    clear hr;cases hc:w.cell? a with
    | none =>
     obtain⟨s,_,hs⟩:=wr.nocell h hc X.P false;rw[hc] at hr';simp only[show(Mode.plain==Mode.atomic)=false from rfl,hs,Result.halt.injEq] at hr';obtain⟨rfl,rfl⟩:=hr';exact⟨.stuck _,r,w',Rho.le_refl r,ok,wr⟩
    | some y =>
     rw[hc] at hr';simp only at hr';split at hr'
     . simp only[Result.halt.injEq] at hr';obtain⟨rfl,rfl⟩:=hr';exact⟨.unsafePointer _,r,w',Rho.le_refl r,ok,wr⟩
     obtain⟨o,o',h1,h2,ho⟩:=wr _ _ h.block;have hcells:∃ c t f c' g,o=.cells c t f/\o'=.cells c' t g/\PreR X.L r c c'/\∀ k,k<c.size->g.1<=k->k<g.2->f.1<=k/\k<f.2:=by
      unfold World.cell? at hc;rw[h1] at hc;cases ho with
      | @cells c c' t f g e hf=>exact⟨c,t,f,c',g,rfl,rfl,e,hf⟩
      | _=>simp at hc
     obtain⟨c,t,f,c',g,rfl,rfl,hcc,hfg⟩:=hcells;have hspot:a.spot.isSome=false:=by
      unfold World.cell? at hc;rw[h1] at hc;simp only at hc;cases hs:a.spot.isSome with
      | false=>rfl
      | true=>rw[hs] at hc; simp at hc
     refine ih (w':=w'.setCell b u') ok (by simpa using g1) (by simpa using g2) (wr.put ok h.block (o:=.cells (c.setIfInBounds a.off u) t f) (o':=.cells (c'.setIfInBounds b.off u') t g)
      (fun k=>by rw[heap_setCell h1]; simp[hspot]) (fun k=>by rw[heap_setCell h2]; rw[h.spot] at hspot; simp[hspot])
      (.cells t (by rw[h.off]; exact hcc.set _ hv) (by simpa using hfg))) hr'
  . have:z=.stuck "store: not the value of one cell" /\ w=v:=by
     cases u<;>first
      | (simp only[Sem.run,Result.halt.injEq] at hr; exact⟨hr.1.symm,hr.2⟩)
      | exact absurd ⟨(fun _ x=>by cases x),(fun _ x=>by cases x)⟩ hnot
    obtain⟨rfl,rfl⟩:=this;exact⟨.stuck _,r,w',Rho.le_refl r,ok,wr⟩
 | @new r o o' k k' h _ ih =>
  intro w w' ok g1 g2 wr z v hr;simp only[Sem.run] at hr;obtain⟨ok2,wr2⟩:=wr.mono_add ok g1 g2 h;obtain⟨t,s,v',e1,e2,e3⟩:=ih _ w.heap.size w'.heap.size (fun _ _ x=>.inl x) ok2 (.inr ⟨rfl,rfl⟩) ok2 (by simp; omega) (by simp; omega) wr2 hr;exact⟨t,s,v',fun a b x=>e1 a b (.inl x),e2,e3⟩
 | shape h _ ih =>
  intro w w' ok g1 g2 wr z v hr;simp only[Sem.run] at hr;exact ih _ _ (wr.shape h) ok g1 g2 wr hr
 | @getObj r i j k k' h _ ih =>
  intro w w' ok g1 g2 wr z v hr;simp only[Sem.run] at hr;obtain⟨o,o',h1,h2,ho⟩:=wr _ _ h;rw[h1] at hr;cases o with
  | cells c t f=>simp only[Result.halt.injEq] at hr; obtain⟨rfl,rfl⟩:=hr; exact⟨.stuck _,r,w',Rho.le_refl r,ok,wr⟩
  | _=>exact ih _ o' ho ok g1 g2 wr hr
 | @setObj r i j o o' k k' h ho _ ih =>
  intro w w' ok g1 g2 wr z v hr;simp only[Sem.run] at hr;obtain⟨p,p',h1,h2,hp⟩:=wr _ _ h;rw[h1] at hr;have hi:=wr.ltl h;have hj:=wr.lt h;have hwr:WR X r { w with heap:=w.heap.setIfInBounds i o } { w' with heap:=w'.heap.setIfInBounds j o' }:=wr.put ok h
   (fun k=>by show(w.heap.setIfInBounds i o)[k]?=_; rw[Array.getElem?_setIfInBounds]; simp[hi]) (fun k=>by show(w'.heap.setIfInBounds j o')[k]?=_; rw[Array.getElem?_setIfInBounds]; simp[hj]) ho
  cases p with
  | cells c t f=>simp only[Result.halt.injEq] at hr; obtain⟨rfl,rfl⟩:=hr; exact⟨.stuck _,r,w',Rho.le_refl r,ok,wr⟩
  | _=>exact ih ok (by simpa using g1) (by simpa using g2) hwr hr
 | @choose r k k' q _ ih =>
  intro w w' ok g1 g2 wr z v hr;simp only[Sem.run] at hr;split at hr
  . exact ih _ ok g1 g2 wr hr
  . exact ih _ (w:={ w with drawn:=w.drawn+1 }) (w':=w') ok g1 g2 wr hr
 | program _ ih =>
  intro w w' ok g1 g2 wr z v hr;simp only[Sem.run] at hr;exact ih ok g1 g2 wr hr
 | room _ ih =>
  intro w w' ok g1 g2 wr z v hr;simp only[Sem.run] at hr;exact ih ok g1 g2 wr hr
 | halt ht =>
  intro w w' ok g1 g2 wr z v hr;simp only[Sem.run,Result.halt.injEq] at hr;obtain⟨rfl,rfl⟩:=hr;exact⟨ht,_,w',Rho.le_refl _,ok,wr⟩
 | dead h =>
  intro w w' ok g1 g2 wr z v hr;obtain⟨hh,ht,e⟩:=h.run (P:=X.P) w;rw[e] at hr;simp only[Result.halt.injEq] at hr;obtain⟨rfl,rfl⟩:=hr;exact⟨ht,_,w',Rho.le_refl _,ok,wr⟩
end
structure Twin(w u:World):Prop where
 heap:u.heap=w.heap
 os:u.os=w.os
 out:u.output=w.output
theorem Twin.cell{w u:World}(h:Twin w u)(a:Addr):u.cell? a=w.cell? a:=by unfold World.cell?; rw[h.heap]
theorem Twin.frozen{w u:World}(h:Twin w u)(a:Addr):u.frozen? a=w.frozen? a:=by unfold World.frozen?; rw[h.heap]
theorem Twin.shape{w u:World}(h:Twin w u)(i:Nat):u.shape? i=w.shape? i:=by unfold World.shape?; rw[h.heap]
theorem Twin.setCell{w u:World}(h:Twin w u)(a:Addr)(v:Value):Twin (w.setCell a v) (u.setCell a v):=⟨by simp only[World.setCell]; rw[h.heap],h.os,h.out⟩
theorem Twin.refl(w:World):Twin w w:=⟨rfl,rfl,rfl⟩
def Nf(n:Nat)(w u:World):Prop:=∀ i q,i<n->u.tape (u.drawn+i) q=w.tape (w.drawn+i) q
section
variable {X:Ctx} {α:Type} {R:Rho->α->α->Prop}
theorem SemR.near{r:Rho}{x x':Sem α}(h:SemR X R r x x'):∀{w w' u:World},X.Ok r->X.G<=w.heap.size->X.G<=w'.heap.size->WR X r w w'->Twin w u->∀{a:α} {v:World},x.run X.P w=.ok a v ->
 ∃ n,v.drawn=w.drawn+n/\v.tape=w.tape/\(Nf n w u->∃ z,x.run X.P u=.ok a z/\Twin v z/\z.drawn=u.drawn+n/\z.tape=u.tape):=by
 induction h with
 | pure h =>
  intro w w' u ok g1 g2 wr tw a v hr;simp only[Sem.run,Result.ok.injEq] at hr;obtain⟨rfl,rfl⟩:=hr;exact⟨0,rfl,rfl,fun _=>⟨u,rfl,tw,rfl,rfl⟩⟩
 | @load r a b k k' m hm h _ ih =>
  intro w w' u ok g1 g2 wr tw z v hr;subst hm;simp only[Sem.run] at hr;cases hc:w.cell? a with
  | none =>
   obtain⟨s,hs,_⟩:=wr.nocell h hc X.P false;rw[hc] at hr;simp only[show(Mode.plain==Mode.atomic)=false from rfl,hs] at hr;cases hr
  | some y =>
   rw[hc] at hr;obtain⟨y',_,hv⟩:=wr.cell h hc;obtain⟨n,e1,e2,e3⟩:=ih y y' hv ok g1 g2 wr tw hr;exact⟨n,e1,e2,fun sm=>by simp only[Sem.run,tw.cell,hc]; exact e3 sm⟩
 | @store r a b y y' k k' m hm h hv _ ih =>
  intro w w' u ok g1 g2 wr tw z v hr;subst hm;have hnot:(∀ cs,y≠.agg cs)/\(∀ cs,y≠.tuple cs):=by
   constructor<;>(rintro cs rfl; simp[Sem.run] at hr)
  have eqn:∀ w:World,Sem.run X.P (.store .plain a y k) w=(match w.cell? a with
   | some _=>if w.frozen? a then .halt (.unsupported (.unsafePointer "a write to bytes that a string shares")) w else k.run X.P (w.setCell a y)
   | none=>match w.farStore X.P a y (Mode.plain==.atomic) with
    | .ok (w,_)=>k.run X.P w
    | .error h=>.halt h w):=by
   intro w;cases y<;>first | rfl | exact absurd rfl (hnot.1 _) | exact absurd rfl (hnot.2 _)
  rw[eqn] at hr;cases hc:w.cell? a with
  | none =>
   obtain⟨s,_,hs⟩:=wr.nocell h hc X.P false;rw[hc] at hr;simp only[show(Mode.plain==Mode.atomic)=false from rfl,hs] at hr;cases hr
  | some y0 =>
   rw[hc] at hr;simp only at hr;split at hr
   . cases hr
   rename_i hfz;obtain⟨o,o',h1,h2,ho⟩:=wr _ _ h.block;have hcells:∃ c t f c' g,o=.cells c t f/\o'=.cells c' t g/\PreR X.L r c c'/\∀ k,k<c.size->g.1<=k->k<g.2->f.1<=k/\k<f.2:=by
    unfold World.cell? at hc;rw[h1] at hc;cases ho with
    | @cells c c' t f g e hf=>exact⟨c,t,f,c',g,rfl,rfl,e,hf⟩
    | _=>simp at hc
   obtain⟨c,t,f,c',g,rfl,rfl,hcc,hfg⟩:=hcells;have hspot:a.spot.isSome=false:=by
    unfold World.cell? at hc;rw[h1] at hc;simp only at hc;cases hs:a.spot.isSome with
    | false=>rfl
    | true=>rw[hs] at hc; simp at hc
   obtain⟨n,e1,e2,e3⟩:=ih (w':=w'.setCell b y') ok (by simpa using g1) (by simpa using g2) (wr.put ok h.block (o:=.cells (c.setIfInBounds a.off y) t f) (o':=.cells (c'.setIfInBounds b.off y') t g)
    (fun k=>by rw[heap_setCell h1]; simp[hspot]) (fun k=>by rw[heap_setCell h2]; rw[h.spot] at hspot; simp[hspot])
    (.cells t (by rw[h.off]; exact hcc.set _ hv) (by simpa using hfg))) (tw.setCell a y) hr
   refine⟨n,e1,e2,fun sm=>?_⟩;rw[eqn,tw.cell,hc];simp only;rw[if_neg (by rw[tw.frozen]; exact hfz)];exact e3 sm
 | @new r o o' k k' h _ ih =>
  intro w w' u ok g1 g2 wr tw z v hr;simp only[Sem.run] at hr;obtain⟨ok2,wr2⟩:=wr.mono_add ok g1 g2 h;obtain⟨n,e1,e2,e3⟩:=ih _ w.heap.size w'.heap.size (fun _ _ x=>.inl x) ok2 (.inr ⟨rfl,rfl⟩) ok2 (by simp; omega) (by simp; omega) wr2 (u:={ u with heap:=u.heap.push o }) ⟨by show u.heap.push o=w.heap.push o; rw[tw.heap],tw.os,tw.out⟩ hr;exact⟨n,e1,e2,fun sm=>by simp only[Sem.run]; rw[show u.heap.size=w.heap.size by rw[tw.heap]]; exact e3 sm⟩
 | shape h _ ih =>
  intro w w' u ok g1 g2 wr tw z v hr;simp only[Sem.run] at hr;obtain⟨n,e1,e2,e3⟩:=ih _ _ (wr.shape h) ok g1 g2 wr tw hr;exact⟨n,e1,e2,fun sm=>by simp only[Sem.run,tw.shape]; exact e3 sm⟩
 | @getObj r i j k k' h _ ih =>
  intro w w' u ok g1 g2 wr tw z v hr;simp only[Sem.run] at hr;obtain⟨o,o',h1,h2,ho⟩:=wr _ _ h;rw[h1] at hr;have hn:(∀ c t f,o≠.cells c t f):=by rintro c t f rfl; cases hr
  have hr':(k o).run X.P w=.ok z v:=by cases o<;>first | exact hr | exact absurd rfl (hn _ _ _)
  obtain⟨n,e1,e2,e3⟩:=ih o o' ho ok g1 g2 wr tw hr';refine⟨n,e1,e2,fun sm=>?_⟩;simp only[Sem.run,tw.heap,h1];cases o<;>first | exact e3 sm | exact absurd rfl (hn _ _ _)
 | @setObj r i j o o' k k' h ho _ ih =>
  intro w w' u ok g1 g2 wr tw z v hr;simp only[Sem.run] at hr;obtain⟨p,p',h1,h2,hp⟩:=wr _ _ h;rw[h1] at hr;have hi:=wr.ltl h;have hj:=wr.lt h;have hn:(∀ c t f,p≠.cells c t f):=by rintro c t f rfl; cases hr
  have hr':k.run X.P { w with heap:=w.heap.setIfInBounds i o }=.ok z v:=by cases p<;>first | exact hr | exact absurd rfl (hn _ _ _)
  have hwr:WR X r { w with heap:=w.heap.setIfInBounds i o } { w' with heap:=w'.heap.setIfInBounds j o' }:=wr.put ok h
   (fun k=>by show(w.heap.setIfInBounds i o)[k]?=_; rw[Array.getElem?_setIfInBounds]; simp[hi]) (fun k=>by show(w'.heap.setIfInBounds j o')[k]?=_; rw[Array.getElem?_setIfInBounds]; simp[hj]) ho
  obtain⟨n,e1,e2,e3⟩:=ih ok (by simpa using g1) (by simpa using g2) hwr (u:={ u with heap:=u.heap.setIfInBounds i o }) ⟨by show u.heap.setIfInBounds i o=w.heap.setIfInBounds i o; rw[tw.heap],tw.os,tw.out⟩ hr';refine⟨n,e1,e2,fun sm=>?_⟩;simp only[Sem.run,show u.heap[i]?=some p by rw[tw.heap]; exact h1];cases p<;>first | exact e3 sm | exact absurd rfl (hn _ _ _)
 | @choose r k k' q _ ih =>
  intro w w' u ok g1 g2 wr tw z v hr;simp only[Sem.run] at hr;by_cases hq:q.forced=true
  . rw[if_pos hq] at hr;obtain⟨n,e1,e2,e3⟩:=ih _ ok g1 g2 wr tw hr;exact⟨n,e1,e2,fun sm=>by simp only[Sem.run,hq,if_true]; exact e3 sm⟩
  . rw[if_neg hq] at hr;obtain⟨n,e1,e2,e3⟩:=ih _ (w:={ w with drawn:=w.drawn+1 }) (w':=w') (u:={ u with drawn:=u.drawn+1 }) ok g1 g2 wr ⟨tw.heap,tw.os,tw.out⟩ hr;refine⟨n+1,by rw[e1]; show w.drawn+1+n=_; omega,e2,fun sm=>?_⟩;obtain⟨y,f1,f2,f3,f4⟩:=e3 fun i q hi=>by
     have:=sm (i+1) q (by omega)
     show u.tape (u.drawn+1+i) q=w.tape (w.drawn+1+i) q
     rw[Nat.add_assoc,Nat.add_comm 1 i,Nat.add_assoc,Nat.add_comm 1 i]; exact this
    refine⟨y,?_,f2,by rw[f3]; show u.drawn+1+n=_; omega,f4⟩;simp only[Sem.run,hq];rw[show u.tape u.drawn q=w.tape w.drawn q from sm 0 q (by omega)];exact f1
 | program _ ih =>
  intro w w' u ok g1 g2 wr tw z v hr;simp only[Sem.run] at hr;obtain⟨n,e1,e2,e3⟩:=ih ok g1 g2 wr tw hr;exact⟨n,e1,e2,fun sm=>by simp only[Sem.run]; exact e3 sm⟩
 | room _ ih =>
  intro w w' u ok g1 g2 wr tw z v hr;simp only[Sem.run] at hr;obtain⟨n,e1,e2,e3⟩:=ih ok g1 g2 wr tw hr;exact⟨n,e1,e2,fun sm=>by simp only[Sem.run]; exact e3 sm⟩
 | halt ht =>
  intro w w' u ok g1 g2 wr tw z v hr;simp[Sem.run] at hr
 | dead h =>
  intro w w' u ok g1 g2 wr tw z v hr;obtain⟨hh,_,e⟩:=h.run (P:=X.P) w;rw[e] at hr; cases hr
end
section
variable {X:Ctx} {r:Rho} {α β:Type} {R:Rho->α->α->Prop} {S:Rho->β->β->Prop}
abbrev Cq(X:Ctx):Rho->Value->Value->Prop:=fun s a b=>VR X.L s a b
abbrev Ub:Rho->Addr->Addr->Prop:=fun s a b=>AR s a b
abbrev Uu(X:Ctx):Rho->Array Value->Array Value->Prop:=fun s a b=>ArrR X.L s a b
theorem Ag{s:String}{y:Sem α}:SemR X R r (stuck s) y:=.halt (.stuck s)
theorem Bv{f f':Program->Sem β}(h:SemR X S r (f X.P) (f' X.P)):SemR X S r (program >>= f) (program >>= f'):=.program h
theorem SemR.andThen{x x':Sem α}{f f':α->Sem β}(ok:X.Ok r)(h:SemR X Cz r x x')(hf:∀ s a,r.le s->X.Ok s->SemR X S s (f a) (f' a)):SemR X S r (x >>= f) (x' >>= f') :=
 h.bind ok fun s a b hs hok e=>by subst e; exact hf s a hs hok
theorem A7(t:TypeId):SemR X (fun _ a b=>a=b/\X.P.info? t=some a) r (typeInfo t) (typeInfo t):=by
 unfold typeInfo;refine Bv ?_;cases h:X.P.info? t with
 | none=>exact Ag
 | some i=>exact .ret ⟨rfl,rfl⟩
theorem Ak(t:TypeId):SemR X (fun _ a b=>a=b/\X.P.underlying t=some a) r (underlying t) (underlying t):=by
 unfold underlying;refine Bv ?_;cases h:X.P.underlying t with
 | none=>exact Ag
 | some i=>exact .ret ⟨rfl,rfl⟩
theorem Bl(ok:X.Ok r)(t:TypeId):SemR X (fun _ a b=>a=b/\∃ i,X.P.info? t=some i/\a=i.size) r (sizeOf t) (sizeOf t):=by
 unfold sizeOf;refine(A7 t).bind ok ?_;rintro s a b _ _ ⟨rfl,h⟩;exact .ret ⟨rfl,a,h,rfl⟩
theorem Jn(ok:X.Ok r)(t:TypeId):SemR X Cz r (isAgg t) (isAgg t):=by
 unfold isAgg;refine(Ak t).bind ok ?_;rintro s a b _ _ ⟨rfl,h⟩;cases a<;>exact .ret rfl
def Cs(X:Ctx)(t:TypeId):Prop:=∀ i v,X.P.info? t=some i->i.zero=some v->Plain v
theorem BV(ok:X.Ok r){t:TypeId}(hz:Cs X t):SemR X (fun s a b=>a=b/\Plain a) r (zeroValue t) (zeroValue t):=by
 unfold zeroValue;refine(A7 t).bind ok ?_;rintro s a b _ _ ⟨rfl,h⟩;cases hv:a.zero with
 | none=>exact .halt (.limit _)
 | some v=>exact .ret ⟨rfl,hz a v h hv⟩
theorem KT{a b:Addr}(h:AR r a b):SemR X (Cq X) r (load a) (load b):=.load .plain rfl h fun v v' hv=>.pure hv
theorem Oc{a b:Addr}{v v':Value}(h:AR r a b)(hv:VR X.L r v v'):SemR X Cz r (store a v) (store b v'):=.store .plain rfl h hv (.pure rfl)
theorem FP{o o':Obj}(h:OR X.L X.C r o o'):SemR X (fun s i j=>s i j) r (newObj o) (newObj o'):=.new h fun s i j _ _ k=>.pure k
theorem DU{i j:Nat}(h:r i j):SemR X (fun _ x y=>ShR x y) r (shape i) (shape j):=.shape h fun x y hxy=>.pure hxy
theorem Ct{i j:Nat}(h:r i j):SemR X (fun s o o'=>OR X.L X.C s o o') r (getObj i) (getObj j):=.getObj h fun o o' k=>.pure k
theorem CM{i j:Nat}{o o':Obj}(h:r i j)(ho:OR X.L X.C r o o'):SemR X Cz r (setObj i o) (setObj j o'):=.setObj h ho (.pure rfl)
theorem CN(q:Question):SemR X Cz r (choose q) (choose q):=.choose q fun n=>.pure rfl
theorem GX(n:Nat):SemR X Cz r (askRoom n) (askRoom n):=by
 unfold askRoom;split
 . exact .room (.pure rfl)
 . exact .ret rfl
theorem AR.add{a b:Addr}(h:AR r a b)(n:Nat):AR r (a.add n) (b.add n):=by
 unfold Addr.add;split
 . exact h
 . exact⟨h.block,by show a.off+n=b.off+n; rw[h.off],rfl⟩
theorem FQ(n:Nat):∀{r:Rho} (ok:X.Ok r) {a b:Addr} (h:AR r a b) (i:Nat) {c d:Array Value} (hc:ArrR X.L r c d),SemR X (Uu X) r (loadCellsFrom a i n c) (loadCellsFrom b i n d):=by
 induction n with
 | zero=>intro r ok a b h i c d hc; exact .ret hc
 | succ n ih =>
  intro r ok a b h i c d hc;unfold loadCellsFrom;refine(KT (h.add i)).bind ok fun s v v' hs hok hv=>?_;exact ih hok (h.mono hs) (i+1) ((hc.mono hs).push hv)
theorem E8(ok:X.Ok r){a b:Addr}(h:AR r a b)(n:Nat):SemR X (Uu X) r (loadCells a n) (loadCells b n):=FQ n ok h 0 .nil
theorem Et:∀{r:Rho} {vs vs':List Value} (ok:X.Ok r) {a b:Addr} (h:AR r a b) (i:Nat) (hv:LsR X.L r vs vs'),SemR X Cz r (storeCells a vs i) (storeCells b vs' i):=by
 intro r vs
 induction vs generalizing r with
 | nil=>intro vs' ok a b h i hv; cases hv; exact .ret rfl
 | cons v vs ih =>
  intro vs' ok a b h i hv;cases hv with
  | cons hx hk =>
   unfold storeCells;refine(Oc (h.add i) hx).andThen ok fun s _ hs hok=>?_;exact ih hok (h.mono hs) (i+1) (by
    clear ih
    induction hk with
    | nil=>exact .nil
    | cons h k ih=>exact .cons (h.mono hs) ih)
theorem CV(ok:X.Ok r)(t:TypeId){a b:Addr}(h:AR r a b):SemR X (Cq X) r (loadVar t a) (loadVar t b):=by
 unfold loadVar;refine(Jn ok t).andThen ok fun s x hs hok=>?_;cases x with
 | false=>exact KT (h.mono hs)
 | true =>
  refine(Bl hok t).bind hok ?_;rintro s' n _ hs' hok' ⟨rfl,_⟩;refine(E8 hok' ((h.mono hs).mono hs') n).bind hok' fun s'' c d hs'' hok'' hc=>?_;exact .ret hc.agg
theorem JV(ok:X.Ok r)(t:TypeId){a b:Addr}(h:AR r a b){v v':Value}(hv:VR X.L r v v'):SemR X Cz r (storeVar t a v) (storeVar t b v'):=by
 unfold storeVar;refine(Bl ok t).bind ok ?_;rintro s n _ hs hok ⟨rfl,_⟩;have e:v.cells.size=v'.cells.size:=hv.cells.1;rw[e];split
 . exact Ag
 . exact Et hok (h.mono hs) 0 ((hv.mono hs).cells.toList)
theorem Eg(ok:X.Ok r)(t:TypeId){c d:Array Value}(h:ArrR X.L r c d):SemR X Ub r (newRow t c) (newRow t d):=by
 unfold newRow;refine(FP (.cells t h.pre (fun k hk a b=>by omega))).bind ok fun s i j _ _ k=>?_;exact .ret ⟨k,rfl,rfl⟩
theorem Ic(ok:X.Ok r)(t:TypeId){v v':Value}(h:VR X.L r v v'):SemR X Ub r (newVar t v) (newVar t v'):=Eg ok t h.cells
theorem Eu(ok:X.Ok r)(t:TypeId){c d:Array Value}(h:ArrR X.L r c d)(off:Nat):SemR X (Cq X) r (part t c off) (part t d off):=by
 unfold part;refine(Jn ok t).andThen ok fun s x hs hok=>?_;cases x with
 | true =>
  refine(Bl hok t).bind hok ?_;rintro s' n _ hs' hok' ⟨rfl,_⟩;exact .ret ((((h.mono hs).mono hs').extract _ _).agg)
 | false =>
  simp only[Bool.false_eq_true,if_false];cases hc:c[off]? with
  | none=>exact Ag
  | some v =>
   obtain⟨v',hd,hv⟩:=(h.mono hs).get? hc;rw[hd];exact .ret hv
theorem EV{v v':Value}(h:VR X.L r v v'):SemR X Cz r (asIntOf v) (asIntOf v'):=by
 cases h with
 | int k n=>exact .ret rfl
 | ptr h=>exact .halt .observed
 | _=>exact Ag
theorem Fp(ok:X.Ok r){v v':Value}(h:VR X.L r v v'):SemR X Cz r (asInt v) (asInt v'):=by
 unfold asInt;exact(EV h).andThen ok fun _ _ _ _=>.ret rfl
theorem L9{v v':Value}(h:VR X.L r v v'):SemR X Cz r (asBool v) (asBool v'):=by
 cases h with
 | bool b=>exact .ret rfl
 | _=>exact Ag
theorem Od{v v':Value}(h:VR X.L r v v'):SemR X (Uu X) r (asAgg v) (asAgg v'):=by
 cases h with
 | agg ha ka=>exact .ret ⟨ha,ka⟩
 | _=>exact Ag
theorem A9{e:RuntimeError}(he:(∃ m,e=.error m)\/(∃ m,e=.plain m)\/e=.nilDeref\/∃ x y s c,e=.bounds x y s c):SemR X R r (runtimePanic e) (runtimePanic e):=by
 unfold runtimePanic;refine Bv ?_;rcases he with⟨m,rfl⟩ | ⟨m,rfl⟩ | rfl | ⟨x,y,s,c,rfl⟩<;>exact .halt (.panic _)
theorem Fq{e:RuntimeError}(he:(∃ m,e=.error m)\/(∃ m,e=.plain m)\/e=.nilDeref\/∃ x y s c,e=.bounds x y s c):Dead X.P (runtimePanic e:Sem α):=by
 unfold runtimePanic;refine .program ?_;rcases he with⟨m,rfl⟩ | ⟨m,rfl⟩ | rfl | ⟨x,y,s,c,rfl⟩<;>exact .halt (.panic _)
theorem Dk(ok:X.Ok r)(k:IntKind)(x y:Int)(c:BoundsCode):SemR X R r (boundsPanic k x y c) (boundsPanic k x y c):=by
 unfold boundsPanic;dsimp only;split
 . refine SemR.andThen (x:=Functor.map (·==1) (choose _)) ok ?_ fun s b _ _=>A9 (.inr (.inr (.inr ⟨_,_,_,_,rfl⟩)));exact SemR.andThen (x:=choose _) (f:=fun n=>pure (n==1)) (f':=fun n=>pure (n==1)) ok (CN _) fun s n _ _=>.ret rfl
 . exact SemR.andThen (x:=pure _) (x':=pure _) ok (.ret rfl) fun s b _ _=>A9 (.inr (.inr (.inr ⟨_,_,_,_,rfl⟩)))
theorem CB{v v':Value}(h:VR X.L r v v'):SemR X Ub r (Instr.sureAddr v) (Instr.sureAddr v'):=by
 cases h with
 | ptr h=>exact .ret h
 | _=>exact Ag
theorem Dm{v v':Value}(h:VR X.L r v v'):SemR X Ub r (asAddr v) (asAddr v'):=by
 cases h with
 | ptr h=>exact .ret h
 | pnil=>exact A9 (.inr (.inr (.inl rfl)))
 | _=>exact Ag
end
def JW:Value->Bool
 | .bool _ | .int _ _ | .string _ | .pointer none | .slice none _ _ | .map none | .chan none | .nilIface=>true
 | _=>false
theorem Gz{v:Value}(h:JW v=true):Plain v:=by
 cases v with
 | bool b=>exact .bool b
 | int k n=>exact .int k n
 | string s=>exact .string s
 | pointer a=>cases a with | none=>exact .pnil | some a=>cases h
 | slice a n c=>cases a with | none=>exact .snil n c | some a=>cases h
 | map a=>cases a with | none=>exact .mnil | some a=>cases h
 | chan a=>cases a with | none=>exact .chan none | some a=>cases h
 | nilIface=>exact .nilIface
 | _=>cases h
def KU:Value->Bool
 | .agg cs=>cs.all JW
 | .tuple cs=>cs.size != 0&&cs.all JW
 | v=>JW v
theorem KV{v:Value}(h:KU v=true):Plain v:=by
 cases v with
 | agg cs=>exact .agg fun x hx=>Gz (by
  rw[KU,Array.all_eq_true_iff_forall_mem] at h;exact h x hx)
 | tuple cs =>
  rw[KU,Bool.and_eq_true,Array.all_eq_true_iff_forall_mem] at h;exact .tuple (by simpa using h.1) fun x hx=>Gz (h.2 x hx)
 | _=>exact Gz h
section
variable {X:Ctx} {r:Rho}
theorem Ng{α β:Type}{R:Rho->α->α->Prop}{S:Rho->β->β->Prop}(ok:X.Ok r){x x':Sem α}{f f':α->β}(h:SemR X R r x x')(hf:∀ s a b,r.le s->R s a b->S s (f a) (f' b)):SemR X S r (Functor.map f x) (Functor.map f' x') :=
 SemR.bind (f:=fun a=>pure (f a)) (f':=fun a=>pure (f' a)) ok h fun s a b hs _ k=>.ret (hf s a b hs k)
theorem JX(ok:X.Ok r){x x':Sem Addr}(h:SemR X Ub r x x'):SemR X (Cq X) r (do pure (.pointer (some (<- x)))) (do pure (.pointer (some (<- x')))) :=
 h.bind ok fun s a b _ _ k=>.ret (.ptr k)
theorem Oe(ok:X.Ok r){t:TypeId}(hz:Cs X t):SemR X (Cq X) r (Instr.alloc t true (.tuple #[])) (Instr.alloc t true (.tuple #[])):=by
 unfold Instr.alloc;refine(BV ok hz).bind ok ?_;rintro s v _ hs hok ⟨rfl,hp⟩;exact JX hok (Ic hok t hp.rel)
theorem RF(ok:X.Ok r)(t:TypeId){v v':Value}(h:VR X.L r v v'):SemR X (Cq X) r (Instr.box t v) (Instr.box t v'):=JX ok (Ic ok t h)
theorem Ma(ok:X.Ok r)(t:TypeId){v v':Value}(h:VR X.L r v v'):SemR X (Cq X) r (Instr.loadAt t v) (Instr.loadAt t v') :=
 (CB h).bind ok fun s a b _ hok k=>CV hok t k
theorem KW(ok:X.Ok r)(t:TypeId){v v' u u':Value}(h:VR X.L r v v')(k:VR X.L r u u'):SemR X Cz r (Instr.storeAt t v u) (Instr.storeAt t v' u') :=
 (CB h).bind ok fun s a b hs hok j=>JV hok t j (k.mono hs)
theorem KX(ok:X.Ok r)(t:TypeId){v v' u u':Value}(h:VR X.L r v v')(k:VR X.L r u u'):SemR X (Cq X) r (Instr.indexAt t v u) (Instr.indexAt t v' u'):=by
 unfold Instr.indexAt;refine(EV k).andThen ok ?_;rintro s ⟨kk,i⟩ hs hok;dsimp only;refine(Ak t).bind hok ?_;rintro s2 d _ hs2 hok2 ⟨rfl,hd⟩;have h2:=(h.mono hs).mono hs2;have tail:∀{s3:Rho} (base base':Option Addr) (len:Nat) (elem:TypeId),X.Ok s3->(base=none/\base'=none\/∃ a b,base=some a/\base'=some b/\AR s3 a b) ->
  SemR X (Cq X) s3
   (do
    let tiny:=len<=1&&(match <- underlying t with | .array ..=>true | _=>false)
    match base with
    | some a =>
     if 0<=i/\i<len then pure (.pointer (some (a.add (i.toNat*(<- sizeOf elem)))))
     else if tiny then unsupported (.noEntry "op/indexAddr.an index out of range at an array of length 0 or 1 (ledger 616)")
     else boundsPanic kk i len .index
    | none=>boundsPanic kk i 0 .index)
   (do
    let tiny:=len<=1&&(match <- underlying t with | .array ..=>true | _=>false)
    match base' with
    | some a =>
     if 0<=i/\i<len then pure (.pointer (some (a.add (i.toNat*(<- sizeOf elem)))))
     else if tiny then unsupported (.noEntry "op/indexAddr.an index out of range at an array of length 0 or 1 (ledger 616)")
     else boundsPanic kk i len .index
    | none=>boundsPanic kk i 0 .index):=by
  intro s3 base base' len elem ok3 hb;refine(Ak t).bind ok3 ?_;rintro s4 d' _ hs4 hok4 ⟨rfl,_⟩;dsimp only;rcases hb with⟨rfl,rfl⟩ | ⟨a,b,rfl,rfl,hab⟩
  . exact Dk hok4 _ _ _ _
  . dsimp only;split
    . refine(Bl hok4 elem).bind hok4 ?_;rintro s5 n _ hs5 hok5 ⟨rfl,_⟩;exact .ret (.ptr (((hab.mono hs4).mono hs5).add _))
    . repeat' split
      all_goals first
       | exact .halt (.noEntry _)
       | exact Dk hok4 _ _ _ _
 cases d with
 | array len elem =>
  refine(CB h2).bind hok2 fun s3 a b hs3 hok3 j=>?_;exact tail (some a) (some b) len elem hok3 (.inr ⟨a,b,rfl,rfl,j⟩)
 | slice elem =>
  cases h2 with
  | snil n c=>exact tail none none n elem hok2 (.inl ⟨rfl,rfl⟩)
  | @slice a b n c j=>exact tail (some a) (some b) n elem hok2 (.inr ⟨a,b,rfl,rfl,j⟩)
  | _=>exact Ag
 | _=>exact Ag
theorem Of(ok:X.Ok r)(t:TypeId){v v' u u':Value}(h:VR X.L r v v')(k:VR X.L r u u'):SemR X (Cq X) r (Instr.index t v u) (Instr.index t v' u'):=by
 unfold Instr.index;refine(EV k).andThen ok ?_;rintro s ⟨kk,i⟩ hs hok;dsimp only;refine(Ak t).bind hok ?_;rintro s2 d _ hs2 hok2 ⟨rfl,hd⟩;have h2:=(h.mono hs).mono hs2;cases d with
 | array len elem =>
  cases h2 with
  | agg ha ka =>
   dsimp only;split
   . refine(Bl hok2 elem).bind hok2 ?_;rintro s5 n _ hs5 hok5 ⟨rfl,_⟩;exact Eu hok5 elem (ArrR.mono ⟨ha,ka⟩ hs5) _
   . exact Dk hok2 _ _ _ _
  | _=>exact Ag
 | string =>
  cases h2 with
  | string b =>
   dsimp only;split
   . exact .ret (.int _ _)
   . exact Dk hok2 _ _ _ _
  | _=>exact Ag
 | _=>cases h2<;>exact Ag
theorem KY{v v':Value}(h:VR X.L r v v')(n:Nat):SemR X (Cq X) r (Instr.extract v n) (Instr.extract v' n):=by
 unfold Instr.extract;cases h with
 | @tuple a b ha ka =>
  dsimp only;cases hx:a[n]? with
  | none=>exact Ag
  | some x =>
   obtain⟨y,hy,hv⟩:=ArrR.get? ⟨ha,ka⟩ hx;rw[hy];exact .ret hv
 | _=>exact Ag
theorem Og(ok:X.Ok r)(t:TypeId){v v':Value}(h:VR X.L r v v')(n:Nat):SemR X (Cq X) r (Instr.field t v n) (Instr.field t v' n):=by
 unfold Instr.field;refine(Ak t).bind ok ?_;rintro s d _ hs hok ⟨rfl,hd⟩;cases d with
 | struct fs =>
  dsimp only;cases hf:fs[n]? with
  | none=>exact Ag
  | some f =>
   refine(Od (h.mono hs)).bind hok fun s' a b hs' hok' k=>?_;exact Eu hok' _ k _
 | _=>exact Ag
theorem FR(ok:X.Ok r)(t:TypeId)(ht:X.L.t t){v v':Value}(h:VR X.L r v v'):SemR X (Cq X) r (Instr.makeInterface t v) (Instr.makeInterface t v'):=by
 unfold Instr.makeInterface;refine(Ak t).bind ok ?_;rintro s d _ hs hok ⟨rfl,hd⟩;cases d<;>first | exact Ag | exact .ret (.iface t ht (h.mono hs))
theorem Ie(ok:X.Ok r)(xt:TypeId){t:TypeId}(hz:Cs X t){v v':Value}(h:VR X.L r v v'):SemR X (Cq X) r (Instr.typeAssert v xt t true) (Instr.typeAssert v' xt t true):=by
 unfold Instr.typeAssert;dsimp only;refine(Ak t).bind ok ?_;rintro s d _ hs hok ⟨rfl,hd⟩;have fails:∀{s:Rho},X.Ok s->SemR X (Cq X) s (do pure (.tuple #[<- zeroValue t,.bool false])) (do pure (.tuple #[<- zeroValue t,.bool false])):=by
  intro s hok;refine(BV hok hz).bind hok ?_;rintro s' u _ _ _ ⟨rfl,hp⟩;exact .ret ((ArrR.one hp.rel).push (.bool false)).tuple
 have h2:=h.mono hs;cases d with
 | interface want =>
  cases h2 with
  | nilIface=>exact fails hok
  | @iface u hu a b hab =>
   dsimp only;refine(A7 u).bind hok ?_;rintro s2 i _ hs2 hok2 ⟨rfl,_⟩;cases Instr.missingMethod want i.methods with
   | none=>exact .ret ((ArrR.one (.iface u hu (hab.mono hs2))).push (.bool true)).tuple
   | some m=>exact fails hok2
  | _=>exact Ag
 | _ =>
  cases h2 with
  | nilIface=>exact fails hok
  | @iface u hu a b hab =>
   dsimp only;split
   . exact .ret ((ArrR.one hab).push (.bool true)).tuple
   . exact fails hok
  | _=>exact Ag
theorem JY{f:FuncId}(hf:X.L f){a b c d:Array Value}(h:ArrR X.L r a b)(k:ArrR X.L r c d):SemR X (Cq X) r (Instr.makeFunc (.func f) a c) (Instr.makeFunc (.func f) b d) :=
 .ret (.func (.func f hf) h.1 h.2 k.1 k.2)
theorem RG(ok:X.Ok r)(ts:Array TypeId)(hts:∀ t d e,ts[0]?=some t->X.P.underlying t≠some (.chan d e))(t:TypeId){a b:Array Value}(h:ArrR X.L r a b):SemR X (Cq X) r (Builtin.len_ ts t a) (Builtin.len_ ts t b):=by
 unfold Builtin.len_;cases ht:ts[0]? with
 | none=>exact Ag
 | some t0 =>
  cases ha:a[0]? with
  | none=>exact Ag
  | some v =>
   obtain⟨v',hb,hv⟩:=h.get? ha;rw[hb];dsimp only;refine(Ak t0).bind ok ?_;rintro s d _ hs hok ⟨rfl,hd⟩;have h2:=hv.mono hs;cases d with
   | string=>cases h2<;>first | exact Ag | exact .ret (.int _ _)
   | array n e=>exact .ret (.int _ _)
   | pointer e =>
    dsimp only;refine(Ak e).bind hok ?_;rintro s2 d2 _ hs2 hok2 ⟨rfl,_⟩;cases d2<;>first | exact Ag | exact .ret (.int _ _)
   | slice e=>cases h2<;>first | exact Ag | exact .ret (.int _ _)
   | map k e =>
    cases h2 with
    | mnil=>exact .ret (.int _ _)
    | map hij =>
     dsimp only;refine(Ct hij).bind hok fun s2 o o' hs2 hok2 ho=>?_;cases ho with
     | map c hsz hk=>dsimp only; rw[hsz]; exact .ret (.int _ _)
     | _=>exact Ag
    | _=>exact Ag
   | chan dd e=>exact absurd hd (hts t0 dd e ht)
   | _=>cases h2<;>exact Ag
end
section
variable {X:Ctx} {r:Rho}
inductive PsR(L:Good)(r:Rho):List (Nat × Value)->List (Nat × Value)->Prop
 | nil:PsR L r [] []
 | cons {i:Nat} {x y:Value} {a b:List (Nat × Value)} (h:VR L r x y) (k:PsR L r a b):PsR L r ((i,x)::a) ((i,y)::b)
theorem PsR.of(f g:Operand->Value)(h:∀ x:Operand,VR X.L r (f x) (g x)):∀ ps:List (Nat × Operand),PsR X.L r (ps.map fun(i,x)=>(i,f x)) (ps.map fun(i,x)=>(i,g x))
 | []=>.nil
 | (i,x)::ps=>.cons (h x) (PsR.of f g h ps)
theorem PsR.mono{s:Rho}{a b:List (Nat × Value)}(h:PsR X.L r a b)(k:r.le s):PsR X.L s a b:=by
 induction h with
 | nil=>exact .nil
 | cons h _ ih=>exact .cons (h.mono k) ih
theorem foldl_set{off:Nat}:∀{a b:List Value} (h:LsR X.L r a b) (j:Nat) {c d:Array Value} (k:ArrR X.L r c d),ArrR X.L r ((a.zipIdx j).foldl (fun cs (c,j)=>cs.setIfInBounds (off+j) c) c) ((b.zipIdx j).foldl (fun cs (c,j)=>cs.setIfInBounds (off+j) c) d):=by
 intro a b h
 induction h with
 | nil=>intro j c d k; exact k
 | cons h _ ih=>intro j c d k; exact ih (j+1) (k.set _ h)
theorem Ig(place:Nat->Option (Nat × Nat)):∀{a b:List (Nat × Value)} (h:PsR X.L r a b) {c d:Array Value} (k:ArrR X.L r c d),
 (Instr.fill place c a=none/\Instr.fill place d b=none)\/∃ x y,Instr.fill place c a=some x/\Instr.fill place d b=some y/\ArrR X.L r x y:=by
 intro a b h
 induction h with
 | nil=>intro c d k; exact .inr ⟨c,d,rfl,rfl,k⟩
 | @cons i x y a b h _ ih =>
  intro c d k;unfold Instr.fill;cases hp:place i with
  | none=>exact .inl ⟨rfl,rfl⟩
  | some q =>
   obtain⟨off,size⟩:=q;dsimp only;have e:x.cells.size=y.cells.size:=h.cells.1;rw[<- e,<- k.1];split
   . exact .inl ⟨rfl,rfl⟩
   . refine ih ?_;have:=foldl_set (off:=off) h.cells.toList 0 k;simp only[<- Array.toList_zipIdx,Array.foldl_toList] at this;exact this
theorem JZ{α β:Type}(ok:X.Ok r)(f:α->Sem β)(hf:∀{s:Rho},X.Ok s->∀ x,SemR X Cz s (f x) (f x)):∀ xs:List α,∀{r:Rho},X.Ok r->SemR X Cz r (xs.mapM f) (xs.mapM f):=by
 intro xs
 induction xs with
 | nil=>intro r ok; exact .ret rfl
 | cons x xs ih =>
  intro r ok;rw[List.mapM_cons];refine(hf ok x).andThen ok fun s y _ hok=>?_;refine(ih hok).andThen hok fun s2 ys _ hok2=>?_;exact .ret rfl
theorem PX{α β:Type}(ok:X.Ok r)(f:α->Sem β)(hf:∀{s:Rho},X.Ok s->∀ x,SemR X Cz s (f x) (f x))(xs:Array α):SemR X Cz r (xs.mapM f) (xs.mapM f):=by
 rw[Array.mapM_eq_mapM_toList];exact Ng ok (JZ ok f hf xs.toList ok) fun s a b _ e=>by rw[e]
theorem Oh(ok:X.Ok r){t:TypeId}(hz:Cs X t){a b:Array (Nat × Value)}(h:PsR X.L r a.toList b.toList):SemR X (Cq X) r (Instr.build t a) (Instr.build t b):=by
 unfold Instr.build;refine(BV ok hz).bind ok ?_;rintro s v _ hs hok ⟨rfl,hp⟩;dsimp only;refine(Ak t).bind hok ?_;rintro s2 d _ hs2 hok2 ⟨rfl,hd⟩;cases d with
 | struct fs =>
  dsimp only;refine(PX hok2 _ (fun hok3 f=>?_) fs).andThen hok2 fun s3 places hs3 hok3=>?_
  . refine(Bl hok3 f.type).bind hok3 ?_;rintro s4 n _ _ _ ⟨rfl,_⟩;exact .ret rfl
  . rcases Ig (X:=X) (fun i=>places[i]?) (((h.mono hs).mono hs2).mono hs3) (hp.rel (L:=X.L) (r:=s3)).cells with⟨e1,e2⟩ | ⟨x,y,e1,e2,hxy⟩
    . rw[e1,e2]; exact Ag
    . rw[e1,e2]; exact .ret hxy.agg
 | array n e =>
  dsimp only;refine(Bl hok2 e).bind hok2 ?_;rintro s3 m _ hs3 hok3 ⟨rfl,_⟩;rcases Ig (X:=X) (fun i=>some (i*m,m)) (((h.mono hs).mono hs2).mono hs3) (hp.rel (L:=X.L) (r:=s3)).cells with⟨e1,e2⟩ | ⟨x,y,e1,e2,hxy⟩
  . rw[e1,e2]; exact Ag
  . rw[e1,e2]; exact .ret hxy.agg
 | _=>exact Ag
theorem Oi(op:UnOp){v v':Value}(h:VR X.L r v v'):SemR X (Cq X) r (Op.unary op v) (Op.unary op v'):=by
 unfold Op.unary;cases op<;>cases h<;>first
  | exact Ag
  | exact .halt .observed
  | exact .ret (.bool _)
  | exact .ret (.int _ _)
theorem PY{v v' u u':Value}(h:VR X.L r v v')(k:VR X.L r u u'):SemR X (Cq X) r (Builtin.min2 v u) (Builtin.min2 v' u'):=by
 unfold Builtin.min2;cases h<;>cases k<;>first
  | exact Ag
  | exact .halt .observed
  | exact .ret (.int _ _)
  | exact .ret (.string _)
theorem PZ{v v' u u':Value}(h:VR X.L r v v')(k:VR X.L r u u'):SemR X (Cq X) r (Builtin.max2 v u) (Builtin.max2 v' u'):=by
 unfold Builtin.max2;cases h<;>cases k<;>first
  | exact Ag
  | exact .halt .observed
  | exact .ret (.int _ _)
  | exact .ret (.string _)
theorem Ih{f:Value->Value->Sem Value}(hf:∀{s:Rho},X.Ok s->∀{v v' u u':Value},VR X.L s v v'->VR X.L s u u'->SemR X (Cq X) s (f v u) (f v' u')){a b:List Value}:∀{r:Rho},X.Ok r->LsR X.L r a b->∀{v v':Value},VR X.L r v v'->SemR X (Cq X) r (a.foldlM f v) (b.foldlM f v'):=by
 induction a generalizing b with
 | nil=>intro r ok h v v' hv; cases h; exact .ret hv
 | cons x a ih =>
  intro r ok h v v' hv;cases h with
  | cons hx hk =>
   rw[List.foldlM_cons,List.foldlM_cons];refine(hf ok hv hx).bind ok fun s y y' hs hok hy=>?_;refine ih hok ?_ hy;clear ih
   induction hk with
   | nil=>exact .nil
   | cons h k ih=>exact .cons (h.mono hs) ih
theorem RH(ok:X.Ok r)(ts:Array TypeId)(t:TypeId){a b:Array Value}(h:ArrR X.L r a b):SemR X (Cq X) r (Builtin.min_ ts t a) (Builtin.min_ ts t b):=by
 unfold Builtin.min_;have hl:=h.toList
 revert hl
 generalize a.toList=l;generalize b.toList=m;intro hl;cases hl with
 | nil=>exact Ag
 | cons h k=>exact Ih (fun _ _ _ _ _ h k=>PY h k) ok k h
theorem RI(ok:X.Ok r)(ts:Array TypeId)(t:TypeId){a b:Array Value}(h:ArrR X.L r a b):SemR X (Cq X) r (Builtin.max_ ts t a) (Builtin.max_ ts t b):=by
 unfold Builtin.max_;have hl:=h.toList
 revert hl
 generalize a.toList=l;generalize b.toList=m;intro hl;cases hl with
 | nil=>exact Ag
 | cons h k=>exact Ih (fun _ _ _ _ _ h k=>PZ h k) ok k h
theorem Ii(ok:X.Ok r){i j:Nat}(h:r i j):SemR X Cz r (viewAt i) (viewAt j):=by
 unfold viewAt;refine(DU h).bind ok fun s x y hs hok hxy=>?_;rcases hxy with⟨rfl,rfl⟩ | ⟨t,n,m,rfl,rfl,_⟩
 . refine(Ct (hs _ _ h)).bind hok fun s2 o o' _ _ ho=>?_;cases ho<;>exact .ret rfl
 . exact .ret rfl
theorem Mb(ok:X.Ok r){a b:Addr}(h:AR r a b):SemR X Cz r (noView a) (noView b):=by
 unfold noView;refine(Ii ok h.block).andThen ok fun s x hs hok=>?_;split
 . exact .halt (.unsafePointer _)
 . exact .ret rfl
theorem Ci(ok:X.Ok r){a b:Addr}(h:AR r a b):SemR X Cz r (byteOf a) (byteOf b):=by
 unfold byteOf;have hs:=h.spot;cases ha:a.spot with
 | some y =>
  rw[ha] at hs;rw[<- hs]; exact .ret rfl
 | none =>
  rw[ha] at hs;rw[<- hs];refine Bv ?_;refine(Mb ok h).andThen ok fun s _ hs2 hok=>?_;refine(DU (h.mono hs2).block).bind hok fun s3 x y hs3 hok3 hxy=>?_;rcases hxy with⟨rfl,rfl⟩ | ⟨e,n,m,rfl,rfl,_⟩
  . exact Ag
  . dsimp only;rw[<- h.off];split
    . exact .ret rfl
    . split
      . exact .ret rfl
      . exact Ag
theorem Dn(ok:X.Ok r){a b:Addr}(h:AR r a b)(f:Field):SemR X Ub r (fieldPlace a f) (fieldPlace b f):=by
 unfold fieldPlace;refine(Bl ok f.type).bind ok ?_;rintro s n _ hs hok ⟨rfl,_⟩;have h1:=h.mono hs;split
 . unfold partAt;refine(Ci hok h1).andThen hok fun s2 x hs2 hok2=>?_;dsimp only;have h2:AR s2 { block:=a.block,off:=a.off+f.offset } { block:=b.block,off:=b.off+f.offset }:=⟨(h1.mono hs2).block,by show a.off+_=b.off+_; rw[h.off],rfl⟩;refine(Ci hok2 h2).andThen hok2 fun s3 y hs3 hok3=>?_;have h3:=h2.mono hs3;refine .ret ?_;split
   . exact h3
   . exact⟨h3.block,h3.off,rfl⟩
 . exact .ret (h1.add _)
theorem KZ(ok:X.Ok r)(t:TypeId){v v':Value}(h:VR X.L r v v')(n:Nat):SemR X (Cq X) r (Instr.fieldAt t v n) (Instr.fieldAt t v' n):=by
 unfold Instr.fieldAt;refine(Ak t).bind ok ?_;rintro s d _ hs hok ⟨rfl,hd⟩;cases d with
 | struct fs =>
  dsimp only;cases hf:fs[n]? with
  | none=>exact Ag
  | some f =>
   refine(CB (h.mono hs)).bind hok fun s' a b hs' hok' k=>?_;exact JX hok' (Dn hok' k f)
 | _=>exact Ag
end
section
variable {X:Ctx} {r:Rho}
inductive PlR(L:Good)(r:Rho):Place->Place->Prop
 | val {v v':Value} (h:VR L r v v'):PlR L r (.val v) (.val v')
 | var {a b:Addr} (h:AR r a b):PlR L r (.var a) (.var b)
theorem PlR.mono{s:Rho}{p q:Place}(h:PlR X.L r p q)(k:r.le s):PlR X.L s p q:=by
 cases h with
 | val h=>exact .val (h.mono k)
 | var h=>exact .var (h.mono k)
theorem FT(ok:X.Ok r)(t:TypeId){p q:Place}(h:PlR X.L r p q):SemR X (Cq X) r (p.get t) (q.get t):=by
 cases h with
 | val h=>exact .ret h
 | var h=>exact CV ok t h
theorem Eh:∀(path:List FieldStep) {r:Rho},X.Ok r->∀(t:TypeId) {p q:Place},PlR X.L r p q->SemR X (fun s a b=>a.1=b.1/\PlR X.L s a.2 b.2) r (follow path t p) (follow path t q)
 | [],r,ok,t,p,q,h=>.ret ⟨rfl,h⟩
 | st::rest,r,ok,t,p,q,h=>by
  unfold follow;refine(Ak st.struct).bind ok ?_;rintro s d _ hs hok ⟨rfl,hd⟩;cases d with
  | struct fs =>
   dsimp only;cases hf:fs[st.index]? with
   | none=>exact Ag
   | some f =>
    dsimp only;split
    . refine(FT hok t (h.mono hs)).bind hok fun s2 v v' hs2 hok2 hv=>?_;refine(Dm hv).bind hok2 fun s3 a b hs3 hok3 hab=>?_;refine(Dn hok3 hab f).bind hok3 fun s4 a' b' hs4 hok4 hab'=>?_;exact Eh rest hok4 f.type (.var hab')
    . have h1:=h.mono hs;cases h1 with
      | var hab =>
       dsimp only;refine(Dn hok hab f).bind hok fun s4 a' b' hs4 hok4 hab'=>?_;exact Eh rest hok4 f.type (.var hab')
      | val hv =>
       cases hv with
       | agg ha ka =>
        dsimp only;refine(Eu hok f.type ⟨ha,ka⟩ f.offset).bind hok fun s4 u u' hs4 hok4 hu=>?_;exact Eh rest hok4 f.type (.val hu)
       | _=>exact Ag
  | _=>exact Ag
theorem Mc(ok:X.Ok r)(xt:TypeId)(name:String){v v':Value}(h:VR X.L r v v') :
 SemR X (Cq X) r (Builtin.ssaWrapNilChk_ #[xt] xt #[v,strVal "",strVal name]) (Builtin.ssaWrapNilChk_ #[xt] xt #[v',strVal "",strVal name]):=by
 unfold Builtin.ssaWrapNilChk_ strVal;cases h with
 | ptr h=>exact .ret (.ptr h)
 | pnil =>
  dsimp only;refine(CN _).andThen ok fun s n hs hok=>?_;split
  . refine SemR.bind (R:=Cz) hok (A9 (.inr (.inr (.inl rfl)))) fun s1 _ _ hs1 hok1 _=>?_;simp only[List.getElem?_toArray,List.getElem?_cons_zero];refine(Ak xt).bind hok1 ?_;rintro s2 d _ hs2 hok2 ⟨rfl,_⟩;cases d with
    | pointer t =>
     dsimp only;refine(A7 t).bind hok2 ?_;rintro s3 i _ hs3 hok3 ⟨rfl,_⟩;cases i.desc with
     | named nm u =>
      dsimp only;cases String.fromUTF8? name.toUTF8 with
      | none=>exact Ag
      | some m =>
       dsimp only;split
       . exact A9 (.inr (.inl ⟨_,rfl⟩))
       . exact .halt (.noEntry _)
     | _=>exact Ag
    | _=>exact Ag
  . simp only[List.getElem?_toArray,List.getElem?_cons_zero];refine(Ak xt).bind hok ?_;rintro s2 d _ hs2 hok2 ⟨rfl,_⟩;cases d with
    | pointer t =>
     dsimp only;refine(A7 t).bind hok2 ?_;rintro s3 i _ hs3 hok3 ⟨rfl,_⟩;cases i.desc with
     | named nm u =>
      dsimp only;cases String.fromUTF8? name.toUTF8 with
      | none=>exact Ag
      | some m =>
       dsimp only;split
       . exact A9 (.inr (.inl ⟨_,rfl⟩))
       . exact .halt (.noEntry _)
     | _=>exact Ag
    | _=>exact Ag
 | _=>exact Ag
theorem Ij(ok:X.Ok r)(xt:TypeId){p q:Place}(h:PlR X.L r p q)(ptr:Bool)(wr:Option String):SemR X (Cq X) r (receiverAt xt p ptr wr) (receiverAt xt q ptr wr):=by
 unfold receiverAt;refine(Ak xt).bind ok ?_;rintro s d _ hs hok ⟨rfl,hd⟩;have h1:=h.mono hs;have other:(∀ e,d≠.pointer e)->SemR X (Cq X) s
  (match ptr,p with
   | true,.var a=>pure (.pointer (some a))
   | true,.val _=>stuck "method row: a pointer method of a value without an address"
   | false,x=>x.get xt)
  (match ptr,q with
   | true,.var a=>pure (.pointer (some a))
   | true,.val _=>stuck "method row: a pointer method of a value without an address"
   | false,x=>x.get xt):=by
  intro _;cases ptr with
  | false=>exact FT hok xt h1
  | true =>
   cases h1 with
   | var hab=>exact .ret (.ptr hab)
   | val hv=>exact Ag
 cases d with
 | pointer e =>
  cases ptr with
  | true=>exact FT hok xt h1
  | false =>
   dsimp only;refine(FT hok xt h1).bind hok fun s2 v v' hs2 hok2 hv=>?_;cases wr with
   | none =>
    dsimp only;refine SemR.bind (R:=Cq X) hok2 (.ret hv) fun s3 v v' hs3 hok3 hv=>?_;exact(Dm hv).bind hok3 fun s4 a b _ hok4 hab=>CV hok4 e hab
   | some nm =>
    dsimp only;refine(Mc hok2 xt nm hv).bind hok2 fun s3 v v' hs3 hok3 hv=>?_;exact(Dm hv).bind hok3 fun s4 a b _ hok4 hab=>CV hok4 e hab
 | _ =>
  have:=other (fun e x=>by cases x);cases ptr<;>cases h1<;>exact this
def GA(X:Ctx):Prop:=∀ t i m f b,X.L.t t->X.P.info? t=some i->m∈i.methods->m.func=some (f,b)->X.L f
theorem Ik(hm:GA X):∀(fuel:Nat) {r:Rho},X.Ok r->∀(t:TypeId),X.L.t t->∀{v v':Value} (name:String),VR X.L r v v'->SemR X (fun s a b=>a.1=b.1/\X.L a.1/\VR X.L s a.2 b.2) r (method fuel t v name) (method fuel t v' name)
 | 0,_,_,_,_,_,_,_,_=>.halt (.limit _)
 | fuel+1,r,ok,t,ht,v,v',name,h=>by
  unfold method;refine(A7 t).bind ok ?_;rintro s i _ hs hok ⟨rfl,hi⟩;cases hf:i.methods.find? (·.name==name) with
  | none=>exact Ag
  | some m =>
   dsimp only;refine(Eh m.path.toList hok t (.val (h.mono hs))).bind hok ?_;rintro s2 ⟨xt,x⟩ ⟨xt',x'⟩ hs2 hok2 ⟨e,hp⟩;dsimp only at e hp;subst e;dsimp only;cases hmf:m.func with
   | none =>
    dsimp only;refine(FT hok2 xt hp).bind hok2 fun s3 u u' hs3 hok3 hu=>?_;cases hu with
    | iface t2 ht2 hv=>exact Ik hm fuel hok3 t2 ht2 name hv
    | nilIface=>exact A9 (.inr (.inr (.inl rfl)))
    | _=>exact Ag
   | some q =>
    obtain⟨f,pr⟩:=q;dsimp only;refine(Ij hok2 xt hp pr _).bind hok2 fun s3 u u' hs3 hok3 hu=>?_;exact .ret ⟨rfl,hm t i m f pr ht hi (Array.mem_of_find?_eq_some hf) hmf,hu⟩
inductive NextR(X:Ctx)(r:Rho):Next->Next->Prop
 | value {v v':Value} (h:VR X.L r v v'):NextR X r (.value v) (.value v')
 | skip:NextR X r .skip .skip
 | enter {f:FuncId} (hf:X.L f) {a b:Array Value} (h:ArrR X.L r a b):NextR X r (.enter f a) (.enter f b)
 | round {l l':Nat} {f:FuncId} (hf:X.L.h f) (h:r l l') {a b:Array Value} (k:ArrR X.L r a b) {c d:Code} (hc:X.C c) (hd:X.C d):NextR X r (.round l f a c d) (.round l' f b c d)
structure FuncOk(X:Ctx)(f:FuncId)(fn:Func):Prop where
 at_:X.P.funcs[f]?=some fn
 name:(fn.name == "runtime.NumGoroutine")=false
 body:∃ c,fn.body=some c/\X.C c
structure HomeOk(X:Ctx)(f:FuncId)(fn:Func):Prop where
 at_:X.P.funcs[f]?=some fn
structure Lawful(X:Ctx):Prop where
 homes:∀ f,X.L.h f->∃ fn,HomeOk X f fn
 home:∀ f,X.L f->X.L.h f
 funcs:∀ f,X.L f->∃ fn,FuncOk X f fn
 methods:GA X
theorem FU(lw:Lawful X)(ok:X.Ok r){f:FuncId}(hf:X.L f){a b:Array Value}(h:ArrR X.L r a b):SemR X (fun s=>NextR X s) r (callFunc f a) (callFunc f b):=by
 unfold callFunc;obtain⟨fn,k⟩:=lw.funcs f hf;obtain⟨c,hb,_⟩:=k.body;refine Bv ?_;rw[k.at_];dsimp only;rw[k.name,hb];exact .ret (.enter hf h)
theorem Il(lw:Lawful X)(ok:X.Ok r){v v':Value}(hv:VR X.L r v v')(name:String){a b:Array Value}(h:ArrR X.L r a b):SemR X (fun s=>NextR X s) r (callMethod v name a) (callMethod v' name b):=by
 unfold callMethod;cases hv with
 | iface t ht hv =>
  dsimp only;refine Bv ?_;refine(Ik lw.methods _ ok t ht name hv).bind ok ?_;rintro s ⟨f,u⟩ ⟨f',u'⟩ hs hok ⟨e,hL,hu⟩;dsimp only at e hL hu;subst e;exact FU lw hok hL ((ArrR.one hu).append (h.mono hs))
 | nilIface=>exact A9 (.inr (.inr (.inl rfl)))
 | _=>exact Ag
theorem CW(ok:X.Ok r){l l':Nat}(h:r l l'):SemR X (fun s a b=>LoopR X.L s X.C a b) r (Instr.getLoop l) (Instr.getLoop l'):=by
 unfold Instr.getLoop;refine(Ct h).bind ok fun s o o' _ _ ho=>?_;cases ho with
 | loop h=>exact .ret h
 | _=>exact Ag
theorem Im:∀(ps:List Tmp) {a b:List Value} (h:LsR X.L r a b) {c d:Array Value} (k:ArrR X.L r c d),ArrR X.L r ((ps.zip a).foldl (fun t x=>t.setIfInBounds x.1 x.2) c) ((ps.zip b).foldl (fun t x=>t.setIfInBounds x.1 x.2) d)
 | [],_,_,_,_,_,k=>by simpa using k
 | p::ps,_,_,.nil,_,_,k=>by simpa using k
 | p::ps,_,_,.cons h hk,_,_,k=>by
  simp only[List.zip_cons_cons,List.foldl_cons];exact Im ps hk (k.set _ h)
theorem Oj(ok:X.Ok r){l l':Nat}(h:r l l'){a b:Array Value}(ha:ArrR X.L r a b):SemR X (fun s=>NextR X s) r (Instr.yield l a) (Instr.yield l' b):=by
 unfold Instr.yield;refine(CW ok h).bind ok fun s x y hs hok hxy=>?_;have e:=ha.1;rw[hxy.params,<- e];split
 . exact SemR.bind (R:=Cz) hok Ag fun s2 _ _ hs2 hok2 _=>by
    refine .ret ?_;rw[hxy.fn,hxy.assign,hxy.body];refine .round hxy.lf (hs2 _ _ (hs _ _ h)) ?_ hxy.ca hxy.cb;have:=Im x.params.toList ((ha.mono hs).toList) hxy.tmps;rw[<- Array.foldl_toList,<- Array.foldl_toList,Array.toList_zip,Array.toList_zip];exact this.mono hs2
 . refine .ret ?_;rw[hxy.fn,hxy.assign,hxy.body];refine .round hxy.lf (hs _ _ h) ?_ hxy.ca hxy.cb;have:=Im x.params.toList ((ha.mono hs).toList) hxy.tmps;rw[<- Array.foldl_toList,<- Array.foldl_toList,Array.toList_zip,Array.toList_zip];exact this
end
section
variable {X:Ctx} {r:Rho}
theorem GB(ok:X.Ok r){i i' j j':Nat}(h:r i i')(k:r j j'):(i'==j')=(i==j):=by
 rw[Bool.eq_iff_iff,beq_iff_eq,beq_iff_eq];exact⟨fun e=>by subst e; exact ok.inj h k,fun e=>by subst e; exact ok.fn h k⟩
theorem block_lt(ok:X.Ok r){i i':Nat}(h:r i i'):i'<X.G↔i<X.G:=by
 constructor
 . intro x; rw[ok.glob h (.inr x)] at x; exact x
 . intro x; rw[ok.glob h (.inl x)]; exact x
theorem P2(ok:X.Ok r){a a' b b':Addr}(h:AR r a a')(k:AR r b b'):(a'==b')=(a==b):=by
 have e:=GB ok h.block k.block;obtain⟨i,o,sp⟩:=a;obtain⟨i',o',sp'⟩:=a';obtain⟨j,p,sq⟩:=b;obtain⟨j',p',sq'⟩:=b';obtain⟨h1,h2,h3⟩:=h;obtain⟨k1,k2,k3⟩:=k;dsimp only at h2 h3 k2 k3 e;subst h2 h3 k2 k3;rw[Bool.eq_iff_iff];simp only[beq_iff_eq,Addr.mk.injEq];rw[Bool.eq_iff_iff] at e;simp only[beq_iff_eq] at e;rw[e]
theorem J7(ok:X.Ok r){i j:Nat}(h:r i j):SemR X (fun s a b=>(a=none/\b=none)\/∃ x y l,a=some (x,l)/\b=some (y,l)/\AR s x y) r (numberAt i) (numberAt j):=by
 unfold numberAt;refine(DU h).bind ok fun s x y hs hok hxy=>?_;rcases hxy with⟨rfl,rfl⟩ | ⟨t,n,m,rfl,rfl,_⟩
 . refine(Ct (hs _ _ h)).bind hok fun s2 o o' _ _ ho=>?_;cases ho with
   | number l hab=>exact .ret (.inr ⟨_,_,l,rfl,rfl,hab⟩)
   | _=>exact .ret (.inl ⟨rfl,rfl⟩)
 . exact .ret (.inl ⟨rfl,rfl⟩)
theorem Bm(ok:X.Ok r){a b:Addr}(h:AR r a b):SemR X (fun s x y=>x.2=y.2/\AR s x.1 y.1) r (behindNumber a) (behindNumber b):=by
 unfold behindNumber;refine(J7 ok h.block).bind ok ?_;rintro s x y hs hok (⟨rfl,rfl⟩ | ⟨u,v,l,rfl,rfl,k⟩)
 . exact .ret ⟨rfl,h.mono hs⟩
 . exact .ret ⟨rfl,k⟩
theorem J9(ok:X.Ok r){a b:Addr}(h:AR r a b)(l:Bool):SemR X (Cq X) r (asNumber a l) (asNumber b l):=by
 unfold asNumber;refine(FP (.number l h)).bind ok fun s i j _ _ k=>?_;exact .ret (.ptr ⟨k,rfl,rfl⟩)
theorem GC{p:Program}{d:Nat}{e:TypeId}{c c' off:Nat}{b:Int}{x:Nat}(h:c<=c')(k:cellAtBytes p d e c off b=some x):cellAtBytes p d e c' off b=some x:=by
 unfold cellAtBytes at k ⊢;dsimp only[bind,Option.bind] at k ⊢;have hw:c*p.bytesOf e<=c'*p.bytesOf e:=Nat.mul_le_mul_right _ h;split at k
 . cases k
 . rename_i h1;rw[if_neg h1];cases hb:byteOfCell p d e (off % p.cellsOf e) with
   | none=>rw[hb] at k; cases k
   | some z =>
    rw[hb] at k;dsimp only at k ⊢;split at k
    . cases k
    . rename_i h2;rw[if_neg (by simp only[Bool.or_eq_true,decide_eq_true_eq,not_or,Int.ofNat_eq_natCast] at h2 ⊢; omega)];exact k
def PtR:Rho->Value->Value->Prop:=fun s x y=>∃ a b,x=.pointer (some a)/\y=.pointer (some b)/\AR s a b
theorem PtR.to{s:Rho}{x y:Value}(h:PtR s x y):Cq X s x y:=by
 obtain⟨a,b,rfl,rfl,k⟩:=h;exact .ptr k
theorem E9(ok:X.Ok r)(ts:Array TypeId)(t:TypeId){v v' u u':Value}(h:VR X.L r v v')(k:VR X.L r u u'):SemR X PtR r (Builtin.unsafeAdd_ ts t #[v,u]) (Builtin.unsafeAdd_ ts t #[v',u']):=by
 unfold Builtin.unsafeAdd_;cases h with
 | pnil =>
  dsimp only;refine(Fp ok k).andThen ok fun s n hs hok=>?_;split
  . exact .halt (.unsafePointer _)
  . split
    . exact SemR.bind (R:=Cz) hok (.halt (.unsafePointer _)) fun s2 _ _ hs2 hok2 _=>.halt (.unsafePointer _)
    . exact .halt (.unsafePointer _)
 | @ptr a b hab =>
  dsimp only;refine(Fp ok k).andThen ok fun s n hs hok=>?_;have h1:=hab.mono hs;have tail:∀{s:Rho},X.Ok s->AR s a b->SemR X PtR s
   (do
    let some (e,cells) <- shape a.block | unsupported (.unsafePointer "Add")
    let p <- program
    match cellAtBytes p p.depth e (cells / p.cellsOf e) a.off n with
    | some off=>pure (.pointer (some { a with off }))
    | none=>unsupported (.unsafePointer "Add"))
   (do
    let some (e,cells) <- shape b.block | unsupported (.unsafePointer "Add")
    let p <- program
    match cellAtBytes p p.depth e (cells / p.cellsOf e) b.off n with
    | some off=>pure (.pointer (some { b with off }))
    | none=>unsupported (.unsafePointer "Add")):=by
   intro s hok h1;refine(DU h1.block).bind hok fun s2 x y hs2 hok2 hxy=>?_;rcases hxy with⟨rfl,rfl⟩ | ⟨e,c,c',rfl,rfl,hle⟩
   . exact .halt (.unsafePointer _)
   . dsimp only;refine Bv ?_;rw[<- h1.off];cases hc:cellAtBytes X.P X.P.depth e (c / X.P.cellsOf e) a.off n with
     | none=>exact .halt (.unsafePointer _)
     | some off =>
      rw[GC (Nat.div_le_div_right hle) hc];exact .ret ⟨_,_,rfl,rfl,(h1.mono hs2).block,rfl,h1.spot⟩
  split
  . refine(Ii hok h1.block).andThen hok fun s2 x hs2 hok2=>?_;split
    . exact SemR.bind (R:=Cz) hok2 (.halt (.unsafePointer _)) fun s3 _ _ hs3 hok3 _=>.ret ⟨_,_,rfl,rfl,(h1.mono hs2).mono hs3⟩
    . exact .ret ⟨_,_,rfl,rfl,h1.mono hs2⟩
  . split
    . exact SemR.bind (R:=Cz) hok (.halt (.unsafePointer _)) fun s3 _ _ hs3 hok3 _=>tail hok3 (h1.mono hs3)
    . exact tail hok h1
 | _=>exact Ag
theorem Bw(ok:X.Ok r)(t:TypeId){v v' u u':Value}(h:VR X.L r v v')(k:VR X.L r u u'):SemR X (Cq X) r (movedNumber t v u) (movedNumber t v' u'):=by
 unfold movedNumber;refine(Ak t).bind ok ?_;rintro s d _ hs hok ⟨rfl,hd⟩;have tail:∀{s2:Rho},X.Ok s2->VR X.L s2 v v'->VR X.L s2 u u'->SemR X (Cq X) s2
  (do
   let .pointer (some n):=v | Builtin.unsafeAdd_ #[] t #[v,u]
   let (a,lost) <- behindNumber n
   match <- Builtin.unsafeAdd_ #[] t #[.pointer (some a),u] with
   | .pointer (some b)=>asNumber b lost
   | v=>pure v)
  (do
   let .pointer (some n):=v' | Builtin.unsafeAdd_ #[] t #[v',u']
   let (a,lost) <- behindNumber n
   match <- Builtin.unsafeAdd_ #[] t #[.pointer (some a),u'] with
   | .pointer (some b)=>asNumber b lost
   | v=>pure v):=by
  intro s2 ok2 h2 k2;cases h2 with
  | ptr hab =>
   dsimp only;refine(Bm ok2 hab).bind ok2 ?_;rintro s3 ⟨a,l⟩ ⟨b,l'⟩ hs3 hok3 ⟨e,hab⟩;dsimp only at e hab;subst e;dsimp only;refine(E9 hok3 #[] t (.ptr hab) (k2.mono hs3)).bind hok3 fun s4 x y hs4 hok4 hxy=>?_;obtain⟨c,d,rfl,rfl,hcd⟩:=hxy;exact J9 hok4 hcd l
  | junk _=>exact Ag
  | pnil=>exact(E9 ok2 #[] t .pnil k2).mono fun _ _ _ h=>h.to
  | _=>exact Ag
 cases d<;>first
  | exact SemR.bind (R:=Cz) hok (.halt (.unsafePointer _)) fun s3 _ _ hs3 hok3 _=>tail hok3 ((h.mono hs).mono hs3) ((k.mono hs).mono hs3)
  | exact tail hok (h.mono hs) (k.mono hs)
theorem Fa(ok:X.Ok r){a a' b b':Addr}(h:AR r a a')(k:AR r b b'):SemR X Cz r (Op.twoPlaces a b) (Op.twoPlaces a' b'):=by
 unfold Op.twoPlaces;refine Bv ?_;have e1:(a'.block != b'.block)=(a.block != b.block):=by unfold bne; rw[GB ok h.block k.block]
 have e2:decide (a'.block>=X.P.globals.size)=decide (a.block>=X.P.globals.size):=by
  have:=block_lt ok h.block;simp only[Ctx.G] at this;rw[decide_eq_decide];omega
 rw[e1,e2];have tail:∀{s:Rho},X.Ok s->AR s a a'->AR s b b'->SemR X Cz s (do pure (<- byteOf a,<- byteOf b)) (do pure (<- byteOf a',<- byteOf b')):=by
  intro s ok h k;refine(Ci ok h).andThen ok fun s2 x hs2 hok2=>?_;refine(Ci hok2 (k.mono hs2)).andThen hok2 fun s3 y hs3 hok3=>?_;exact .ret rfl
 split
 . exact SemR.bind (R:=Cz) ok (.halt .observed) fun s3 _ _ hs3 hok3 _=>tail hok3 (h.mono hs3) (k.mono hs3)
 . exact tail ok h k
theorem La(ok:X.Ok r)(kk:IntKind){a a' b b':Addr}(h:AR r a a')(k:AR r b b'):SemR X (Cq X) r (Op.addrSub kk a b) (Op.addrSub kk a' b') :=
 (Fa ok h k).andThen ok fun _ _ _ _=>.ret (.int _ _)
theorem Lb(ok:X.Ok r)(op:BinOp){a a' b b':Addr}(h:AR r a a')(k:AR r b b'):SemR X (Cq X) r (Op.addrCmp op a b) (Op.addrCmp op a' b'):=by
 refine(Fa ok h k).andThen ok fun s x hs hok=>?_;cases op<;>first | exact .ret (.bool _) | exact .halt .observed
theorem Ev(ok:X.Ok r)(kk:IntKind){a a':Addr}(h:AR r a a')(n:Int):SemR X (Cq X) r (Op.addrMod kk a n) (Op.addrMod kk a' n):=by
 unfold Op.addrMod;refine(DU h.block).bind ok fun s x y hs hok hxy=>?_;rcases hxy with⟨rfl,rfl⟩ | ⟨e,c,c',rfl,rfl,_⟩
 . exact .halt .observed
 . dsimp only;refine(A7 e).bind hok ?_;rintro s2 i _ hs2 hok2 ⟨rfl,_⟩;have h2:=(h.mono hs).mono hs2;split
   . refine SemR.bind (R:=Cz) hok2 (.halt .observed) fun s3 _ _ hs3 hok3 _=>?_;exact(Ci hok3 (h2.mono hs3)).andThen hok3 fun _ _ _ _=>.ret (.int _ _)
   . exact(Ci hok2 h2).andThen hok2 fun _ _ _ _=>.ret (.int _ _)
end
section
variable {X:Ctx} {r:Rho}
def BF(X:Ctx)(t:TypeId):Prop:=(∃ k,X.P.underlying t=some (.int k))\/X.P.underlying t=some .bool\/X.P.underlying t=some .string
theorem C7{t:TypeId}(ht:BF X t)(d:Nat)(ok:X.Ok r){v v' u u':Value}(h:VR X.L r v v')(k:VR X.L r u u'):SemR X Cz r (Op.equalIn (d+1) t v u) (Op.equalIn (d+1) t v' u'):=by
 unfold Op.equalIn;refine(Ak t).bind ok ?_;rintro s dd _ hs hok ⟨rfl,hd⟩;rcases ht with⟨kk,ht⟩ | ht | ht
 . rw[ht] at hd;obtain rfl:=Option.some.inj hd;cases h with
   | int ka a =>
    cases k with
    | int kb b =>
     dsimp only;split
     . exact .ret rfl
     . exact Ag
    | ptr hab =>
     by_cases ha:a=0
     . subst ha; exact .ret rfl
     . split
       all_goals first | exact .halt .observed | skip
       all_goals simp_all
    | pnil=>split<;>first | exact .halt .observed | exact Ag | simp_all
    | _=>exact Ag
   | ptr hab =>
    cases k with
    | int kb b =>
     by_cases hb:b=0
     . subst hb; exact .ret rfl
     . split
       all_goals first | exact .halt .observed | skip
       all_goals simp_all
    | ptr hcd =>
     dsimp only;refine(Bm hok (hab.mono hs)).bind hok ?_;rintro s2 ⟨a,l⟩ ⟨a',l'⟩ hs2 hok2 ⟨_,h1⟩;refine(Bm hok2 ((hcd.mono hs).mono hs2)).bind hok2 ?_;rintro s3 ⟨b,m⟩ ⟨b',m'⟩ hs3 hok3 ⟨_,h2⟩;dsimp only at h1 h2 ⊢;have h1:=h1.mono hs3;refine Bv ?_;have e1:=GB hok3 h1.block h2.block;have e2:decide (a'.block<X.P.globals.size)=decide (a.block<X.P.globals.size):=by
      have:=block_lt hok3 h1.block;simp only[Ctx.G] at this;rw[decide_eq_decide];omega
     rw[e1,e2];have tail:∀{s:Rho},X.Ok s->AR s a a'->AR s b b'->SemR X Cz s
      (do
       let .named "sync.copyChecker" _:=(<- typeInfo t).desc | unsupported .addressObserved
       if a==b then pure true else unsupported .addressObserved)
      (do
       let .named "sync.copyChecker" _:=(<- typeInfo t).desc | unsupported .addressObserved
       if a'==b' then pure true else unsupported .addressObserved):=by
      intro s hok h1 h2;refine(A7 t).bind hok ?_;rintro s4 i _ hs4 hok4 ⟨rfl,_⟩;have e3:=P2 hok4 (h1.mono hs4) (h2.mono hs4);split
      . rw[e3];split
        . exact .ret rfl
        . exact .halt .observed
      . exact .halt .observed
     split
     . refine(Ci hok3 h1).andThen hok3 fun s4 x hs4 hok4=>?_;refine(Ci hok4 (h2.mono hs4)).andThen hok4 fun s5 y hs5 hok5=>?_;exact .ret rfl
     . exact tail hok3 h1 h2
    | _=>first | exact .halt .observed | exact Ag
   | pnil=>cases k<;>first | exact .halt .observed | exact Ag | (split<;>first | exact .halt .observed | exact Ag | simp_all)
   | _=>cases k<;>first | exact .halt .observed | exact Ag | (split<;>first | exact .halt .observed | exact Ag | simp_all)
 . rw[ht] at hd;obtain rfl:=Option.some.inj hd;cases h<;>cases k<;>first | exact Ag | exact .ret rfl
 . rw[ht] at hd;obtain rfl:=Option.some.inj hd;cases h<;>cases k<;>first | exact Ag | exact .ret rfl
inductive EqT(X:Ctx)(t:TypeId):Prop
 | scalar (h:BF X t)
 | pointer (e:TypeId) (h:X.P.underlying t=some (.pointer e))
 | struct (fs:Array Field) (h:X.P.underlying t=some (.struct fs)) (k:∀ f∈fs,BF X f.type\/∃ gs,X.P.underlying f.type=some (.struct gs)/\∀ g∈gs,BF X g.type)
theorem Jo{α β:Type}:∀(xs:List α) {r:Rho},X.Ok r->∀(f f':α->β->Sem (ForInStep β)),
 (∀{s:Rho} x,X.Ok s->r.le s->x∈xs->∀ b,SemR X Cz s (f x b) (f' x b))->∀ b,SemR X Cz r (forIn xs b f) (forIn xs b f')
 | [],r,ok,f,f',h,b=>by simp only[List.forIn_nil]; exact .ret rfl
 | x::xs,r,ok,f,f',h,b=>by
  rw[List.forIn_cons,List.forIn_cons];refine(h x ok (Rho.le_refl r) (List.mem_cons_self ..) b).andThen ok fun s y hs hok=>?_;cases y with
  | done b=>exact .ret rfl
  | yield b=>exact Jo xs hok f f' (fun x hx hle hm b=>h x hx (Rho.le_trans hs hle) (List.mem_cons_of_mem _ hm) b) b
theorem GY{t:TypeId}{fs:Array Field}(ht:X.P.underlying t=some (.struct fs))(d:Nat)(hf:∀ f∈fs,∀{s:Rho},X.Ok s->∀{v v' u u':Value},VR X.L s v v'->VR X.L s u u'->SemR X Cz s (Op.equalIn (d+1) f.type v u) (Op.equalIn (d+1) f.type v' u'))(ok:X.Ok r){v v' u u':Value}(h:VR X.L r v v')(k:VR X.L r u u'):SemR X Cz r (Op.equalIn (d+2) t v u) (Op.equalIn (d+2) t v' u'):=by
 unfold Op.equalIn;refine(Ak t).bind ok ?_;rintro s dd _ hs hok ⟨rfl,hd⟩;rw[ht] at hd;obtain rfl:=Option.some.inj hd;cases h with
 | @agg a a' ha ka =>
  cases k with
  | @agg b b' hb kb =>
   dsimp only;refine Bv ?_;have tail:∀{s:Rho},X.Ok s->ArrR X.L s a a'->ArrR X.L s b b'->SemR X Cz s
    (do
     for f in fs do
      if f.name ≠ "_" then
       if !(<- Op.equalIn (d+1) f.type (<- part f.type a f.offset) (<- part f.type b f.offset)) then return false
     pure true)
    (do
     for f in fs do
      if f.name ≠ "_" then
       if !(<- Op.equalIn (d+1) f.type (<- part f.type a' f.offset) (<- part f.type b' f.offset)) then return false
     pure true):=by
    intro s hok h1 h2;refine SemR.andThen hok ?_ fun s2 x hs2 hok2=>?_
    . rw[<- Array.forIn_toList,<- Array.forIn_toList];refine Jo fs.toList hok _ _ (fun f hok2 hle hm q=>?_) _;split
      . refine(Eu hok2 f.type (h1.mono hle) f.offset).bind hok2 fun s3 y y' hs3 hok3 hy=>?_;refine(Eu hok3 f.type ((h2.mono hle).mono hs3) f.offset).bind hok3 fun s4 z z' hs4 hok4 hz=>?_;refine(hf f (by simpa using hm) hok4 (hy.mono hs4) hz).andThen hok4 fun s5 w hs5 hok5=>?_;split<;>exact .ret rfl
      . exact .ret rfl
    . obtain⟨o,_⟩:=x;cases o<;>exact .ret rfl
   split
   . exact SemR.bind (R:=Cz) hok (.halt (.noEntry _)) fun s3 _ _ hs3 hok3 _=>tail hok3 (ArrR.mono ⟨ha,ka⟩ (fun _ _ x=>hs3 _ _ (hs _ _ x))) (ArrR.mono ⟨hb,kb⟩ (fun _ _ x=>hs3 _ _ (hs _ _ x)))
   . exact tail hok (ArrR.mono ⟨ha,ka⟩ hs) (ArrR.mono ⟨hb,kb⟩ hs)
  | _=>exact Ag
 | _=>cases k<;>exact Ag
theorem Ka{t:TypeId}{fs:Array Field}(ht:X.P.underlying t=some (.struct fs))(hf:∀ f∈fs,BF X f.type\/∃ gs,X.P.underlying f.type=some (.struct gs)/\∀ g∈gs,BF X g.type)(d:Nat)(ok:X.Ok r){v v' u u':Value}(h:VR X.L r v v')(k:VR X.L r u u'):SemR X Cz r (Op.equalIn (d+3) t v u) (Op.equalIn (d+3) t v' u') :=
 GY ht (d+1) (fun f hm s hok v v' u u' hv hu=>by
  rcases hf f hm with h | ⟨gs,hg,h⟩
  . exact C7 h (d+1) hok hv hu
  . exact GY hg d (fun g hm s hok v v' u u' hv hu=>C7 (h g hm) d hok hv hu) hok hv hu) ok h k
def Md(v u:Value):Prop:=v=.pointer none\/u=.pointer none
theorem Om{t e:TypeId}(ht:X.P.underlying t=some (.pointer e))(d:Nat)(ok:X.Ok r){v v' u u':Value}(hn:Md v u)(h:VR X.L r v v')(k:VR X.L r u u'):SemR X Cz r (Op.equalIn (d+1) t v u) (Op.equalIn (d+1) t v' u'):=by
 unfold Op.equalIn;refine(Ak t).bind ok ?_;rintro s dd _ hs hok ⟨rfl,hd⟩;rw[ht] at hd;obtain rfl:=Option.some.inj hd;rcases hn with rfl | rfl
 . cases h
   cases k<;>first | exact Ag | exact .ret rfl
 . cases k
   cases h<;>first | exact Ag | exact .ret rfl
theorem Kb(op:BinOp)(k:IntKind)(a b:Int):SemR X (Cq X) r (Op.intArith op k a b) (Op.intArith op k a b):=by
 unfold Op.intArith;cases op<;>first | exact .ret (.int _ _) | exact Ag
theorem Me(op:BinOp)(k:IntKind)(a b:Int):SemR X (Cq X) r (Op.intDiv op k a b) (Op.intDiv op k a b):=by
 unfold Op.intDiv;split
 . exact A9 (.inl ⟨_,rfl⟩)
 . cases op<;>first | exact .ret (.int _ _) | exact Ag
theorem Fs(op:BinOp)(a b:Int):SemR X (Cq X) r (Op.intCmp op a b) (Op.intCmp op a b):=by
 unfold Op.intCmp;cases op<;>first | exact .ret (.bool _) | exact Ag
theorem C8(op:BinOp)(a b:ByteArray):SemR X (Cq X) r (Op.stringOp op a b) (Op.stringOp op a b):=by
 unfold Op.stringOp;cases op<;>first | exact .ret (.bool _) | exact Ag | (dsimp only; split; exact .halt (.limit _); exact .ret (.string _))
inductive ArithOp:BinOp->Prop
 | add:ArithOp .add
 | sub:ArithOp .sub
 | mul:ArithOp .mul
 | quo:ArithOp .quo
 | rem:ArithOp .rem
 | lss:ArithOp .lss
 | leq:ArithOp .leq
 | gtr:ArithOp .gtr
 | geq:ArithOp .geq
theorem On{op:BinOp}(ho:ArithOp op)(ok:X.Ok r){t:TypeId}(ht:X.P.underlying t≠some .unsafePointer){v v' u u':Value}(h:VR X.L r v v')(k:VR X.L r u u'):SemR X (Cq X) r (binOp op t v u) (binOp op t v' u'):=by
 have und:∀{α:Type} {R:Rho->α->α->Prop} (f f' g g':Sem α),SemR X R r g g'->(∀{s:Rho},X.Ok s->r.le s->SemR X R s g g') ->
  SemR X R r (do if (<- underlying t) matches .unsafePointer then f else g) (do if (<- underlying t) matches .unsafePointer then f' else g'):=by
  intro α R f f' g g' _ hg;refine(Ak t).bind ok ?_;rintro s d _ hs hok ⟨rfl,hd⟩;cases d<;>first | exact absurd hd ht | exact hg hok hs
 cases h with
 | int ka a =>
  cases k with
  | int kb b =>
   cases ho<;>(unfold binOp; dsimp only; split<;>first | exact Ag | exact Kb _ _ _ _ | exact Me _ _ _ _ | exact Fs _ _ _)
  | ptr hab=>cases ho<;>(unfold binOp; dsimp only)<;>first | exact Bw ok t (.ptr hab) (.int _ _) | exact .halt .observed
  | pnil=>cases ho<;>(unfold binOp; dsimp only)<;>first | exact Bw ok t .pnil (.int _ _) | exact .halt .observed
  | _=>cases ho<;>exact Ag
 | ptr hab =>
  cases k with
  | int kb b =>
   cases ho<;>(unfold binOp; dsimp only)<;>first
    | exact und _ _ _ _ (Bw ok t (.ptr hab) (.int _ _)) (fun hok hs=>Bw hok t ((VR.ptr hab).mono hs) (.int _ _))
    | exact Bw ok t (.ptr hab) (.int _ _)
    | exact .halt .observed
    |
     (refine(Bm ok hab).bind ok ?_
      rintro s ⟨a,l⟩ ⟨a',l'⟩ hs hok ⟨_,h1⟩;exact Ev hok kb h1 _)
  | ptr hcd =>
   cases ho<;>(unfold binOp; dsimp only)<;>first
    | exact .halt .observed
    |
     (refine(Bm ok hab).bind ok ?_
      rintro s ⟨a,l⟩ ⟨a',l'⟩ hs hok ⟨_,h1⟩;refine(Bm hok (hcd.mono hs)).bind hok ?_;rintro s2 ⟨b,m⟩ ⟨b',m'⟩ hs2 hok2 ⟨_,h2⟩
      first
       | exact La hok2 _ (h1.mono hs2) h2
       | exact Lb hok2 _ (h1.mono hs2) h2)
  | _=>cases ho<;>first | exact .halt .observed | exact Ag
 | pnil =>
  cases k with
  | int kb b =>
   cases ho<;>(unfold binOp; dsimp only)<;>first
    | exact und _ _ _ _ (Bw ok t .pnil (.int _ _)) (fun hok hs=>Bw hok t .pnil (.int _ _))
    | exact Bw ok t .pnil (.int _ _)
    | exact .halt .observed
  | _=>cases ho<;>first | exact .halt .observed | exact Ag
 | string a =>
  cases k with
  | string b=>cases ho<;>(unfold binOp; dsimp only; exact C8 _ _ _)
  | ptr hab=>cases ho<;>first | exact .halt .observed | exact Ag
  | pnil=>cases ho<;>first | exact .halt .observed | exact Ag
  | _=>cases ho<;>exact Ag
 | _ =>
  cases k with
  | ptr hab=>cases ho<;>first | exact .halt .observed | exact Ag
  | pnil=>cases ho<;>first | exact .halt .observed | exact Ag
  | _=>cases ho<;>exact Ag
end
section
variable {X:Ctx} {r:Rho}
theorem CC(ok:X.Ok r){v v':Value}(h:VR X.L r v v')(y:Nat)(c:BoundsCode):SemR X Cz r (Instr.sliceBound v y c) (Instr.sliceBound v' y c):=by
 unfold Instr.sliceBound;refine(EV h).andThen ok ?_;rintro s ⟨k,i⟩ hs hok;dsimp only;split
 . exact .ret rfl
 . exact Dk hok _ _ _ _
def OptV(X:Ctx)(r:Rho)(a b:Option Value):Prop:=(a=none/\b=none)\/∃ x y,a=some x/\b=some y/\VR X.L r x y
theorem OptV.mono{s:Rho}{a b:Option Value}(h:OptV X r a b)(k:r.le s):OptV X s a b:=h.imp id fun⟨x,y,e,f,g⟩=>⟨x,y,e,f,g.mono k⟩
theorem Cb(ok:X.Ok r)(sl:Bool)(len cap:Nat){lo lo' hi hi' mx mx':Option Value}(h1:OptV X r lo lo')(h2:OptV X r hi hi')(h3:OptV X r mx mx') :
 SemR X Cz r (Instr.sliceBounds sl len cap lo hi mx) (Instr.sliceBounds sl len cap lo' hi' mx'):=by
 unfold Instr.sliceBounds;have low:∀{s:Rho} (h m:Nat) (b:Bool),X.Ok s->r.le s->SemR X Cz s (do
  let l <- match lo with
   | some v=>Instr.sliceBound v h (if b then .slice3C else .sliceB)
   | none=>pure 0
  pure (l,h,m)) (do
  let l <- match lo' with
   | some v=>Instr.sliceBound v h (if b then .slice3C else .sliceB)
   | none=>pure 0
  pure (l,h,m)):=by
  intro s h m b hok hs;rcases h1 with⟨rfl,rfl⟩ | ⟨x,y,rfl,rfl,hv⟩
  . exact .ret rfl
  . exact(CC hok (hv.mono hs) h _).andThen hok fun s2 a _ _=>.ret rfl
 rcases h3 with⟨rfl,rfl⟩ | ⟨x,y,rfl,rfl,h3⟩
 . refine SemR.andThen ok (x:=pure cap) (x':=pure cap) (.ret rfl) fun s m hs hok=>?_;rcases h2 with⟨rfl,rfl⟩ | ⟨x2,y2,rfl,rfl,h2⟩
   . exact SemR.andThen hok (x:=pure len) (x':=pure len) (.ret rfl) fun s2 h hs2 hok2=>low h m false hok2 (Rho.le_trans hs hs2)
   . exact(CC hok (h2.mono hs) m _).andThen hok fun s2 h hs2 hok2=>low h m false hok2 (Rho.le_trans hs hs2)
 . refine(CC ok h3 cap _).andThen ok fun s m hs hok=>?_;rcases h2 with⟨rfl,rfl⟩ | ⟨x2,y2,rfl,rfl,h2⟩
   . exact Ag
   . exact(CC hok (h2.mono hs) m _).andThen hok fun s2 h hs2 hok2=>low h m true hok2 (Rho.le_trans hs hs2)
theorem Oo(ok:X.Ok r)(t:TypeId){v v':Value}(h:VR X.L r v v'){lo lo' hi hi' mx mx':Option Value}(h1:OptV X r lo lo')(h2:OptV X r hi hi')(h3:OptV X r mx mx') :
 SemR X (Cq X) r (Instr.slice t v lo hi mx) (Instr.slice t v' lo' hi' mx'):=by
 unfold Instr.slice;refine(Ak t).bind ok ?_;rintro s d _ hs hok ⟨rfl,hd⟩;have hv:=h.mono hs;have g1:=h1.mono hs;have g2:=h2.mono hs;have g3:=h3.mono hs;cases d with
 | string =>
  cases hv with
  | string b =>
   dsimp only;rcases g3 with⟨rfl,rfl⟩ | ⟨x,y,rfl,rfl,g3⟩
   . refine(Cb hok false b.size b.size g1 g2 (.inl ⟨rfl,rfl⟩)).andThen hok ?_;rintro s2 ⟨l,hh,m⟩ _ _;exact .ret (.string _)
   . exact Ag
  | _=>exact Ag
 | slice e =>
  cases hv with
  | snil n c =>
   dsimp only;refine(Cb hok true n c g1 g2 g3).andThen hok ?_;rintro s2 ⟨l,hh,m⟩ hs2 hok2;refine(Bl hok2 e).bind hok2 ?_;rintro s3 z _ _ _ ⟨rfl,_⟩;have e1:(if m=l then (none:Option Addr) else Option.map (fun x:Addr=>x.add (l*z)) none)=none:=by split<;>rfl
   rw[e1];exact .ret (.snil _ _)
  | @slice a b n c hab =>
   dsimp only;refine(Cb hok true n c g1 g2 g3).andThen hok ?_;rintro s2 ⟨l,hh,m⟩ hs2 hok2;refine(Bl hok2 e).bind hok2 ?_;rintro s3 z _ hs3 _ ⟨rfl,_⟩;have hab:=(hab.mono hs2).mono hs3;dsimp only;by_cases hm:m=l
   . rw[if_pos hm,if_pos hm]; exact .ret (.slice _ _ hab)
   . rw[if_neg hm,if_neg hm]; exact .ret (.slice _ _ (hab.add _))
  | _=>exact Ag
 | pointer e =>
  have arr:∀{x x':Value},VR X.L s x x'->SemR X (Cq X) s (do
   let a <- asAddr x
   let .array n elem <- underlying e | stuck "Slice: array type expected"
   let (l,h,m) <- Instr.sliceBounds false n n lo hi mx
   let size <- sizeOf elem
   pure (.slice (some (if m=l then a else a.add (l*size))) (h-l) (m-l))) (do
   let a <- asAddr x'
   let .array n elem <- underlying e | stuck "Slice: array type expected"
   let (l,h,m) <- Instr.sliceBounds false n n lo' hi' mx'
   let size <- sizeOf elem
   pure (.slice (some (if m=l then a else a.add (l*size))) (h-l) (m-l))):=by
   intro x x' hx;refine(Dm hx).bind hok fun s2 a b hs2 hok2 hab=>?_;refine(Ak e).bind hok2 ?_;rintro s3 d _ hs3 hok3 ⟨rfl,_⟩;cases d with
   | array n el =>
    dsimp only;refine(Cb hok3 false n n ((g1.mono hs2).mono hs3) ((g2.mono hs2).mono hs3) ((g3.mono hs2).mono hs3)).andThen hok3 ?_;rintro s4 ⟨l,hh,m⟩ hs4 hok4;refine(Bl hok4 el).bind hok4 ?_;rintro s5 z _ hs5 _ ⟨rfl,_⟩;have hab:=((hab.mono hs3).mono hs4).mono hs5;dsimp only;by_cases hm:m=l
    . rw[if_pos hm,if_pos hm]; exact .ret (.slice _ _ hab)
    . rw[if_neg hm,if_neg hm]; exact .ret (.slice _ _ (hab.add _))
   | _=>exact Ag
  cases hv<;>exact arr (by constructor<;>assumption)
 | _=>cases hv<;>exact Ag
theorem Lc(ok:X.Ok r)(t:TypeId){v v':Value}(h:VR X.L r v v'){lo lo' hi hi' mx mx':Option Value}(h1:OptV X r lo lo')(h2:OptV X r hi hi')(h3:OptV X r mx mx') :
 SemR X (Cq X) r (Instr.sliceAt t v lo hi mx) (Instr.sliceAt t v' lo' hi' mx'):=by
 unfold Instr.sliceAt;refine(Ak t).bind ok ?_;rintro s d _ hs hok ⟨rfl,hd⟩;have hv:=h.mono hs;have g1:=h1.mono hs;have g2:=h2.mono hs;have g3:=h3.mono hs;cases d with
 | array n e =>
  dsimp only;refine(CB hv).bind hok fun s2 a b hs2 hok2 hab=>?_;refine(Cb hok2 false n n (g1.mono hs2) (g2.mono hs2) (g3.mono hs2)).andThen hok2 ?_;rintro s4 ⟨l,hh,m⟩ hs4 hok4;refine(Bl hok4 e).bind hok4 ?_;rintro s5 z _ hs5 _ ⟨rfl,_⟩;have hab:=(hab.mono hs4).mono hs5;dsimp only;by_cases hm:m=l
  . rw[if_pos hm,if_pos hm]; exact .ret (.slice _ _ hab)
  . rw[if_neg hm,if_neg hm]; exact .ret (.slice _ _ (hab.add _))
 | _=>exact Oo hok t hv g1 g2 g3
theorem Io(ok:X.Ok r){t:TypeId}(hz:∀ e,X.P.underlying t=some (.slice e)->Cs X e)(n:Nat){a b:Array (Nat × Value)}(h:PsR X.L r a.toList b.toList):SemR X (Cq X) r (Instr.buildSlice t n a) (Instr.buildSlice t n b):=by
 unfold Instr.buildSlice;refine(Ak t).bind ok ?_;rintro s d _ hs hok ⟨rfl,hd⟩;cases d with
 | slice e =>
  dsimp only;refine(Bl hok e).bind hok ?_;rintro s2 z _ hs2 hok2 ⟨rfl,_⟩;split
  . exact .halt (.limit _)
  have rest:∀{s3:Rho} (zero:Array Value),X.Ok s3->s2.le s3->ArrR X.L s3 ((Array.range (n*z)).map (zero[· % zero.size]!)) ((Array.range (n*z)).map (zero[· % zero.size]!)) ->
   SemR X (Cq X) s3 (do
    let some cells:=Instr.fill (fun i=>some (i*z,z)) ((Array.range (n*z)).map (zero[· % zero.size]!)) a.toList | stuck "buildSlice: a part of the wrong size"
    pure (.slice (some (<- newRow e cells)) n n)) (do
    let some cells:=Instr.fill (fun i=>some (i*z,z)) ((Array.range (n*z)).map (zero[· % zero.size]!)) b.toList | stuck "buildSlice: a part of the wrong size"
    pure (.slice (some (<- newRow e cells)) n n)):=by
   intro s3 zero hok3 hs3 hr;rcases Ig (X:=X) (fun i=>some (i*z,z)) (((h.mono hs).mono hs2).mono hs3) hr with⟨e1,e2⟩ | ⟨x,y,e1,e2,hxy⟩
   . rw[e1,e2]; exact Ag
   . rw[e1,e2];exact(Eg hok3 e hxy).bind hok3 fun s4 p q _ _ hpq=>.ret (.slice _ _ hpq)
  split
  . rename_i h0;refine rest #[] hok2 (Rho.le_refl _) ?_;rw[h0];exact⟨rfl,fun i x y hx=>by simp at hx⟩
  . refine(BV hok2 (hz e hd)).bind hok2 ?_;rintro s3 v _ hs3 hok3 ⟨rfl,hp⟩;have hpc:∀ x∈v.cells,Plain x:=by
     intro x hx;cases hp with
     | agg h=>exact h x hx
     | tuple hne h =>
      obtain rfl:x=_:=by simpa[Value.cells] using hx
      exact .tuple hne h
     | _ =>
      obtain rfl:x=_:=by simpa[Value.cells] using hx
      constructor
    refine rest v.cells hok3 hs3 (ArrR.map _ _ (fun i=>?_) _);by_cases hi:i % v.cells.size<v.cells.size
    . rw[getElem!_pos v.cells _ hi]; exact(hpc _ (Array.getElem_mem hi)).rel
    . rw[getElem!_neg v.cells _ hi]; exact Plain.rel (by first | exact .bool _ | exact .int _ _ | exact .nilIface | exact .tuple (fun x hx=>by simp at hx))
 | _=>exact Ag
theorem Ip(ok:X.Ok r){src dst:TypeId}(hs:∃ k,X.P.underlying src=some (.int k))(hd:∃ k,X.P.underlying dst=some (.int k)){v v':Value}(h:VR X.L r v v'):SemR X (Cq X) r (convert src dst v) (convert src dst v'):=by
 unfold convert;obtain⟨k1,hs⟩:=hs;obtain⟨k2,hd⟩:=hd;refine(Ak src).bind ok ?_;rintro s d _ hs1 hok ⟨rfl,e1⟩;rw[hs] at e1;obtain rfl:=Option.some.inj e1;refine(Ak dst).bind hok ?_;rintro s2 d _ hs2 hok2 ⟨rfl,e2⟩;rw[hd] at e2;obtain rfl:=Option.some.inj e2;have hv:=(h.mono hs1).mono hs2;cases hv with
 | int k n=>exact .ret (.int _ _)
 | ptr _=>exact .halt .observed
 | _=>exact .halt (.noEntry _)
theorem Ld(ok:X.Ok r)(t:TypeId){a b:Option Value}(h:OptV X r a b):SemR X (Cq X) r (Instr.makeMap t a) (Instr.makeMap t b):=by
 have make:∀{s:Rho},X.Ok s->SemR X (Cq X) s (do pure (.map (some (<- newObj (.map #[] 0))))) (do pure (.map (some (<- newObj (.map #[] 0))))):=fun hok =>
  (FP (.map 0 rfl fun i x y hx=>by simp at hx)).bind hok fun s i j _ _ hij=>.ret (.map hij)
 unfold Instr.makeMap;rcases h with⟨rfl,rfl⟩ | ⟨x,y,rfl,rfl,h⟩
 . exact make ok
 . dsimp only;refine(Ak t).bind ok ?_;rintro s d _ hs hok ⟨rfl,hd⟩;cases d with
   | map k e =>
    dsimp only;exact(Fp hok (h.mono hs)).andThen hok fun s2 a _ hok2=>make hok2
   | _=>exact Ag
theorem FV{t:TypeId}(ht:BF X t)(b:Bool)(n:Nat)(ok:X.Ok r)(v v':Value):SemR X Cz r (Instr.checkKey b (n+1) t v) (Instr.checkKey b (n+1) t v'):=by
 unfold Instr.checkKey;refine(Ak t).bind ok ?_;rintro s d _ hs hok ⟨rfl,hd⟩;rcases ht with⟨k,e⟩ | e | e
 all_goals
  rw[e] at hd;obtain rfl:=Option.some.inj hd;exact .ret rfl
def Sc:Value->Prop
 | .bool _ | .int _ _ | .string _ | .pointer _=>True
 | _=>False
def FindR(X:Ctx)(k:Value)(es:List MapEntry)(i0:Nat)(r:Rho)(a b:Option (Nat × Value)):Prop:=(a=none/\b=none)\/∃ i x y e,a=some (i0+i,x)/\b=some (i0+i,y)/\VR X.L r x y/\es[i]?=some e/\Sc k/\Sc e.key
theorem FindR.mono{s:Rho}{k:Value}{es:List MapEntry}{i0:Nat}{a b:Option (Nat × Value)}(h:FindR X k es i0 r a b)(q:r.le s):FindR X k es i0 s a b:=h.imp id fun⟨i,x,y,z,e,f,g,u⟩=>⟨i,x,y,z,e,f,g.mono q,u⟩
theorem FindR.next{k:Value}{es:List MapEntry}{i0:Nat}{a b:Option (Nat × Value)}{x:MapEntry}(h:FindR X k es (i0+1) r a b):FindR X k (x::es) i0 r a b:=by
 rcases h with h | ⟨i,u,v,z,rfl,rfl,g,e,w⟩
 . exact .inl h
 . exact .inr ⟨i+1,u,v,z,by rw[show i0+1+i=i0+(i+1) by omega],by rw[show i0+1+i=i0+(i+1) by omega],g,by simpa using e,w⟩
inductive EsR(L:Good)(r:Rho):List MapEntry->List MapEntry->Prop
 | nil:EsR L r [] []
 | cons {x y:MapEntry} {a b:List MapEntry} (h:EntR L r x y) (k:EsR L r a b):EsR L r (x::a) (y::b)
theorem EntR.mono{L:Good}{s:Rho}{x y:MapEntry}(h:EntR L r x y)(k:r.le s):EntR L s x y:=⟨h.key.mono k,h.val.mono k,h.born⟩
theorem EsR.mono{L:Good}{s:Rho}{a b:List MapEntry}(h:EsR L r a b)(k:r.le s):EsR L s a b:=by
 induction h with
 | nil=>exact .nil
 | cons h _ ih=>exact .cons (h.mono k) ih
theorem EsR.of{L:Good}:∀{a b:List MapEntry},a.length=b.length->(∀(i:Nat) (x y:MapEntry),a[i]?=some x->b[i]?=some y->EntR L r x y)->EsR L r a b
 | [],[],_,_=>.nil
 | [],_::_,h,_=>by simp at h
 | _::_,[],h,_=>by simp at h
 | x::a,y::b,h,k=>.cons (k 0 x y rfl rfl) (EsR.of (by simpa using h) fun i u v hu hv=>k (i+1) u v (by simpa using hu) (by simpa using hv))
theorem EsR.to{a b:Array MapEntry}(h:a.size=b.size)(hk:∀(i:Nat) (x y:MapEntry),a[i]?=some x->b[i]?=some y->EntR X.L r x y):EsR X.L r a.toList b.toList :=
 EsR.of (by simpa using h) fun i x y hx hy=>hk i x y (by simpa using hx) (by simpa using hy)
theorem Le(d:TypeDesc){v v' u u':Value}(h:VR X.L r v v')(k:VR X.L r u u'):Instr.sameNow d v' u'=Instr.sameNow d v u\/v=undef\/u=undef:=by
 cases h with
 | junk _=>exact .inr (.inl rfl)
 | _ =>
  cases k with
  | junk _=>exact .inr (.inr rfl)
  | _=>first | exact .inl rfl | (refine .inl ?_; unfold Instr.sameNow; cases d<;>rfl)
theorem Iq{t:TypeId}{d:TypeDesc}(hd:X.P.underlying t=some d){α:Type}{g:TypeDesc->Sem α}(h:Dead X.P (g d)):Dead X.P (underlying t >>= g):=by
 unfold underlying;refine .program ?_;simp only[Sem.bind,pure];rw[hd];exact h
theorem Oq{t:TypeId}{d:TypeDesc}(hd:X.P.underlying t=some d){α β:Type}{g:TypeDesc->Sem α}{f:α->Sem β}(h:Dead X.P (g d >>= f)):Dead X.P ((underlying t >>= g) >>= f):=by
 unfold underlying;refine .program ?_;simp only[Sem.bind,pure];rw[hd];exact h
theorem Ft{t:TypeId}{d:TypeDesc}(ht:BF X t)(hd:X.P.underlying t=some d){v u:Value}(h:¬ (Sc v/\Sc u)):Dead X.P (Op.equal t v u):=by
 have hd':∀ d',X.P.underlying t=some d'->d'=d:=fun d' h=>Option.some.inj (h.symm.trans hd);have key:Dead X.P (Op.equal t v u):=by
  show Dead X.P (Op.equalIn (9999+1) t v u)
  unfold Op.equalIn;refine Iq hd ?_;rcases ht with⟨kk,ht⟩ | ht | ht<;>obtain rfl:=hd' _ ht
  all_goals
   cases v with
   | pointer o =>
    cases u with
    | pointer p=>exact absurd ⟨trivial,trivial⟩ h
    | _=>cases o<;>first | exact .halt (.stuck _) | exact .halt .observed | exact absurd ⟨trivial,trivial⟩ h
   | _ =>
    cases u with
    | pointer p=>cases p<;>first | exact .halt (.stuck _) | exact .halt .observed | exact absurd ⟨trivial,trivial⟩ h
    | _=>first | exact .halt (.stuck _) | exact absurd ⟨trivial,trivial⟩ h
 exact key
theorem Lf{t:TypeId}{d:TypeDesc}(hd:X.P.underlying t=some d){v u:Value}(h:Instr.sameNow d v u=some false){α:Type}{f:Bool->Sem α}(hf:Dead X.P (f false)):Dead X.P (Op.equal t v u >>= f):=by
 show Dead X.P (Op.equalIn (9999+1) t v u >>= f)
 unfold Op.equalIn;refine Oq hd ?_;unfold Instr.sameNow at h;split at h
 . split at h
   . rename_i a b e;have e2:=Option.some.inj h;dsimp only[Sem.bind,bind,pure];rw[if_pos e];simp only[Sem.bind,e2];exact hf
   . cases h
 . have e2:=Option.some.inj h;simp only[Sem.bind,bind,pure,e2];exact hf
 . have e2:=Option.some.inj h;simp only[Sem.bind,bind,pure,e2];exact hf
 . cases h
theorem Uv{d:TypeDesc}{v u:Value}{b:Bool}(h:Instr.sameNow d v u=some b):Sc v/\Sc u:=by
 unfold Instr.sameNow at h;split at h<;>first | exact⟨trivial,trivial⟩ | cases h
theorem GZ{t:TypeId}(d:TypeDesc)(ht:BF X t)(hd:X.P.underlying t=some d){v v':Value}(hv:VR X.L r v v'):∀{a b:List MapEntry},EsR X.L r a b->∀ i,(Instr.findNow d v a i=none/\Instr.findNow d v' b i=none)\/(∃ x y,Instr.findNow d v a i=some x/\Instr.findNow d v' b i=some y/\FindR X v a i r x y)\/Instr.findNow d v a i=none/\Dead X.P (Instr.findAsking t v a i)
 | _,_,.nil,i=>.inr (.inl ⟨none,none,rfl,rfl,.inl ⟨rfl,rfl⟩⟩)
 | _,_,.cons (x:=x) (y:=y) h k,i=>by
  rcases Le d hv h.key with e | e
  . unfold Instr.findNow;rw[e];cases hs:Instr.sameNow d v x.key with
    | none=>exact .inl ⟨rfl,rfl⟩
    | some b =>
     cases b with
     | true=>exact .inr (.inl ⟨_,_,rfl,rfl,.inr ⟨0,_,_,x,rfl,rfl,h.val,rfl,Uv hs⟩⟩)
     | false =>
      rcases GZ d ht hd hv k (i+1) with q | ⟨u,w,q1,q2,q3⟩ | ⟨q1,q2⟩
      . exact .inl q
      . exact .inr (.inl ⟨u,w,q1,q2,q3.next⟩)
      . refine .inr (.inr ⟨q1,?_⟩);unfold Instr.findAsking;exact Lf hd hs q2
  . refine .inr (.inr ⟨?_,?_⟩)
    . unfold Instr.findNow;have:Instr.sameNow d v x.key=none:=by
       rcases e with rfl | e
       . cases d<;>rfl
       . rw[e]; cases d<;>cases v<;>rfl
      rw[this]
    . unfold Instr.findAsking;refine(Ft ht hd (fun q=>?_)).bind;rcases e with rfl | e
      . exact q.1
      . rw[e] at q; exact q.2
theorem Lg{t:TypeId}(ht:BF X t)(ok:X.Ok r){v v' u u':Value}(h:VR X.L r v v')(k:VR X.L r u u'){α:Type}{R:Rho->α->α->Prop}{f f':Bool->Sem α}(hf:∀ s b,r.le s->X.Ok s->Sc v/\Sc u->SemR X R s (f b) (f' b)):SemR X R r (Op.equal t v u >>= f) (Op.equal t v' u' >>= f'):=by
 by_cases hsc:Sc v/\Sc u
 . exact(show SemR X Cz r (Op.equal t v u) (Op.equal t v' u') from C7 ht 9999 ok h k).andThen ok fun s b hs hok=>hf s b hs hok hsc
 . obtain⟨d,hd⟩:∃ d,X.P.underlying t=some d:=by
    rcases ht with⟨kk,e⟩ | e | e<;>exact⟨_,e⟩
   exact .dead (Ft ht hd hsc).bind
theorem Ew{t:TypeId}(ht:BF X t):∀{a b:List MapEntry} {r:Rho},X.Ok r->∀{v v':Value},VR X.L r v v'->EsR X.L r a b->∀ i,SemR X (fun s=>FindR X v a i s) r (Instr.findAsking t v a i) (Instr.findAsking t v' b i)
 | _,_,r,ok,v,v',hv,.nil,i=>.ret (.inl ⟨rfl,rfl⟩)
 | _,_,r,ok,v,v',hv,.cons (x:=x) (y:=y) h k,i=>by
  unfold Instr.findAsking;refine Lg ht ok hv h.key fun s b hs hok hsc=>?_;cases b with
  | true=>exact .ret (.inr ⟨0,_,_,x,rfl,rfl,h.val.mono hs,rfl,hsc⟩)
  | false=>exact(Ew ht hok (hv.mono hs) (k.mono hs) (i+1)).mono fun _ _ _ q=>q.next
theorem G4{t:TypeId}(ht:BF X t)(ok:X.Ok r){v v':Value}(hv:VR X.L r v v'){a b:List MapEntry}(h:EsR X.L r a b):SemR X (fun s=>FindR X v a 0 s) r (Instr.findKey t v a) (Instr.findKey t v' b):=by
 unfold Instr.findKey;refine(Ak t).bind ok ?_;rintro s d _ hs hok ⟨rfl,hd⟩;rcases GZ d ht hd (hv.mono hs) (h.mono hs) 0 with⟨e1,e2⟩ | ⟨x,y,e1,e2,e3⟩ | ⟨e1,e2⟩
 . rw[e1,e2]; exact Ew ht hok (hv.mono hs) (h.mono hs) 0
 . rw[e1,e2]; exact .ret e3
 . rw[e1]; exact .dead e2
theorem Mf(ok:X.Ok r){t:TypeId}(ht:∀ k e,X.P.underlying t=some (.map k e)->BF X k/\Cs X e){v v' u u':Value}(h:VR X.L r v v')(k:VR X.L r u u')(cm:Bool) :
 SemR X (Cq X) r (Instr.lookup t v u cm) (Instr.lookup t v' u' cm):=by
 unfold Instr.lookup;refine(Ak t).bind ok ?_;rintro s d _ hs hok ⟨rfl,hd⟩;cases d with
 | map kt et =>
  obtain⟨hkt,het⟩:=ht kt et hd;dsimp only;have tail:∀{s2:Rho} {es es':Array MapEntry},X.Ok s2->s.le s2->es.size=es'.size->EsR X.L s2 es.toList es'.toList->SemR X (Cq X) s2 (do
   Instr.checkKey es.isEmpty 10000 kt u
   let (v,ok) <- match <- Instr.findKey kt u es.toList with
    | some (_,v)=>pure (v,true)
    | none=>pure (<- zeroValue et,false)
   pure (if cm then .tuple #[v,.bool ok] else v)) (do
   Instr.checkKey es'.isEmpty 10000 kt u'
   let (v,ok) <- match <- Instr.findKey kt u' es'.toList with
    | some (_,v)=>pure (v,true)
    | none=>pure (<- zeroValue et,false)
   pure (if cm then .tuple #[v,.bool ok] else v)):=by
   intro s2 es es' hok2 hs2 hsz hes;have he:es'.isEmpty=es.isEmpty:=by simp only[Array.isEmpty,hsz]
   rw[he];refine(FV hkt _ 9999 hok2 u u').andThen hok2 fun s3 _ hs3 hok3=>?_;refine(G4 hkt hok3 (((k.mono hs).mono hs2).mono hs3) (hes.mono hs3)).bind hok3 fun s4 a b hs4 hok4 hf=>?_;have fin:∀{s5:Rho} {x y:Value} (b:Bool),VR X.L s5 x y->SemR X (Cq X) s5 (pure (if cm then Value.tuple #[x,.bool b] else x)) (pure (if cm then Value.tuple #[y,.bool b] else y)):=by
    intro s5 x y b hxy;cases cm with
    | true=>exact .ret ((ArrR.one hxy).push (.bool b)).tuple
    | false=>exact .ret hxy
   rcases hf with⟨rfl,rfl⟩ | ⟨i,x,y,z,rfl,rfl,hxy,_⟩
   . refine(BV hok4 het).bind hok4 ?_;rintro s5 z _ _ _ ⟨rfl,hp⟩;exact fin false hp.rel
   . exact fin true hxy
  have hv:=h.mono hs;cases hv with
  | mnil=>exact tail hok (Rho.le_refl _) rfl .nil
  | @map i j hij =>
   dsimp only;refine(Ct hij).bind hok fun s2 o o' hs2 hok2 ho=>?_;cases ho with
   | map n hsz hk=>exact tail hok2 hs2 hsz (EsR.to hsz hk)
   | _=>exact Ag
  | _=>exact Ag
 | _=>exact Ag
theorem addr_eq(ok:X.Ok r){a b a' b':Addr}(h:AR r a a')(k:AR r b b'):a'=b'↔a=b:=by
 obtain⟨x1,x2,x3⟩:=a;obtain⟨y1,y2,y3⟩:=b;obtain⟨z1,z2,z3⟩:=a';obtain⟨u1,u2,u3⟩:=b';obtain⟨h1,h2,h3⟩:=h;obtain⟨k1,k2,k3⟩:=k;dsimp only at h1 h2 h3 k1 k2 k3;subst h2 h3 k2 k3;simp only[Addr.mk.injEq];constructor
 . rintro⟨rfl,e2,e3⟩;exact⟨ok.inj h1 k1,e2,e3⟩
 . rintro⟨rfl,e2,e3⟩;exact⟨ok.fn h1 k1,e2,e3⟩
theorem Kc(ok:X.Ok r)(n:Nat){v v' u u':Value}(h:VR X.L r v v')(k:VR X.L r u u')(h1:Sc v)(h2:Sc u):Instr.sameBits n v' u'=Instr.sameBits n v u:=by
 have ptr:∀{a b a' b':Addr},AR r a a'->AR r b b'->((some a'==some b')=(some a==some b)):=by
  intro a b a' b' h k;have:=addr_eq ok h k;by_cases e:a=b
  . have e':=this.2 e;subst e e'; simp
  . have e':¬ a'=b':=fun x=>e (this.1 x);have f1:(a'==b')=false:=by
     cases hx:(a'==b') with
     | false=>rfl
     | true=>exact absurd (eq_of_beq hx) e'
    have f2:(a==b)=false:=by
     cases hx:(a==b) with
     | false=>rfl
     | true=>exact absurd (eq_of_beq hx) e
    show(a'==b')=(a==b)
    rw[f1,f2]
 cases h<;>first | exact h1.elim | skip
 all_goals cases k<;>first | exact h2.elim | rfl | (simp only[Instr.sameBits]; exact ptr (by assumption) (by assumption)) | simp[Instr.sameBits]
theorem GD(ok:X.Ok r){v v' u u':Value}(h:VR X.L r v v')(k:VR X.L r u u')(h1:Sc v)(h2:Sc u):SemR X (Cq X) r (Instr.keyThatStays v u) (Instr.keyThatStays v' u'):=by
 unfold Instr.keyThatStays;rw[Kc ok _ h k h1 h2];split
 . exact .ret k
 . refine(CN _).andThen ok fun s n hs _=>?_;split
   . exact .ret (k.mono hs)
   . exact .ret (h.mono hs)
theorem Fb(ok:X.Ok r){t:TypeId}(ht:∀ k e,X.P.underlying t=some (.map k e)->BF X k){v v' u u' z z':Value}(h:VR X.L r v v')(k:VR X.L r u u')(hz:VR X.L r z z') :
 SemR X Cz r (Instr.mapUpdate t v u z) (Instr.mapUpdate t v' u' z'):=by
 unfold Instr.mapUpdate;refine(Ak t).bind ok ?_;rintro s d _ hs hok ⟨rfl,hd⟩;cases d with
 | map kt et =>
  have hkt:=ht kt et hd;have hv:=h.mono hs;dsimp only;cases hv with
  | mnil=>exact A9 (.inr (.inl ⟨_,rfl⟩))
  | @map i j hij =>
   dsimp only;refine(Ct hij).bind hok fun s2 o o' hs2 hok2 ho=>?_;cases ho with
   | @map es es' n hsz hk =>
    dsimp only;refine(FV hkt _ 9999 hok2 u u').andThen hok2 fun s3 _ hs3 hok3=>?_;have hk3:∀(i:Nat) (x y:MapEntry),es[i]?=some x->es'[i]?=some y->EntR X.L s3 x y:=fun i x y hx hy=>(hk i x y hx hy).mono hs3;have hu:=((k.mono hs).mono hs2).mono hs3;have hzz:=((hz.mono hs).mono hs2).mono hs3;refine(G4 hkt hok3 hu (EsR.to hsz hk3)).bind hok3 fun s4 a b hs4 hok4 hf=>?_;rcases hf with⟨rfl,rfl⟩ | ⟨m,x,y,z,rfl,rfl,hxy,hz1,hsu,hsz1⟩
    rotate_left;rw[Nat.zero_add]
    rotate_right
    . dsimp only;refine CM (((hs2 _ _ hij |> hs3 _ _) |> hs4 _ _)) (.map _ (by simp[hsz]) fun l x y hx hy=>?_);rw[Array.getElem?_push] at hx hy;by_cases hl:l=es.size
      . rw[if_pos hl] at hx;rw[if_pos (hl.trans hsz)] at hy;cases hx; cases hy
        exact⟨hu.mono hs4,hzz.mono hs4,rfl⟩
      . rw[if_neg hl] at hx;rw[if_neg (fun e=>hl (e.trans hsz.symm))] at hy;exact(hk3 l x y hx hy).mono hs4
    . dsimp only;have hkey:VR X.L s4 (((es[m]?).map (·.key)).getD u) (((es'[m]?).map (·.key)).getD u'):=by
       by_cases hm:m<es.size
       . have hm':m<es'.size:=hsz▸hm;rw[Array.getElem?_eq_getElem hm,Array.getElem?_eq_getElem hm'];exact((hk3 m _ _ (Array.getElem?_eq_getElem hm) (Array.getElem?_eq_getElem hm')).key).mono hs4
       . have hm':¬ m<es'.size:=hsz▸hm;rw[Array.getElem?_eq_none (by omega),Array.getElem?_eq_none (by omega)];exact hu.mono hs4
      have hz2:es[m]?=some z:=by simpa using hz1
      refine(GD hok4 hkey (hu.mono hs4) (by rw[hz2]; exact hsz1) hsu).bind hok4 fun s5 p q hs5 hok5 hpq=>?_;refine CM ((((hs2 _ _ hij |> hs3 _ _) |> hs4 _ _) |> hs5 _ _)) (.map _ (by simp[hsz]) fun l x y hx hy=>?_);rw[Array.getElem?_modify] at hx hy;by_cases hl:m=l
      . rw[if_pos hl] at hx hy;obtain⟨x0,hx0,rfl⟩:=Option.map_eq_some_iff.1 hx;obtain⟨y0,hy0,rfl⟩:=Option.map_eq_some_iff.1 hy;exact⟨hpq,(hzz.mono hs4).mono hs5,(hk3 l _ _ hx0 hy0).born⟩
      . rw[if_neg hl] at hx hy;exact((hk3 l x y hx hy).mono hs4).mono hs5
   | _=>exact Ag
  | _=>exact Ag
 | _=>exact Ag
inductive BitOp:BinOp->Prop
 | and:BitOp .and
 | or:BitOp .or
 | xor:BitOp .xor
 | andNot:BitOp .andNot
theorem Lh(op:BinOp)(k:IntKind)(a b:Int):SemR X (Cq X) r (Op.intBits op k a b) (Op.intBits op k a b):=by
 unfold Op.intBits;cases op<;>first | exact .ret (.int _ _) | exact Ag
theorem RJ{op:BinOp}(ho:BitOp op)(ok:X.Ok r)(t:TypeId){v v' u u':Value}(h:VR X.L r v v')(k:VR X.L r u u'):SemR X (Cq X) r (binOp op t v u) (binOp op t v' u'):=by
 cases h with
 | int ka a =>
  cases k with
  | int kb b =>
   cases ho<;>(unfold binOp; dsimp only; split<;>first | exact Ag | exact Lh _ _ _ _)
  | ptr hab =>
   cases ho<;>(unfold binOp; dsimp only)<;>first
    | exact .halt .observed
    |
     (refine(Bm ok hab).bind ok ?_
      rintro s ⟨a,l⟩ ⟨a',l'⟩ hs hok ⟨_,h1⟩;exact Ev hok _ h1 _)
  | pnil=>cases ho<;>first | exact .halt .observed | exact Ag
  | _=>cases ho<;>exact Ag
 | ptr hab =>
  cases k with
  | int kb b =>
   cases ho<;>(unfold binOp; dsimp only)<;>first
    | exact .halt .observed
    |
     (refine(Bm ok hab).bind ok ?_
      rintro s ⟨a,l⟩ ⟨a',l'⟩ hs hok ⟨_,h1⟩;exact Ev hok _ h1 _)
  | _=>cases ho<;>first | exact .halt .observed | exact Ag
 | pnil=>cases k<;>cases ho<;>first | exact .halt .observed | exact Ag
 | string a =>
  cases k with
  | string b=>cases ho<;>(unfold binOp; dsimp only; exact C8 _ _ _)
  | ptr hab=>cases ho<;>first | exact .halt .observed | exact Ag
  | pnil=>cases ho<;>first | exact .halt .observed | exact Ag
  | _=>cases ho<;>exact Ag
 | _ =>
  cases k with
  | ptr hab=>cases ho<;>first | exact .halt .observed | exact Ag
  | pnil=>cases ho<;>first | exact .halt .observed | exact Ag
  | _=>cases ho<;>exact Ag
end
section
variable {X:Ctx} {r:Rho}
theorem Jp{v v':Value}(h:VR X.L r v v'):SemR X Cz r (Builtin.lenOf v) (Builtin.lenOf v'):=by
 unfold Builtin.lenOf;cases h with
 | slice n c _=>exact .ret rfl
 | snil n c=>exact .ret rfl
 | string s=>exact .ret rfl
 | _=>exact Ag
theorem B0(ok:X.Ok r)(z n:Nat){v v':Value}(h:VR X.L r v v'):SemR X (Uu X) r (Builtin.firstCells z n v) (Builtin.firstCells z n v'):=by
 unfold Builtin.firstCells;cases h with
 | slice m c hab=>exact E8 ok hab _
 | snil m c=>exact .ret .nil
 | string s=>exact .ret (ArrR.map _ _ (fun x=>.int _ _) _)
 | _=>exact Ag
theorem Fc{z:Array Value}(h:∀ x∈z,Plain x)(n:Nat):ArrR X.L r (Builtin.zeroCells z n) (Builtin.zeroCells z n):=by
 unfold Builtin.zeroCells;refine ArrR.map _ _ (fun i=>?_) _;by_cases hi:i % z.size<z.size
 . rw[getElem!_pos z _ hi]; exact(h _ (Array.getElem_mem hi)).rel
 . rw[getElem!_neg z _ hi]; exact Plain.rel (by first | exact .bool _ | exact .int _ _ | exact .nilIface | exact .tuple (fun x hx=>by simp at hx))
theorem Fe{α:Type}(z sl n:Nat)(base:Option Addr)(x:Value)(f:Bool->Sem α)(hf:∀ b,Dead X.P (f b)):Dead X.P (Builtin.mayShare z sl n base x >>= f):=by
 unfold Builtin.mayShare;have tail:∀ there:Bool,Dead X.P ((if (!there)=true then (pure true:Sem Bool) else match x with
  | .slice (some b) _ _=>do pure (!(<- Builtin.holdsCells b (n*z))||base.any (·.block==b.block))
  | _=>pure false) >>= f):=by
  intro there;cases there with
  | false=>exact hf true
  | true =>
   split
   . exact hf true
   . split
     . refine .shape fun y=>?_;cases y with
       | none=>exact hf _
       | some p=>exact hf _
     . exact hf false
 cases base with
 | none=>exact tail true
 | some a =>
  refine .shape fun y=>?_;cases y with
  | none=>exact .frozen fun c=>tail (false&&!c)
  | some p=>exact .frozen fun c=>tail ((a.spot.isNone&&a.off+sl*z<=p.2)&&!c)
theorem G6{v:Value}(hp:Plain v):∀ x∈v.cells,Plain x:=by
 intro x hx;cases hp with
 | agg h=>exact h x hx
 | tuple hne h =>
  obtain rfl:x=_:=by simpa[Value.cells] using hx
  exact .tuple hne h
 | _ =>
  obtain rfl:x=_:=by simpa[Value.cells] using hx
  constructor
theorem Mg(ok:X.Ok r){ts:Array TypeId}(ht:∀ t e,ts[0]?=some t->X.P.underlying t=some (.slice e)->Cs X e)(hsome:ts[1]?≠none)(hi:∀ t k,ts[1]?=some t->X.P.underlying t≠some (.int k))(t:TypeId){a b:Array Value}(h:ArrR X.L r a b) :
 SemR X (Cq X) r (Builtin.append_ ts t a) (Builtin.append_ ts t b):=by
 unfold Builtin.append_;cases h0:ts[0]? with
 | none=>exact Ag
 | some t0 =>
  cases ha:a[0]? with
  | none=>exact Ag
  | some v =>
   obtain⟨v',hb,hv⟩:=h.get? ha;rw[hb];cases ha1:a[1]? with
   | none=>exact Ag
   | some x =>
    obtain⟨x',hb1,hx⟩:=h.get? ha1;rw[hb1];dsimp only;refine(Ak t0).bind ok ?_;rintro s d _ hs hok ⟨rfl,hd⟩;cases d with
    | slice e =>
     have hz:=ht t0 e h0 hd;dsimp only;have hv:=hv.mono hs;have hx:=hx.mono hs;cases h1:ts[1]? with
     | none=>exact absurd h1 hsome
     | some t1 =>
      cases hv with
      | snil sLen sCap =>
       dsimp only;refine(Bl hok e).bind hok ?_;rintro s2 z _ hs2 hok2 ⟨rfl,_⟩;refine(Ak t1).bind hok2 ?_;rintro s3 d _ hs3 hok3 ⟨rfl,hd1⟩;refine SemR.bind hok3 (R:=fun _ a b=>a=false/\b=false) (.ret ⟨by cases d<;>first | rfl | exact absurd hd1 (hi t1 _ h1),by cases d<;>first | rfl | exact absurd hd1 (hi t1 _ h1)⟩) ?_;rintro s4 _ _ hs4 hok4 ⟨rfl,rfl⟩;simp only[Bool.false_eq_true,if_false,Bool.not_false,if_true,false_or];have hx4:=((hx.mono hs2).mono hs3).mono hs4;refine(Jp hx4).andThen hok4 fun s5 n hs5 hok5=>?_;have hx5:=hx4.mono hs5;by_cases hneed:sLen+n<=sCap
       . simp only[if_pos hneed];refine(B0 hok5 z n hx5).bind hok5 fun s6 c c' hs6 hok6 hc=>?_;exact .ret (.snil _ _)
       . simp only[if_neg hneed];refine(A7 e).bind hok5 ?_;rintro s6 i _ hs6 hok6 ⟨rfl,_⟩;split
         . exact SemR.bind hok6 (R:=fun _ _ _=>False) (A9 (.inl ⟨_,rfl⟩)) fun _ _ _ _ _ h=>h.elim
         refine(A7 e).bind hok6 ?_;rintro s7 i2 _ hs7 hok7 ⟨rfl,_⟩;split
         . exact .dead (Dead.bind (Fe _ _ _ _ _ _ fun b=>by cases b<;>first | exact .room (.halt (.limit _)) | exact .halt (.limit _)))
         refine(CN _).andThen hok7 fun s8 newCap hs8 hok8=>?_;refine(A7 e).bind hok8 ?_;rintro s9 i3 _ hs9 hok9 ⟨rfl,_⟩;refine(GX _).andThen hok9 fun s10 _ hs10 hok10=>?_;have hx10:=((((hx5.mono hs6).mono hs7).mono hs8).mono hs9).mono hs10;refine(B0 hok10 z sLen (v:=_) (v':=_) (.snil sLen sCap)).bind hok10 fun s11 c c' hs11 hok11 hc=>?_;refine(B0 hok11 z n (hx10.mono hs11)).bind hok11 fun s12 c2 c2' hs12 hok12 hc2=>?_;refine(BV hok12 hz).bind hok12 ?_;rintro s13 zv _ hs13 hok13 ⟨rfl,hzp⟩
         refine(Eg hok13 e ((((hc.mono hs12).mono hs13).append (hc2.mono hs13)).append (Fc (G6 hzp) _))).bind hok13 fun s14 p q _ _ hpq=>?_;exact .ret (.slice _ _ hpq)
      | slice sLen sCap hab =>
       dsimp only;refine(Bl hok e).bind hok ?_;rintro s2 z _ hs2 hok2 ⟨rfl,_⟩;refine(Ak t1).bind hok2 ?_;rintro s3 d _ hs3 hok3 ⟨rfl,hd1⟩;refine SemR.bind hok3 (R:=fun _ a b=>a=false/\b=false) (.ret ⟨by cases d<;>first | rfl | exact absurd hd1 (hi t1 _ h1),by cases d<;>first | rfl | exact absurd hd1 (hi t1 _ h1)⟩) ?_;rintro s4 _ _ hs4 hok4 ⟨rfl,rfl⟩;simp only[Bool.false_eq_true,if_false,Bool.not_false,if_true,false_or];have hx4:=((hx.mono hs2).mono hs3).mono hs4;refine(Jp hx4).andThen hok4 fun s5 n hs5 hok5=>?_;have hx5:=hx4.mono hs5;by_cases hneed:sLen+n<=sCap
       . simp only[if_pos hneed];refine(B0 hok5 z n hx5).bind hok5 fun s6 c c' hs6 hok6 hc=>?_;have hab6:=((((hab.mono hs2).mono hs3).mono hs4).mono hs5).mono hs6;exact(Et hok6 (hab6.add _) 0 hc.toList).andThen hok6 fun s7 _ hs7 _=>.ret (.slice _ _ (hab6.mono hs7))
       . simp only[if_neg hneed];refine(A7 e).bind hok5 ?_;rintro s6 i _ hs6 hok6 ⟨rfl,_⟩;split
         . exact SemR.bind hok6 (R:=fun _ _ _=>False) (A9 (.inl ⟨_,rfl⟩)) fun _ _ _ _ _ h=>h.elim
         refine(A7 e).bind hok6 ?_;rintro s7 i2 _ hs7 hok7 ⟨rfl,_⟩;split
         . exact .dead (Dead.bind (Fe _ _ _ _ _ _ fun b=>by cases b<;>first | exact .room (.halt (.limit _)) | exact .halt (.limit _)))
         refine(CN _).andThen hok7 fun s8 newCap hs8 hok8=>?_;refine(A7 e).bind hok8 ?_;rintro s9 i3 _ hs9 hok9 ⟨rfl,_⟩;refine(GX _).andThen hok9 fun s10 _ hs10 hok10=>?_;have hx10:=((((hx5.mono hs6).mono hs7).mono hs8).mono hs9).mono hs10;refine(B0 hok10 z sLen (v:=_) (v':=_) (.slice sLen sCap (hab.mono (Rho.le_trans hs2 (Rho.le_trans hs3 (Rho.le_trans hs4 (Rho.le_trans hs5 (Rho.le_trans hs6 (Rho.le_trans hs7 (Rho.le_trans hs8 (Rho.le_trans hs9 hs10))))))))))).bind hok10 fun s11 c c' hs11 hok11 hc=>?_;refine(B0 hok11 z n (hx10.mono hs11)).bind hok11 fun s12 c2 c2' hs12 hok12 hc2=>?_
         refine(BV hok12 hz).bind hok12 ?_;rintro s13 zv _ hs13 hok13 ⟨rfl,hzp⟩;refine(Eg hok13 e ((((hc.mono hs12).mono hs13).append (hc2.mono hs13)).append (Fc (G6 hzp) _))).bind hok13 fun s14 p q _ _ hpq=>?_;exact .ret (.slice _ _ hpq)
      | _=>exact Ag
    | _=>exact Ag
end
section
variable {X:Ctx} {r:Rho}
theorem Tj{t:TypeId}(ht:EqT X t)(ok:X.Ok r){v v' u u':Value}(hn:(∃ e,X.P.underlying t=some (.pointer e))->Md v u)(h:VR X.L r v v')(k:VR X.L r u u'):SemR X Cz r (Op.equal t v u) (Op.equal t v' u'):=by
 unfold Op.equal;rw[show Op.maxDepth=9998+2 from rfl];cases ht with
 | scalar hs=>exact C7 hs _ ok h k
 | pointer e he=>exact Om he _ ok (hn ⟨e,he⟩) h k
 | struct fs hf hk=>exact Ka hf hk 9997 ok h k
theorem Mh{t:TypeId}(ht:EqT X t){v u:Value}(h:v=undef\/u=undef):Dead X.P (Op.equal t v u):=by
 have nsc:¬ (Sc v/\Sc u):=fun q=>by
  rcases h with rfl | rfl
  . exact q.1
  . exact q.2
 cases ht with
 | scalar hs =>
  obtain⟨d,hd⟩:∃ d,X.P.underlying t=some d:=by
   rcases hs with⟨kk,e⟩ | e | e<;>exact⟨_,e⟩
  exact Ft hs hd nsc
 | pointer e he =>
  show Dead X.P (Op.equalIn (9999+1) t v u)
  unfold Op.equalIn;refine Iq he ?_;rcases h with rfl | rfl
  . cases u<;>exact .halt (.stuck _)
  . cases v with
    | pointer o=>cases o<;>exact .halt (.stuck _)
    | _=>exact .halt (.stuck _)
 | struct fs hf hk =>
  show Dead X.P (Op.equalIn (9999+1) t v u)
  unfold Op.equalIn;refine Iq hf ?_;rcases h with rfl | rfl
  . cases u<;>exact .halt (.stuck _)
  . cases v<;>exact .halt (.stuck _)
theorem Kd{op:BinOp}(ho:op=.eql\/op=.neq){t:TypeId}(ht:EqT X t)(x y:Operand){v u:Value}(h:v=undef\/u=undef):Dead X.P (do eqGuard op t x y v u; binOp op t v u):=by
 have e1:eqGuard op t x y v u=pure ():=by
  unfold eqGuard;rcases ho with rfl | rfl<;>rcases h with rfl | rfl
  . rfl
  . cases v<;>rfl
  . rfl
  . cases v<;>rfl
 rw[e1]
 show Dead X.P (binOp op t v u)
 have e2:=Mh ht h;rcases ho with rfl | rfl
 . have:binOp .eql t v u=(do pure (.bool (<- Op.equal t v u))):=by
    rcases h with rfl | rfl
    . cases u<;>rfl
    . cases v<;>rfl
   rw[this];exact e2.bind
 . have:binOp .neq t v u=(do pure (.bool (!(<- Op.equal t v u)))):=by
    rcases h with rfl | rfl
    . cases u<;>rfl
    . cases v<;>rfl
   rw[this];exact e2.bind
theorem Ot{op:BinOp}(ho:op=.eql\/op=.neq){t:TypeId}(ht:EqT X t)(hg:X.P.eqGuardType X.P.depth t=false)(x y:Operand)(ok:X.Ok r){v v' u u':Value}(h:VR X.L r v v')(k:VR X.L r u u')(hv:v≠undef)(hu:u≠undef):SemR X Cz r (eqGuard op t x y v u) (eqGuard op t x y v' u'):=by
 unfold eqGuard;have tail:∀{s:Rho},X.Ok s->SemR X Cz s
  (do if <- Op.eqGuardIn Op.maxDepth t .nilIface .nilIface then unsupported (.noEntry "binop/eql: two nil values of an interface type with methods, neither of them the literal nil"))
  (do if <- Op.eqGuardIn Op.maxDepth t .nilIface .nilIface then unsupported (.noEntry "binop/eql: two nil values of an interface type with methods, neither of them the literal nil")):=by
  intro s ok;rw[show Op.maxDepth=9999+1 from rfl];unfold Op.eqGuardIn;refine SemR.andThen ok ((Ak t).bind ok (S:=Cz) ?_) fun s2 b hs2 hok2=>?_
  . rintro s2 d _ hs2 hok2 ⟨rfl,hd⟩;cases d<;>exact .ret rfl
  . split
    . exact .halt (.noEntry _)
    . exact .ret rfl
 rcases ho with rfl | rfl
 all_goals
  simp only[Bool.not_true,Bool.false_eq_true,if_false];cases h with
  | nilIface =>
   cases k with
   | nilIface =>
    dsimp only
    repeat' split
    all_goals first | exact SemR.pure (R:=Cz) rfl | exact tail ok
   | junk _=>exact absurd rfl hu
   | _=>exact SemR.pure (R:=Cz) rfl
  | agg ha ka =>
   cases k with
   | agg hb kb =>
    dsimp only;refine Bv ?_;refine Bv ?_;rw[hg];exact SemR.pure (R:=Cz) rfl
   | junk _=>exact absurd rfl hu
   | _=>exact SemR.pure (R:=Cz) rfl
  | junk _=>exact absurd rfl hv
  | _=>cases k<;>first | exact SemR.pure (R:=Cz) rfl | exact absurd rfl hu
theorem Li{op:BinOp}(ho:op=.eql\/op=.neq){t:TypeId}(ht:EqT X t)(ok:X.Ok r){v v' u u':Value}(hn:(∃ e,X.P.underlying t=some (.pointer e))->Md v u)(h:VR X.L r v v')(k:VR X.L r u u')(hv:v≠undef)(hu:u≠undef):SemR X (Cq X) r (binOp op t v u) (binOp op t v' u'):=by
 have e1:=Tj ht ok hn h k;have gen:∀(f:Bool->Bool),SemR X (Cq X) r (do pure (.bool (f (<- Op.equal t v u)))) (do pure (.bool (f (<- Op.equal t v' u')))) :=
  fun f=>e1.andThen ok fun _ _ _ _=>.ret (.bool _)
 rcases ho with rfl | rfl
 . have g:=gen id;cases h with
   | int ka a =>
    cases k with
    | int kb b=>unfold binOp; dsimp only; split<;>first | exact Ag | exact Fs _ _ _
    | junk _=>exact absurd rfl hu
    | _=>exact g
   | string a =>
    cases k with
    | string b=>unfold binOp; dsimp only; exact C8 _ _ _
    | junk _=>exact absurd rfl hu
    | _=>exact g
   | junk _=>exact absurd rfl hv
   | _=>cases k<;>first | exact g | exact absurd rfl hu
 . have g:=gen not;cases h with
   | int ka a =>
    cases k with
    | int kb b=>unfold binOp; dsimp only; split<;>first | exact Ag | exact Fs _ _ _
    | junk _=>exact absurd rfl hu
    | _=>exact g
   | string a =>
    cases k with
    | string b=>unfold binOp; dsimp only; exact C8 _ _ _
    | junk _=>exact absurd rfl hu
    | _=>exact g
   | junk _=>exact absurd rfl hv
   | _=>cases k<;>first | exact g | exact absurd rfl hu
inductive OdOk(X:Ctx)(gl:Nat->Prop):Operand->Prop
 | tmp (t:Tmp):OdOk X gl (.tmp t)
 | const {v:Value} (h:∀(L:Good) (r:Rho),VR L r v v):OdOk X gl (.const v)
 | global {n:Nat} (h:gl n):OdOk X gl (.global n)
 | func {f:FuncId} (h:X.L f):OdOk X gl (.func f)
inductive CallOk(X:Ctx)(gl:Nat->Prop):Call->Prop
 | value {f:Operand} {a:Array Operand} {ts:Array TypeId} (hf:OdOk X gl f) (ha:∀ x∈a,OdOk X gl x):CallOk X gl { callee:=.value f,args:=a,argTypes:=ts }
 | invoke {x:Operand} {n:String} {a:Array Operand} {ts:Array TypeId} (hx:OdOk X gl x) (ha:∀ x∈a,OdOk X gl x):CallOk X gl { callee:=.invoke x n,args:=a,argTypes:=ts }
 | len {a:Array Operand} {ts:Array TypeId} (ht:∀ t d e,ts[0]?=some t->X.P.underlying t≠some (.chan d e)) (ha:∀ x∈a,OdOk X gl x):CallOk X gl { callee:=.builtin .len,args:=a,argTypes:=ts }
 | min {a:Array Operand} {ts:Array TypeId} (ha:∀ x∈a,OdOk X gl x):CallOk X gl { callee:=.builtin .min,args:=a,argTypes:=ts }
 | max {a:Array Operand} {ts:Array TypeId} (ha:∀ x∈a,OdOk X gl x):CallOk X gl { callee:=.builtin .max,args:=a,argTypes:=ts }
 | append {a:Array Operand} {ts:Array TypeId} (ht:∀ t e,ts[0]?=some t->X.P.underlying t=some (.slice e)->Cs X e) (hsome:ts[1]?≠none) (hi:∀ t k,ts[1]?=some t->X.P.underlying t≠some (.int k)) (ha:∀ x∈a,OdOk X gl x):CallOk X gl { callee:=.builtin .append,args:=a,argTypes:=ts }
inductive OpOk(X:Ctx)(gl:Nat->Prop):Op->Prop
 | move {x:Operand} (h:OdOk X gl x):OpOk X gl (.move x)
 | assign {x:Operand} (h:OdOk X gl x):OpOk X gl (.assign x)
 | pick {c a b:Operand} (hc:OdOk X gl c) (ha:OdOk X gl a) (hb:OdOk X gl b):OpOk X gl (.pick c a b)
 | alloc {t:TypeId} (h:Cs X t):OpOk X gl (.alloc t)
 | box {t:TypeId} {x:Operand} (h:OdOk X gl x):OpOk X gl (.box t x)
 | build {t:TypeId} {ps:Array (Nat × Operand)} (hz:Cs X t) (h:∀ p∈ps,OdOk X gl p.2):OpOk X gl (.build t ps)
 | load {t:TypeId} {x:Operand} (h:OdOk X gl x):OpOk X gl (.load t x)
 | store {t:TypeId} {x y:Operand} (h:OdOk X gl x) (k:OdOk X gl y):OpOk X gl (.store t x y)
 | nilCheck {x:Operand} (h:OdOk X gl x):OpOk X gl (.nilCheck x)
 | arith {op:BinOp} {t u:TypeId} {x y:Operand} (ho:ArithOp op) (ht:X.P.underlying t≠some .unsafePointer) (h:OdOk X gl x) (k:OdOk X gl y):OpOk X gl (.binOp op t x y u)
 | compare {op:BinOp} {t u:TypeId} {x y:Operand} (ho:op=.eql\/op=.neq) (ht:EqT X t) (hg:X.P.eqGuardType X.P.depth t=false) (hn:(∃ e,X.P.underlying t=some (.pointer e))->x=.const (.pointer none)\/y=.const (.pointer none)) (h:OdOk X gl x) (k:OdOk X gl y):OpOk X gl (.binOp op t x y u)
 | bits {op:BinOp} {t u:TypeId} {x y:Operand} (ho:BitOp op) (h:OdOk X gl x) (k:OdOk X gl y):OpOk X gl (.binOp op t x y u)
 | unOp {op:UnOp} {t:TypeId} {x:Operand} (h:OdOk X gl x):OpOk X gl (.unOp op t x)
 | makeInterface {t:TypeId} {x:Operand} (ht:X.L.t t) (h:OdOk X gl x):OpOk X gl (.makeInterface t x)
 | makeFunc {f:FuncId} {a b:Array Operand} (hf:X.L f) (h:∀ x∈a,OdOk X gl x) (k:∀ x∈b,OdOk X gl x):OpOk X gl (.makeFunc (.func f) a b)
 | fieldAddr {t:TypeId} {x:Operand} {n:Nat} (h:OdOk X gl x):OpOk X gl (.fieldAddr t x n)
 | field {t:TypeId} {x:Operand} {n:Nat} (h:OdOk X gl x):OpOk X gl (.field t x n)
 | indexAddr {t:TypeId} {x y:Operand} (h:OdOk X gl x) (k:OdOk X gl y):OpOk X gl (.indexAddr t x y)
 | index {t:TypeId} {x y:Operand} (h:OdOk X gl x) (k:OdOk X gl y):OpOk X gl (.index t x y)
 | typeAssert {x:Operand} {t u:TypeId} (hz:Cs X u) (h:OdOk X gl x):OpOk X gl (.typeAssert x t u true)
 | extract {x:Operand} {n:Nat} (h:OdOk X gl x):OpOk X gl (.extract x n)
 | call {c:Call} (h:CallOk X gl c):OpOk X gl (.call c)
 | slice {t:TypeId} {x:Operand} {lo hi mx:Option Operand} (h:OdOk X gl x) (h1:∀ y∈lo,OdOk X gl y) (h2:∀ y∈hi,OdOk X gl y) (h3:∀ y∈mx,OdOk X gl y):OpOk X gl (.slice t x lo hi mx)
 | buildSlice {t:TypeId} {n:Nat} {ps:Array (Nat × Operand)} (hz:∀ e,X.P.underlying t=some (.slice e)->Cs X e) (h:∀ p∈ps,OdOk X gl p.2):OpOk X gl (.buildSlice t n ps)
 | convert {s t:TypeId} {x:Operand} (hs:∃ k,X.P.underlying s=some (.int k)) (ht:∃ k,X.P.underlying t=some (.int k)) (h:OdOk X gl x):OpOk X gl (.convert s t x)
 | makeMap {t:TypeId} {o:Option Operand} (h:∀ y∈o,OdOk X gl y):OpOk X gl (.makeMap t o)
 | lookup {t:TypeId} {x y:Operand} {cm:Bool} (ht:∀ k e,X.P.underlying t=some (.map k e)->BF X k/\Cs X e) (h:OdOk X gl x) (k:OdOk X gl y):OpOk X gl (.lookup t x y cm)
 | insert {t:TypeId} {x y z:Operand} (ht:∀ k e,X.P.underlying t=some (.map k e)->BF X k) (h:OdOk X gl x) (k:OdOk X gl y) (l:OdOk X gl z):OpOk X gl (.insert t x y z)
 | mapUpdate {t:TypeId} {x y z:Operand} (ht:∀ k e,X.P.underlying t=some (.map k e)->BF X k) (h:OdOk X gl x) (k:OdOk X gl y) (l:OdOk X gl z):OpOk X gl (.mapUpdate t x y z)
theorem AP(ok:X.Ok r){x x':Sem Value}(h:SemR X (Cq X) r x x'):SemR X (fun s=>NextR X s) r (do pure (.value (<- x))) (do pure (.value (<- x'))):=h.bind ok fun s a b _ _ k=>.ret (.value k)
theorem Ir(ok:X.Ok r){x x':Sem Unit}(h:SemR X Cz r x x'):SemR X (fun s=>NextR X s) r (do x; pure .skip) (do x'; pure .skip):=h.andThen ok fun s a _ _=>.ret .skip
theorem Ex{gl:Nat->Prop}{ev ev':Operand->Value}(he:∀ x,OdOk X gl x->VR X.L r (ev x) (ev' x)){a:Array Operand}(ha:∀ x∈a,OdOk X gl x):ArrR X.L r (a.map ev) (a.map ev'):=by
 refine⟨by simp,fun i u v hu hv=>?_⟩;rw[Array.getElem?_map] at hu hv;cases hx:a[i]? with
 | none=>rw[hx] at hu; cases hu
 | some x=>rw[hx] at hu hv; cases hu; cases hv; exact he x (ha x (Array.mem_of_getElem? hx))
theorem Is{gl:Nat->Prop}{ev ev':Operand->Value}(he:∀ x,OdOk X gl x->VR X.L r (ev x) (ev' x)):∀{ps:List (Nat × Operand)},(∀ p∈ps,OdOk X gl p.2)->PsR X.L r (ps.map fun x=>(x.1,ev x.2)) (ps.map fun x=>(x.1,ev' x.2))
 | [],_=>.nil
 | p::ps,h=>.cons (he p.2 (h p (List.mem_cons_self ..))) (Is he fun q hq=>h q (List.mem_cons_of_mem _ hq))
theorem Hu{gl:Nat->Prop}{ev ev':Operand->Value}(he:∀ x,OdOk X gl x->VR X.L r (ev x) (ev' x)){o:Option Operand}(ho:∀ y∈o,OdOk X gl y):OptV X r (o.map ev) (o.map ev'):=by
 cases o with
 | none=>exact .inl ⟨rfl,rfl⟩
 | some x=>exact .inr ⟨_,_,rfl,rfl,he x (ho x rfl)⟩
theorem FW(lw:Lawful X)(ok:X.Ok r){f g:Fn}{c d a b:Array Value}(hf:FnR X.L r f g)(hc:ArrR X.L r c d)(ha:ArrR X.L r a b):SemR X (fun s=>NextR X s) r (invoke (.fn f c) a) (invoke (.fn g d) b):=by
 cases hf with
 | func f hL=>exact FU lw ok hL (ha.append hc)
 | yield h=>exact Oj ok h ha
theorem P3(lw:Lawful X)(ok:X.Ok r){gl:Nat->Prop}{ev ev':Operand->Value}(he:∀ x,OdOk X gl x->VR X.L r (ev x) (ev' x)){c:Call}(hc:CallOk X gl c)(t:TypeId) :
 SemR X (fun s=>NextR X s) r (do let d <- resolve ev c t; invoke d.target d.args) (do let d <- resolve ev' c t; invoke d.target d.args):=by
 cases hc with
 | @value f a ts hf ha =>
  have hv:=he f hf;have hargs:=Ex he ha;unfold resolve;dsimp only;generalize ev f=v at hv;generalize ev' f=v' at hv;cases hv with
  | func hfn h1 k1 h2 k2=>exact FW lw ok hfn ⟨h2,k2⟩ ((show ArrR X.L r _ _ from⟨h1,k1⟩).append hargs)
  | nilFunc=>exact A9 (.inr (.inr (.inl rfl)))
  | nofunc f a c=>exact .dead (Fq (.inr (.inr (.inl rfl))))
  | _=>exact .halt (.stuck _)
 | @invoke x n a ts hx ha =>
  have hargs:=(ArrR.one (he x hx)).append (Ex he ha);unfold resolve
  show SemR X _ r (invoke (.fn (.method n) #[]) (#[ev x]++a.map ev)) (invoke (.fn (.method n) #[]) (#[ev' x]++a.map ev'))
  unfold invoke;dsimp only;have e1:(#[ev x]++a.map ev)[0]?=some (ev x):=by simp[Array.getElem?_append]
  have e2:(#[ev' x]++a.map ev')[0]?=some (ev' x):=by simp[Array.getElem?_append]
  rw[e1,e2,hargs.1];exact Il lw ok (he x hx) n (hargs.extract _ _)
 | @len a ts ht ha=>exact AP ok (RG ok _ ht _ (Ex he ha))
 | @min a ts ha=>exact AP ok (RH ok _ _ (Ex he ha))
 | @max a ts ha=>exact AP ok (RI ok _ _ (Ex he ha))
 | @append a ts ht hsome hi ha=>exact AP ok (Mg ok ht hsome hi _ (Ex he ha))
theorem Lj(lw:Lawful X)(ok:X.Ok r){gl:Nat->Prop}{ev ev':Operand->Value}(hk:∀ v,ev (.const v)=v)(he:∀ x,OdOk X gl x->VR X.L r (ev x) (ev' x)){o:Oper}(ho:OpOk X gl o.op):SemR X (fun s=>NextR X s) r (execOp ev o) (execOp ev' o):=by
 obtain⟨dst,op,ty,pos,after,guard⟩:=o;dsimp only at ho;unfold execOp;cases ho with
 | move h=>exact .ret (.value (he _ h))
 | assign h=>exact .ret (.value (he _ h))
 | pick hc ha hb =>
  dsimp only;refine(L9 (he _ hc)).andThen ok fun s b hs _=>?_;cases b
  . exact .ret (.value ((he _ hb).mono hs))
  . exact .ret (.value ((he _ ha).mono hs))
 | alloc h=>exact AP ok (Oe ok h)
 | box h=>exact AP ok (RF ok _ (he _ h))
 | @build t ps hz h =>
  refine AP ok (Oh ok hz ?_);have:=Is (ps:=ps.toList) he (fun p hp=>h p (by simpa using hp));simpa using this
 | load h=>exact AP ok (Ma ok _ (he _ h))
 | store h k=>exact Ir ok (KW ok _ (he _ h) (he _ k))
 | @nilCheck x h =>
  have hv:=he x h;dsimp only;generalize ev x=v at hv;generalize ev' x=v' at hv;cases hv with
  | pnil=>exact A9 (.inr (.inr (.inl rfl)))
  | nilIface=>exact A9 (.inr (.inr (.inl rfl)))
  | nilFunc=>exact A9 (.inr (.inr (.inl rfl)))
  | nofunc f a c=>exact .dead (Fq (.inr (.inr (.inl rfl))))
  | func hf h1 k1 h2 k2=>cases hf with
   | func f hL=>exact .ret (.value (.func (.func f hL) h1 k1 h2 k2))
   | yield hl=>exact .ret (.value (.func (.yield hl) h1 k1 h2 k2))
  | junk hj =>
   have:=hj;obtain⟨j1,j2,j3,j4,j5,_⟩:=this;cases v' with
   | pointer o=>cases o with
    | none=>exact absurd rfl j2
    | some a=>exact SemR.ret (R:=fun s=>NextR X s) (NextR.value (VR.junk hj))
   | nilIface=>exact absurd rfl j3
   | nilFunc=>exact absurd rfl j4
   | func f a c=>exact absurd rfl (j5 f a c)
   | _=>exact SemR.ret (R:=fun s=>NextR X s) (NextR.value (VR.junk hj))
  | tuple ha ka=>exact SemR.ret (R:=fun s=>NextR X s) (NextR.value (VR.tuple ha ka))
  | _=>exact .ret (.value (by constructor<;>assumption))
 | @arith op t u x y ho ht h k =>
  refine AP ok ?_;have hne:(!(op matches .eql | .neq))=true:=by cases ho<;>rfl
  refine SemR.andThen ok (x:=eqGuard op t x y (ev x) (ev y)) (x':=eqGuard op t x y (ev' x) (ev' y)) ?_ fun s _ hs hok=>On ho hok ht ((he _ h).mono hs) ((he _ k).mono hs);unfold eqGuard;cases ho<;>exact .ret rfl
 | @compare op t u x y ho ht hg hn h k =>
  refine AP ok ?_;by_cases hj:ev x=undef\/ev y=undef
  . exact .dead (Kd ho ht x y hj)
  refine(Ot ho ht hg x y ok (he _ h) (he _ k) (fun e=>hj (.inl e)) (fun e=>hj (.inr e))).andThen ok fun s _ hs hok=>Li ho ht hok (fun hp=>?_) ((he _ h).mono hs) ((he _ k).mono hs) (fun e=>hj (.inl e)) (fun e=>hj (.inr e));rcases hn hp with rfl | rfl
  . exact .inl (hk _)
  . exact .inr (hk _)
 | @bits op t u x y ho h k =>
  refine AP ok ?_;refine SemR.andThen ok (x:=eqGuard op t x y (ev x) (ev y)) (x':=eqGuard op t x y (ev' x) (ev' y)) ?_ fun s _ hs hok=>RJ ho hok t ((he _ h).mono hs) ((he _ k).mono hs);unfold eqGuard;cases ho<;>exact .ret rfl
 | unOp h=>exact AP ok (Oi _ (he _ h))
 | makeInterface ht h=>exact AP ok (FR ok _ ht (he _ h))
 | makeFunc hf h k=>exact AP ok (JY hf (Ex he h) (Ex he k))
 | fieldAddr h=>exact AP ok (KZ ok _ (he _ h) _)
 | field h=>exact AP ok (Og ok _ (he _ h) _)
 | indexAddr h k=>exact AP ok (KX ok _ (he _ h) (he _ k))
 | index h k=>exact AP ok (Of ok _ (he _ h) (he _ k))
 | typeAssert hz h=>exact AP ok (Ie ok _ hz (he _ h))
 | extract h=>exact AP ok (KY (he _ h) _)
 | call h=>exact P3 lw ok he h _
 | slice h h1 h2 h3=>exact AP ok (Lc ok _ (he _ h) (Hu he h1) (Hu he h2) (Hu he h3))
 | @buildSlice t n ps hz h =>
  refine AP ok (Io ok hz n ?_);have:=Is (ps:=ps.toList) he (fun p hp=>h p (by simpa using hp));simpa using this
 | convert hs ht h=>exact AP ok (Ip ok hs ht (he _ h))
 | makeMap h=>exact AP ok (Ld ok _ (Hu he h))
 | lookup ht h k=>exact AP ok (Mf ok ht (he _ h) (he _ k) _)
 | insert ht h k l=>exact Ir ok (Fb ok ht (he _ h) (he _ k) (he _ l))
 | mapUpdate ht h k l=>exact Ir ok (Fb ok ht (he _ h) (he _ k) (he _ l))
end
abbrev BU:=Frame × List Frame
def fin(P:Program)(fr:Frame)(cs:List Frame):Next->Sem BU
 | .value v=>pure (fr.finish v,cs)
 | .skip=>pure (fr.finish undef,cs)
 | .enter f args=>pure (Frame.enter P f args .normal,fr::cs)
 | .round l f tmps a b=>pure (Frame.round l f tmps a b .normal,fr::cs)
 | _=>stuck ""
def backS(cs:List Frame)(v:Value):Sem BU :=
 match cs with
 | c::rest=>pure (c.finish v,rest)
 | []=>stuck ""
def Cj(fr:Frame)(cs:List Frame)(jump:Option Code):Sem BU :=
 match fr.roundOf with
 | none=>if jump matches none | some .ret then pure ({ fr with mode:=.returning },cs) else stuck ""
 | some l=>do backS cs (<- Instr.endRound l jump)
def BH(f:Operand)(l:Nat):Call:={ callee:=.value f,args:=#[.const (.func (.yield l) #[] #[])],argTypes:=#[] }
def Bj(P:Program)(fr:Frame)(cs:List Frame):List Item->Sem BU
 | []=>Cj fr cs none
 | .code .ret::_=>Cj fr cs (some .ret)
 | .code .skip::k=>pure ({ fr with todo:=k },cs)
 | .inBlock _::k=>pure ({ fr with todo:=k },cs)
 | .code (.seq a b)::k=>pure ({ fr with todo:=.code a::.code b::k },cs)
 | .code (.cond c thn els)::k =>
  match fr.eval c with
  | .bool b=>pure ({ fr with todo:=.code (if b then thn else els)::k },cs)
  | _=>stuck ""
 | .code (.block id body)::k=>pure ({ fr with todo:=.code body::.inBlock id::k },cs)
 | .code (.loop body)::k=>pure ({ fr with todo:=.code body::.inLoop body::k },cs)
 | .inLoop body::k=>pure ({ fr with todo:=.code body::.inLoop body::k },cs)
 | .code (.exit id)::k=>match exitTo id k with
  | some t=>pure ({ fr with todo:=t },cs)
  | none=>Cj fr cs (some (.exit id))
 | .code (.rangeFunc f params assign body)::k=>do
  let (l,mark) <- Instr.enterLoop fr.fn fr.tmps params assign body fr.roundOf
  let fr':Frame:={ fr with todo:=.inRangeFunc l::k,defers:=mark++fr.defers }
  let n <- (do let d <- resolve fr'.eval (BH f l) 0; invoke d.target d.args)
  fin P fr' cs n
 | .beginRound::_=>do
  let n <- (do fr.roundOf.elim (stuck "beginRound: no round") Instr.beginRound; pure .skip)
  fin P fr cs n
 | .endRangeFunc l::k=>do
  let jump <- Instr.endLoop l
  pure ({ fr with todo:=(jump.map Item.code).toList++k },cs)
 | .code (.region id ops draw)::k =>
  if !draw then pure ({ fr with todo:=.inRegion ops (List.range ops.size)::k },cs)
  else do
   let t <- choose (.order fr.fn id)
   pure ({ fr with todo:=.inRegion ops (Region.schedule (P.follows .mixedOrders) ops t)::k },cs)
 | .inRegion _ []::k=>pure ({ fr with todo:=k },cs)
 | .inRegion ops (i::_)::_ =>
  if ((ops[i]?).map (Region.wanted · (yielded ops fr.tmps))).getD false then
   match ops[i]? with
   | some o=>do
    let n <- execOp fr.eval o
    fin P fr cs n
   | none=>stuck ""
  else pure (fr.finish undef,cs)
 | _=>stuck ""
def stS(P:Program)(fr:Frame)(cs:List Frame):Sem BU :=
 match fr.mode with
 | .run=>Bj P fr cs fr.todo
 | .returning =>
  match fr.defers with
  | { target:=.collected block,.. }::ds=>do
   let calls <- Instr.takeDeferred block
   pure ({ fr with defers:=calls++ds },cs)
  | _::_=>stuck ""
  | [] =>
   match P.funcs[fr.fn]? with
   | some fn=>do backS cs (<- results fn fr.tmps)
   | none=>stuck ""
 | .panicking _=>stuck ""
inductive DefR(r:Rho):Deferred->Deferred->Prop
 | mk {i j:Nat} (h:r i j):DefR r { target:=.collected i,args:=#[] } { target:=.collected j,args:=#[] }
inductive ItemR(X:Ctx)(gl:Nat->Prop)(r:Rho):Item->Item->Prop
 | code {c:Code} (h:X.C c):ItemR X gl r (.code c) (.code c)
 | inBlock (n:Nat):ItemR X gl r (.inBlock n) (.inBlock n)
 | inLoop {c:Code} (h:X.C c):ItemR X gl r (.inLoop c) (.inLoop c)
 | inRegion {ops:Array Oper} (l:List Nat) (h:∀ i∈l,∀ o,ops[i]?=some o->OpOk X gl o.op):ItemR X gl r (.inRegion ops l) (.inRegion ops l)
 | inRangeFunc {i j:Nat} (h:r i j):ItemR X gl r (.inRangeFunc i) (.inRangeFunc j)
 | endRangeFunc {i j:Nat} (h:r i j):ItemR X gl r (.endRangeFunc i) (.endRangeFunc j)
 | beginRound:ItemR X gl r .beginRound .beginRound
inductive All2{α:Type}(R:α->α->Prop):List α->List α->Prop
 | nil:All2 R [] []
 | cons {x y:α} {a b:List α} (h:R x y) (k:All2 R a b):All2 R (x::a) (y::b)
theorem All2.imp{α:Type}{R S:α->α->Prop}(f:∀ x y,R x y->S x y):∀{a b:List α},All2 R a b->All2 S a b
 | _,_,.nil=>.nil
 | _,_,.cons h k=>.cons (f _ _ h) (k.imp f)
theorem All2.append{α:Type}{R:α->α->Prop}{c d:List α}(k:All2 R c d):∀{a b:List α},All2 R a b->All2 R (a++c) (b++d)
 | _,_,.nil=>k
 | _,_,.cons h t=>.cons h (All2.append k t)
inductive ModeR:FrameMode->FrameMode->Prop
 | run:ModeR .run .run
 | returning:ModeR .returning .returning
inductive OptR(r:Rho):Option Nat->Option Nat->Prop
 | none:OptR r none none
 | some {i j:Nat} (h:r i j):OptR r (some i) (some j)
structure FrameR(X:Ctx)(gl:Nat->Prop)(r:Rho)(a b:Frame):Prop where
 fn:b.fn=a.fn
 tmps:ArrR X.L r a.tmps b.tmps
 todo:All2 (ItemR X gl r) a.todo b.todo
 defers:All2 (DefR r) a.defers b.defers
 mode:ModeR a.mode b.mode
 kind:a.kind=.normal
 kind':b.kind=.normal
 round:OptR r a.roundOf b.roundOf
 res:X.L.h a.fn
inductive StackR(X:Ctx)(gl:Nat->Prop)(r:Rho):BU->BU->Prop
 | base {a b:Frame} (h:FrameR X gl r a b) (k:a.roundOf=none):StackR X gl r (a,[]) (b,[])
 | push {a b c d:Frame} {s t:List Frame} (h:FrameR X gl r a b) (k:StackR X gl r (c,s) (d,t)):StackR X gl r (a,c::s) (b,d::t)
structure CfgR(X:Ctx)(gl:Nat->Prop)(r:Rho)(c d:BU):Prop where
 stack:StackR X gl r c d
 glob:∀ n,gl n->r n n
section
variable {X:Ctx} {gl:Nat->Prop} {r s:Rho}
theorem ItemR.mono{a b:Item}(h:ItemR X gl r a b)(k:r.le s):ItemR X gl s a b:=by
 cases h with
 | code h=>exact .code h
 | inBlock n=>exact .inBlock n
 | inLoop h=>exact .inLoop h
 | inRegion l h=>exact .inRegion l h
 | inRangeFunc h=>exact .inRangeFunc (k _ _ h)
 | endRangeFunc h=>exact .endRangeFunc (k _ _ h)
 | beginRound=>exact .beginRound
theorem DefR.mono{a b:Deferred}(h:DefR r a b)(k:r.le s):DefR s a b:=by
 cases h with
 | mk h=>exact .mk (k _ _ h)
theorem OptR.mono{a b:Option Nat}(h:OptR r a b)(k:r.le s):OptR s a b:=by
 cases h with
 | none=>exact .none
 | some h=>exact .some (k _ _ h)
theorem FrameR.mono{a b:Frame}(h:FrameR X gl r a b)(k:r.le s):FrameR X gl s a b :=
 ⟨h.fn,h.tmps.mono k,h.todo.imp fun _ _ x=>x.mono k,h.defers.imp fun _ _ x=>x.mono k,h.mode,h.kind,h.kind',h.round.mono k,h.res⟩
theorem StackR.mono{c d:BU}(h:StackR X gl r c d)(k:r.le s):StackR X gl s c d:=by
 induction h with
 | base h e=>exact .base (h.mono k) e
 | push h _ ih=>exact .push (h.mono k) ih
theorem CfgR.mono{c d:BU}(h:CfgR X gl r c d)(k:r.le s):CfgR X gl s c d:=⟨h.stack.mono k,fun n hn=>k _ _ (h.glob n hn)⟩
end
structure CodeLaws(X:Ctx)(gl:Nat->Prop):Prop where
 seq:∀{a b},X.C (.seq a b)->X.C a/\X.C b
 cond:∀{c a b},X.C (.cond c a b)->OdOk X gl c/\X.C a/\X.C b
 block:∀{n a},X.C (.block n a)->X.C a
 loop:∀{a},X.C (.loop a)->X.C a
 ret:X.C .ret
 exit:∀ n,X.C (.exit n)
 region:∀{n ops d},X.C (.region n ops d)->∀ o∈ops,OpOk X gl o.op
 rangeFunc:∀{f ps a b},X.C (.rangeFunc f ps a b)->OdOk X gl f/\X.C a/\X.C b
 noLabel:∀{l},¬ X.C (.label l)
 noScope:∀{a},¬ X.C (.scope a)
 noGoto:∀{l},¬ X.C (.goto l)
section
variable {X:Ctx} {gl:Nat->Prop} {r:Rho}
theorem FX{a b:Frame}(h:ArrR X.L r a.tmps b.tmps)(hg:∀ n,gl n->r n n):∀ x,OdOk X gl x->VR X.L r (a.eval x) (b.eval x):=by
 intro x hx;cases hx with
 | tmp t=>exact h.getD t (.tuple rfl (fun i x y hx=>by simp at hx))
 | const hv=>exact hv _ _
 | global hn=>exact .ptr ⟨hg _ hn,rfl,rfl⟩
 | func hf=>exact .func (.func _ hf) rfl (fun i x y hx=>by simp at hx) rfl (fun i x y hx=>by simp at hx)
theorem StackR.top{a b a' b':Frame}{c d:List Frame}(h:StackR X gl r (a,c) (b,d))(k:FrameR X gl r a' b')(e:a'.roundOf=a.roundOf):StackR X gl r (a',c) (b',d):=by
 cases h with
 | base h1 h2=>exact .base k (e.trans h2)
 | push h1 h2=>exact .push k h2
theorem StackR.head{a b:Frame}{c d:List Frame}(h:StackR X gl r (a,c) (b,d)):FrameR X gl r a b:=by
 cases h with
 | base h1 h2=>exact h1
 | push h1 h2=>exact h1
theorem FrameR.with{a b:Frame}(h:FrameR X gl r a b){t t':List Item}(k:All2 (ItemR X gl r) t t'):FrameR X gl r { a with todo:=t } { b with todo:=t' }:=⟨h.fn,h.tmps,k,h.defers,h.mode,h.kind,h.kind',h.round,h.res⟩
theorem Ei{a b:Frame}(h:FrameR X gl r a b){v v':Value}(hv:VR X.L r v v'):FrameR X gl r (a.finish v) (b.finish v'):=by
 obtain⟨fn,tmps,todo,defers,mode,kind,roundOf⟩:=a;obtain⟨fn',tmps',todo',defers',mode',kind',roundOf'⟩:=b;obtain⟨h1,h2,h3,h4,h5,h6,h7,h8,h9⟩:=h;dsimp only at h1 h2 h3 h4 h5 h6 h7 h8 h9;subst h1 h6 h7;cases h3 with
 | nil=>exact⟨rfl,h2,.nil,h4,h5,rfl,rfl,h8,h9⟩
 | cons hi hk =>
  cases hi with
  | @inRegion ops l ho =>
   cases l with
   | nil=>exact⟨rfl,h2,.cons (.inRegion _ ho) hk,h4,h5,rfl,rfl,h8,h9⟩
   | cons i l =>
    unfold Frame.finish;refine⟨rfl,?_,.cons (.inRegion _ fun j hj=>ho j (List.mem_cons_of_mem _ hj)) hk,h4,h5,rfl,rfl,h8,h9⟩;dsimp only;cases (ops[i]?).bind (·.dst) with
    | none=>exact h2
    | some d=>exact h2.set d hv
  | inRangeFunc hl=>exact⟨rfl,h2,.cons (.endRangeFunc hl) hk,h4,h5,rfl,rfl,h8,h9⟩
  | beginRound=>exact⟨rfl,h2,hk,h4,h5,rfl,rfl,h8,h9⟩
  | code hc=>exact⟨rfl,h2,.cons (.code hc) hk,h4,h5,rfl,rfl,h8,h9⟩
  | inBlock n=>exact⟨rfl,h2,.cons (.inBlock n) hk,h4,h5,rfl,rfl,h8,h9⟩
  | inLoop hc=>exact⟨rfl,h2,.cons (.inLoop hc) hk,h4,h5,rfl,rfl,h8,h9⟩
  | endRangeFunc hl=>exact⟨rfl,h2,.cons (.endRangeFunc hl) hk,h4,h5,rfl,rfl,h8,h9⟩
theorem C9(a:Frame)(v:Value):(a.finish v).roundOf=a.roundOf:=by
 unfold Frame.finish;split<;>rfl
theorem DV:VR X.L r undef undef:=.tuple rfl (fun i x y hx=>by simp at hx)
abbrev Sy(X:Ctx)(gl:Nat->Prop):Rho->BU->BU->Prop:=fun s c d=>CfgR X gl s c d
theorem Ou(lw:Lawful X){f:FuncId}(hf:X.L f){a b:Array Value}(h:ArrR X.L r a b):FrameR X gl r (Frame.enter X.P f a .normal) (Frame.enter X.P f b .normal):=by
 obtain⟨fn,k⟩:=lw.funcs f hf;obtain⟨c,hb,hc⟩:=k.body;unfold Frame.enter;rw[k.at_];dsimp only;simp only[Option.bind_some,hb,Option.getD_some,Option.map_some];refine⟨rfl,?_,.cons (.code hc) .nil,.nil,.run,rfl,rfl,.none,lw.home _ hf⟩;dsimp only;rw[h.1];exact h.append (.replicate _ DV)
theorem Hv(lw:Lawful X){a b:Frame}{c d:List Frame}(h:CfgR X gl r (a,c) (b,d)){n n':Next}(hn:NextR X r n n'):SemR X (Sy X gl) r (fin X.P a c n) (fin X.P b d n'):=by
 have hd:=h.stack.head;cases hn with
 | value hv=>exact .ret ⟨h.stack.top (Ei hd hv) (C9 _ _),h.glob⟩
 | skip=>exact .ret ⟨h.stack.top (Ei hd DV) (C9 _ _),h.glob⟩
 | enter hf ha=>exact .ret ⟨.push (Ou lw hf ha) h.stack,h.glob⟩
 | round hf hl ha hc hcd =>
  refine .ret ⟨.push ?_ h.stack,h.glob⟩;exact⟨rfl,ha,.cons (.code hc) (.cons .beginRound (.cons (.code hcd) .nil)),.nil,.run,rfl,rfl,.some hl,hf⟩
theorem Lm{a b c d:Frame}{s t:List Frame}(h:CfgR X gl r (a,c::s) (b,d::t)){v v':Value}(hv:VR X.L r v v'):SemR X (Sy X gl) r (backS (c::s) v) (backS (d::t) v'):=by
 obtain⟨h,hg⟩:=h;cases h with
 | push h1 h2=>exact .ret ⟨h2.top (Ei h2.head hv) (C9 _ _),hg⟩
theorem Ey(ok:X.Ok r)(fn:Func){a b:Array Value}(h:ArrR X.L r a b):SemR X (Cq X) r (results fn a) (results fn b):=by
 unfold results;have key:∀(xs:List ResultVar) {r:Rho},X.Ok r->ArrR X.L r a b->SemR X (fun s x y=>LsR X.L s x y) r
  (xs.mapM fun | .tmp t=>pure (a.getD t undef) | .cell x t=>do loadVar t (<- asAddr (a.getD x undef)))
  (xs.mapM fun | .tmp t=>pure (b.getD t undef) | .cell x t=>do loadVar t (<- asAddr (b.getD x undef))):=by
  intro xs
  induction xs with
  | nil=>intro r ok h; exact .ret .nil
  | cons x xs ih =>
   intro r ok h;rw[List.mapM_cons,List.mapM_cons];refine SemR.bind (R:=Cq X) ok ?_ fun s v v' hs hok hv=>?_
   . cases x with
     | tmp t=>exact .ret (h.getD t DV)
     | cell x t=>exact(Dm (h.getD x DV)).bind ok fun s a b _ hok k=>CV hok t k
   . refine(ih hok (h.mono hs)).bind hok fun s2 ys zs hs2 hok2 hyz=>?_;exact .ret (.cons (hv.mono hs2) hyz)
 rw[Array.mapM_eq_mapM_toList,Array.mapM_eq_mapM_toList];refine(Ng (S:=Uu X) ok (key fn.results.toList ok h) fun s x y _ k=>k.toArr).bind ok fun s x y hs hok hxy=>?_;refine .ret ?_;have e:=hxy.1;by_cases hx:x.size=1
 . have hy:y.size=1:=by omega
   simp only[hx,hy,dif_pos];exact hxy.2 0 _ _ (by simp[hx]) (by simp[hy])
 . have hy:¬ y.size=1:=by omega
   simp only[hx,hy,dif_neg,not_false_eq_true];exact hxy.tuple
end
section
variable {X:Ctx} {gl:Nat->Prop} {r:Rho}
theorem LoopR.turn{x y:Loop}(h:LoopR X.L r X.C x y)(st:LoopState)(p:Option Code)(hp:∀ c,p=some c->X.C c):LoopR X.L r X.C { x with state:=st,pending:=p } { y with state:=st,pending:=p } :=
 ⟨rfl,rfl,h.fn,h.tmps,h.params,h.assign,h.body,h.defers,hp,h.ca,h.cb,h.lf⟩
theorem LoopR.turn'{x y:Loop}(h:LoopR X.L r X.C x y)(st:LoopState):LoopR X.L r X.C { x with state:=st } { y with state:=st } :=
 ⟨rfl,h.pending,h.fn,h.tmps,h.params,h.assign,h.body,h.defers,h.cp,h.ca,h.cb,h.lf⟩
theorem Ff(ok:X.Ok r){f:FuncId}(hf:X.L.h f){a b:Array Value}(h:ArrR X.L r a b)(ps:Array Tmp){c d:Code}(hc:X.C c)(hd:X.C d){o o':Option Nat}(ho:OptR r o o') :
 SemR X (fun s x y=>s x.1 y.1/\All2 (DefR s) x.2 y.2) r (Instr.enterLoop f a ps c d o) (Instr.enterLoop f b ps c d o'):=by
 unfold Instr.enterLoop;have tail:∀{s:Rho},X.Ok s->ArrR X.L s a b->∀{i j:Nat} {m m':List Deferred},s i j->All2 (DefR s) m m'->SemR X (fun s x y=>s x.1 y.1/\All2 (DefR s) x.2 y.2) s
  (do pure (<- newObj (.loop { state:=.ready,pending:=none,fn:=f,tmps:=a,params:=ps,assign:=c,body:=d,defers:=i }),m))
  (do pure (<- newObj (.loop { state:=.ready,pending:=none,fn:=f,tmps:=b,params:=ps,assign:=c,body:=d,defers:=j }),m')):=by
  intro s ok h i j m m' hij hm;have hl:LoopR X.L s X.C { state:=.ready,pending:=none,fn:=f,tmps:=a,params:=ps,assign:=c,body:=d,defers:=i } { state:=.ready,pending:=none,fn:=f,tmps:=b,params:=ps,assign:=c,body:=d,defers:=j } :=
   ⟨rfl,rfl,rfl,h,rfl,rfl,rfl,hij,(fun c (x:(none:Option Code)=some c)=>by cases x),hc,hd,hf⟩
  refine(FP (.loop hl)).bind ok fun s2 x y hs2 hok2 hxy=>?_;exact .ret ⟨hxy,hm.imp fun _ _ k=>k.mono hs2⟩
 cases ho with
 | none =>
  dsimp only;refine(FP .deferred).bind ok fun s i j hs hok hij=>?_;exact tail hok (h.mono hs) hij (.cons (.mk hij) .nil)
 | some hl =>
  dsimp only;refine(CW ok hl).bind ok fun s x y hs hok hxy=>?_;exact tail hok (h.mono hs) hxy.defers .nil
theorem Ez(ok:X.Ok r){i j:Nat}(h:r i j):SemR X Cz r (Instr.beginRound i) (Instr.beginRound j):=by
 unfold Instr.beginRound;refine(CW ok h).bind ok fun s x y hs hok hxy=>?_;refine(CM (hs _ _ h) (.loop (hxy.turn' .busy))).andThen hok fun s2 _ hs2 hok2=>?_;rw[hxy.state];cases x.state with
 | ready=>exact .ret rfl
 | _=>exact A9 (.inl ⟨_,rfl⟩)
theorem Ke(ok:X.Ok r){i j:Nat}(h:r i j){jump:Option Code}(hj:∀ c,jump=some c->X.C c):SemR X (Cq X) r (Instr.endRound i jump) (Instr.endRound j jump):=by
 unfold Instr.endRound;refine(CW ok h).bind ok fun s x y hs hok hxy=>?_;refine(CM (hs _ _ h) (.loop (hxy.turn _ jump hj))).andThen hok fun s2 _ hs2 hok2=>?_;exact .ret (.bool _)
theorem G7(ok:X.Ok r){i j:Nat}(h:r i j):SemR X (fun s a b=>a=b/\∀ c,a=some c->X.C c) r (Instr.endLoop i) (Instr.endLoop j):=by
 unfold Instr.endLoop;refine(CW ok h).bind ok fun s x y hs hok hxy=>?_;have tail:∀{s2:Rho},X.Ok s2->s2 i j->LoopR X.L s2 X.C x y->SemR X (fun s a b=>a=b/\∀ c,a=some c->X.C c) s2
  (do setObj i (.loop { x with state:=.exhausted }); pure x.pending) (do setObj j (.loop { y with state:=.exhausted }); pure y.pending):=by
  intro s2 hok2 h2 hxy;refine(CM h2 (.loop (hxy.turn' .exhausted))).andThen hok2 fun s3 _ hs3 hok3=>?_;rw[hxy.pending];exact .ret ⟨rfl,hxy.cp⟩
 rw[hxy.state];split
 . exact SemR.bind (R:=Cz) hok (A9 (.inl ⟨_,rfl⟩)) fun s2 _ _ hs2 hok2 _=>tail hok2 (hs2 _ _ (hs _ _ h)) (hxy.mono hs2)
 . exact tail hok (hs _ _ h) hxy
theorem GE(ok:X.Ok r){i j:Nat}(h:r i j):SemR X (fun s a b=>a=[]/\b=[]) r (Instr.takeDeferred i) (Instr.takeDeferred j):=by
 unfold Instr.takeDeferred;refine(Ct h).bind ok fun s o o' hs hok ho=>?_;cases ho with
 | deferred =>
  refine(CM (hs _ _ h) .taken).andThen hok fun s2 _ hs2 hok2=>?_;exact .ret ⟨rfl,rfl⟩
 | _=>exact Ag
theorem Fu(n:Nat):∀{k k':List Item},All2 (ItemR X gl r) k k'->(exitTo n k=none/\exitTo n k'=none)\/∃ t t',exitTo n k=some t/\exitTo n k'=some t'/\All2 (ItemR X gl r) t t'
 | _,_,.nil=>.inl ⟨rfl,rfl⟩
 | _,_,.cons h k=>by
  cases h with
  | inBlock m =>
   unfold exitTo;split
   . exact .inr ⟨_,_,rfl,rfl,k⟩
   . exact Fu n k
  | _=>simp only[exitTo]; exact Fu n k
theorem Dz{a b:Frame}{s t:List Frame}(h:StackR X gl r (a,s) (b,t)):(s=[]/\t=[]/\a.roundOf=none/\b.roundOf=none)\/∃ c d s' t',s=c::s'/\t=d::t':=by
 cases h with
 | base h1 h2 =>
  refine .inl ⟨rfl,rfl,h2,?_⟩;have:=h1.round;rw[h2] at this;generalize b.roundOf=z at this;cases this; rfl
 | push h1 h2=>exact .inr ⟨_,_,_,_,rfl,rfl⟩
theorem GF(cl:CodeLaws X gl)(ok:X.Ok r){a b:Frame}{s t:List Frame}(h:CfgR X gl r (a,s) (b,t)){jump:Option Code}(hj:∀ c,jump=some c->X.C c):SemR X (Sy X gl) r (Cj a s jump) (Cj b t jump):=by
 unfold Cj;have hd:=h.stack.head;have hr:=hd.round;have back:∀{i j:Nat},r i j->a.roundOf≠none->SemR X (Sy X gl) r (do backS s (<- Instr.endRound i jump)) (do backS t (<- Instr.endRound j jump)):=by
  intro i j hij hne;rcases Dz h.stack with⟨_,_,e,_⟩ | ⟨c,d,s',t',rfl,rfl⟩
  . exact absurd e hne
  . refine(Ke ok hij hj).bind ok fun s2 v v' hs2 hok2 hv=>?_;exact Lm (h.mono hs2) hv
 generalize ha:a.roundOf=x at hr;generalize hb:b.roundOf=y at hr;cases hr with
 | none =>
  dsimp only;have e:FrameR X gl r { a with mode:=.returning,roundOf:=none } { b with mode:=.returning,roundOf:=none }:=⟨hd.fn,hd.tmps,hd.todo,hd.defers,.returning,hd.kind,hd.kind',.none,hd.res⟩;have e':=h.stack.top e ha.symm;have yes:SemR X (Sy X gl) r (pure ({ a with mode:=.returning,roundOf:=none },s)) (pure ({ b with mode:=.returning,roundOf:=none },t)):=.ret ⟨e',h.glob⟩;split
  all_goals (split; first | exact yes | exact Ag | (rename_i q; cases q))
  all_goals first | exact yes | exact Ag | (rename_i q; exact absurd rfl q)
 | some hij=>exact back hij (by rw[ha]; simp)
theorem Fg(lw:Lawful X)(ok:X.Ok r){z z':Frame}{f:Operand}{l l':Nat}(hl:r l l')(hv:VR X.L r (z.eval f) (z'.eval f)) :
 SemR X (fun s x y=>NextR X s x y) r (do let d <- resolve z.eval (BH f l) 0; invoke d.target d.args) (do let d <- resolve z'.eval (BH f l') 0; invoke d.target d.args):=by
 have hyf:VR X.L r (.func (.yield l) #[] #[]) (.func (.yield l') #[] #[]):=.func (.yield hl) rfl (fun i x y hx=>by simp at hx) rfl (fun i x y hx=>by simp at hx);have e1:∀(z:Frame),(BH f l).args.map z.eval=#[.func (.yield l) #[] #[]]:=fun z=>by simp[BH,Frame.eval]
 have e2:∀(z:Frame),(BH f l').args.map z.eval=#[.func (.yield l') #[] #[]]:=fun z=>by simp[BH,Frame.eval]
 unfold resolve;rw[e1,e2];dsimp only[BH];generalize z.eval f=v at hv;generalize z'.eval f=v' at hv;cases hv with
 | func hfn q1 k1 q2 k2=>exact FW lw ok hfn ⟨q2,k2⟩ ((show ArrR X.L r _ _ from⟨q1,k1⟩).append (.one hyf))
 | nilFunc=>exact A9 (.inr (.inr (.inl rfl)))
 | nofunc f a c=>exact .dead (Fq (.inr (.inr (.inl rfl))))
 | _=>exact .halt (.stuck _)
theorem Jq(a:Frame)(t:List Item)(d:List Deferred)(f:Operand):Frame.eval { a with todo:=t,defers:=d } f=a.eval f:=by cases f<;>rfl
theorem RL(lw:Lawful X)(cl:CodeLaws X gl)(ok:X.Ok r){a b:Frame}{s t:List Frame}(h:CfgR X gl r (a,s) (b,t)){todo todo':List Item}(hk:All2 (ItemR X gl r) todo todo')(ea:a.todo=todo)(eb:b.todo=todo'):SemR X (Sy X gl) r (Bj X.P a s todo) (Bj X.P b t todo'):=by
 have hd:=h.stack.head;have to:∀{k k':List Item},All2 (ItemR X gl r) k k'->SemR X (Sy X gl) r (pure ({ a with todo:=k },s)) (pure ({ b with todo:=k' },t)):=fun k=>.ret ⟨h.stack.top (hd.with k) rfl,h.glob⟩;have ev:=FX hd.tmps h.glob;cases hk with
 | nil=>exact GF cl ok h (fun c (x:(none:Option Code)=some c)=>by cases x)
 | cons hi hk =>
  cases hi with
  | inBlock n=>exact to hk
  | inLoop hc=>exact to (.cons (.code hc) (.cons (.inLoop hc) hk))
  | beginRound =>
   simp only[Bj];have hr:=hd.round;generalize ha:a.roundOf=x at hr;generalize hb:b.roundOf=y at hr;cases hr with
   | none=>exact SemR.bind (R:=fun s x y=>NextR X s x y) ok (SemR.bind (R:=Cz) ok Ag fun s2 _ _ _ _ _=>.ret .skip) fun s2 n n' hs2 hok2 hn=>Hv lw (h.mono hs2) hn
   | some hij =>
    dsimp only[Option.elim];refine SemR.bind (R:=fun s x y=>NextR X s x y) ok ((Ez ok hij).andThen ok fun s2 _ _ _=>.ret .skip) fun s2 n n' hs2 hok2 hn=>Hv lw (h.mono hs2) hn
  | endRangeFunc hij =>
   simp only[Bj];refine(G7 ok hij).bind ok ?_;rintro s2 jump _ hs2 hok2 ⟨rfl,hj⟩;have h2:=h.mono hs2;refine .ret ⟨h2.stack.top (h2.stack.head.with ?_) rfl,h2.glob⟩;have hk2:=hk.imp fun _ _ x=>x.mono hs2;cases jump with
   | none=>exact hk2
   | some c=>exact .cons (.code (hj c rfl)) hk2
  | inRangeFunc hij=>exact Ag
  | @inRegion ops l ho =>
   cases l with
   | nil=>exact to hk
   | cons i l =>
    simp only[Bj];have ey:yielded ops b.tmps=yielded ops a.tmps:=by
     funext j;unfold yielded;cases (ops[j]?).bind (·.dst) with
     | none=>rfl
     | some d =>
      dsimp only[Option.bind_some];cases hx:a.tmps[d]? with
      | none=>rw[hd.tmps.none hx]
      | some v =>
       obtain⟨v',hv,hvv⟩:=hd.tmps.get? hx;rw[hv];cases hvv with
       | junk hj =>
        cases v' with
        | bool q=>exact absurd rfl (hj.n5 q)
        | _=>rfl
       | _=>rfl
    rw[ey];split
    . cases ho':ops[i]? with
      | none=>exact Ag
      | some o =>
       dsimp only;refine(Lj lw ok (fun v=>rfl) ev (ho i (List.mem_cons_self ..) o ho')).bind ok fun s2 n n' hs2 hok2 hn=>?_;exact Hv lw (h.mono hs2) hn
    . exact .ret ⟨h.stack.top (Ei hd DV) (C9 _ _),h.glob⟩
  | @code c hc =>
   cases c with
   | skip=>exact to hk
   | ret=>exact GF cl ok h (fun c (x:some Code.ret=some c)=>by cases x; exact hc)
   | seq x y=>exact to (.cons (.code (cl.seq hc).1) (.cons (.code (cl.seq hc).2) hk))
   | cond c x y =>
    simp only[Bj];obtain⟨h1,h2,h3⟩:=cl.cond hc;have hv:=ev c h1;generalize a.eval c=v at hv;generalize b.eval c=v' at hv;cases hv with
    | bool q=>cases q<;>first | exact to (.cons (.code h3) hk) | exact to (.cons (.code h2) hk)
    | _=>exact Ag
   | block n x=>exact to (.cons (.code (cl.block hc)) (.cons (.inBlock n) hk))
   | loop x=>exact to (.cons (.code (cl.loop hc)) (.cons (.inLoop (cl.loop hc)) hk))
   | exit n =>
    simp only[Bj];rcases Fu n hk with⟨e1,e2⟩ | ⟨u,u',e1,e2,e3⟩
    . rw[e1,e2]; exact GF cl ok h (fun c (x:some (Code.exit n)=some c)=>by cases x; exact hc)
    . rw[e1,e2]; exact to e3
   | region id ops draw =>
    simp only[Bj];have ho:=cl.region hc;split
    . exact to (.cons (.inRegion _ fun i _ o hi=>ho o (Array.mem_of_getElem? hi)) hk)
    . rw[show Question.order b.fn id=Question.order a.fn id by rw[hd.fn]];refine(CN _).bind ok (R:=Cz) ?_;rintro s2 n _ hs2 hok2 rfl;have h2:=h.mono hs2;exact .ret ⟨h2.stack.top (h2.stack.head.with (.cons (.inRegion _ fun i _ o hi=>ho o (Array.mem_of_getElem? hi)) (hk.imp fun _ _ x=>x.mono hs2))) rfl,h2.glob⟩
   | rangeFunc f ps x y =>
    simp only[Bj];obtain⟨h1,h2,h3⟩:=cl.rangeFunc hc;rw[show Instr.enterLoop b.fn=Instr.enterLoop a.fn by rw[hd.fn]];refine(Ff ok hd.res hd.tmps ps h2 h3 hd.round).bind ok ?_;rintro s2 ⟨l,m⟩ ⟨l',m'⟩ hs2 hok2 ⟨hl,hm⟩;dsimp only at hl hm ⊢;have h4:=h.mono hs2;have hd4:=h4.stack.head;have hfr:FrameR X gl s2 { a with todo:=.inRangeFunc l::_,defers:=m++a.defers } { b with todo:=.inRangeFunc l'::_,defers:=m'++b.defers } :=
     ⟨hd4.fn,hd4.tmps,.cons (.inRangeFunc hl) (hk.imp fun _ _ x=>x.mono hs2),All2.append hd4.defers hm,hd4.mode,hd4.kind,hd4.kind',hd4.round,hd4.res⟩
    refine SemR.bind (R:=fun s x y=>NextR X s x y) hok2 ?_ fun s3 n n' hs3 hok3 hn=>Hv lw (CfgR.mono ⟨h4.stack.top hfr rfl,h4.glob⟩ hs3) hn;exact Fg lw hok2 hl (by rw[Jq,Jq]; exact FX hd4.tmps h4.glob f h1)
   | _=>exact Ag
def Ends(c:BU):Prop:=c.2=[]/\c.1.mode=.returning/\c.1.defers=[]
theorem Mi(lw:Lawful X)(cl:CodeLaws X gl)(ok:X.Ok r){c d:BU}(h:CfgR X gl r c d):SemR X (Sy X gl) r (stS X.P c.1 c.2) (stS X.P d.1 d.2):=by
 obtain⟨a,s⟩:=c;obtain⟨b,t⟩:=d;have hd:=h.stack.head;dsimp only;unfold stS;have hm:=hd.mode;generalize ha:a.mode=x at hm;generalize hb:b.mode=y at hm;cases hm with
 | run=>exact RL lw cl ok h hd.todo rfl rfl
 | returning =>
  dsimp only;have hf:=hd.defers;generalize hda:a.defers=x at hf;generalize hdb:b.defers=y at hf;cases hf with
  | nil =>
   dsimp only;rw[hd.fn];cases hfn:X.P.funcs[a.fn]? with
   | none=>exact Ag
   | some fn =>
    dsimp only;rcases Dz h.stack with⟨rfl,rfl,_,_⟩ | ⟨c,d,s',t',rfl,rfl⟩
    . exact(Ey ok fn hd.tmps).bind ok fun s2 _ _ _ _ _=>Ag
    . exact(Ey ok fn hd.tmps).bind ok fun s2 v v' hs2 _ hv=>Lm (h.mono hs2) hv
  | cons h1 h2 =>
   cases h1 with
   | mk hij =>
    dsimp only;refine(GE ok hij).bind ok ?_;rintro s2 _ _ hs2 hok2 ⟨rfl,rfl⟩;have h3:=h.mono hs2;have hd3:=h3.stack.head;refine .ret ⟨h3.stack.top ⟨hd3.fn,hd3.tmps,hd3.todo,?_,.returning,hd3.kind,hd3.kind',hd3.round,hd3.res⟩ rfl,h3.glob⟩;exact h2.imp fun _ _ x=>x.mono hs2
end
abbrev Bb(fr:Frame)(cs:List Frame):Goroutine:={ frame:=fr,callers:=cs,status:=.running,dying:=none }
section
variable {P:Program} {main:Bool} {fr:Frame} {inner base:List Frame} {w:World}
theorem GG(hk:fr.kind≠.early)(ht:∀ d a b k,fr.todo≠.call d true a b::k){x:Sem Next}{n:Next}{w1 w2:World}{es:Array Event}{c:BU}(hs:x.runT P w #[]=(.ok n w1,es))(hf:(fin P fr inner n).run P w1=.ok c w2) :
 stepG.apply P true fr (inner++base) none x w=.go (Bb c.1 (c.2++base)) w2 (seen P fr.fn es):=by
 have hkind:(match fr.todo with | .call _ true _ _::_=>CallKind.wrapped | _=>CallKind.normal)=.normal:=by
  split
  . rename_i h; exact absurd h (ht _ _ _ _)
  . rfl
 have hke:(fr.kind==.early)=false:=by simpa using hk
 unfold stepG.apply;simp only[if_true,hs,hke,Bool.false_eq_true,if_false];cases n with
 | value v=>simp only[fin,Sem.run_pure,Result.ok.injEq] at hf; obtain⟨rfl,rfl⟩:=hf; simp[GStep.after]
 | skip=>simp only[fin,Sem.run_pure,Result.ok.injEq] at hf; obtain⟨rfl,rfl⟩:=hf; simp[GStep.after]
 | enter f a=>simp only[fin,Sem.run_pure,Result.ok.injEq] at hf; obtain⟨rfl,rfl⟩:=hf; simp[GStep.after]
 | round l f a b d=>simp only[fin,Sem.run_pure,Result.ok.injEq] at hf; obtain⟨rfl,rfl⟩:=hf; simp[GStep.after]
 | _=>simp[fin,stuck] at hf
def PanicOk(X:Ctx)(frames:List Frame)(w:World):Prop:=∃ s v',X.Ok s/\WR X s w v'/\∀ f∈frames,f.kind=.normal/\X.L.h f.fn/\∃ d,All2 (DefR s) f.defers d
def Nh(X:Ctx)(s:GStep)(inner base:List Frame):Prop:=(∃ o w es,s=.ended o w es)\/∃(g:Frame) (ch:List PanicEntry) (w:World) (es:Array Event),s=.go (Bb { g with mode:=.panicking ch } (inner++base)) w es/\PanicOk X (g::inner) w
theorem It(g:Frame)(vs:List PanicEntry):∃ ch,g.raise vs={ g with mode:=.panicking ch }:=by
 unfold Frame.raise;split<;>exact⟨_,rfl⟩
theorem Iu{X:Ctx}{g:Frame}{x:Sem Next}{h:Halt}{w1:World}(hs:x.run X.P w=.halt h w1)(ht:Tame h)(hp:PanicOk X (g::inner) w1) :
 Nh X (stepG.apply X.P true g (inner++base) none x w) inner base:=by
 have hs':x.runT X.P w #[]=(.halt h w1,(x.runT X.P w #[]).2):=Prod.ext (by rw[Sem.runT_fst,hs]) rfl;unfold stepG.apply;simp only[if_true];rw[hs'];generalize (x.runT X.P w #[]).2=evs;cases ht with
 | panic v =>
  obtain⟨ch,e⟩:=It g [{ v,recovered:=false }];dsimp only[GStep.after];rw[e];exact .inr ⟨g,ch,w1,_,rfl,hp⟩
 | _=>refine .inl ?_; dsimp only[GStep.after]; exact⟨_,_,_,rfl⟩
theorem Ar{α β:Type}{x:Sem α}{f:α->Sem β}{w w2:World}{es es2:Array Event}{b:β}(h:(x >>= f).runT P w es=(.ok b w2,es2)) :
 ∃ a w1 es1,x.runT P w es=(.ok a w1,es1)/\(f a).runT P w1 es1=(.ok b w2,es2):=by
 have e:=Sem.runT_bind' P x f w es;rw[show x >>= f=x.bind f from rfl] at h;rw[h] at e;cases hx:x.runT P w es with
 | mk r es1 =>
  rw[hx] at e;cases r with
  | ok a w1=>exact⟨a,w1,es1,rfl,e.symm⟩
  | halt hh w1=>simp at e
theorem pure_ok{c c':BU}{w1:World}{es es2:Array Event}(h:(pure c:Sem BU).runT P w es=(.ok c' w1,es2)):c'=c/\w1=w/\es2=es:=by
 have h':(Result.ok c w,es)=(Result.ok c' w1,es2):=h;simp only[Prod.mk.injEq,Result.ok.injEq] at h';exact⟨h'.1.1.symm,h'.1.2.symm,h'.2.symm⟩
theorem AG{α:Type}{c':α}{w1:World}{s:String}{es es2:Array Event}(h:(stuck s:Sem α).runT P w es=(.ok c' w1,es2)):False:=by
 simp[stuck,Sem.runT,-Sem.runT_eq] at h
theorem I4{c:Frame}{rest base:List Frame}(hk:fr.kind=.normal)(v:Value)(w:World):doReturn P main fr (c::rest++base) none v w=.go (Bb (c.finish v) (rest++base)) w:=by
 simp[doReturn,hk]
theorem Mj{n:Next}{w1:World}{c:BU}{es es2:Array Event}(h:(fin P fr inner n).runT P w es=(.ok c w1,es2)):(fin P fr inner n).run P w=.ok c w1/\es2=es:=by
 refine⟨by rw[<- Sem.runT_fst P _ w es,h],?_⟩;cases n with
 | value v=>exact(pure_ok h).2.2
 | skip=>exact(pure_ok h).2.2
 | enter f a=>exact(pure_ok h).2.2
 | round l f a b d=>exact(pure_ok h).2.2
 | _=>exact(AG h).elim
theorem Ni{v:Value}{w1:World}{c:BU}{es es2:Array Event}(hk:fr.kind=.normal\/inner=[])(h:(backS inner v).runT P w es=(.ok c w1,es2)):doReturn P main fr (inner++base) none v w=.go (Bb c.1 (c.2++base)) w1/\es2=es:=by
 cases inner with
 | nil=>simp[backS,stuck,Sem.runT,-Sem.runT_eq] at h
 | cons a r =>
  have h':(Result.ok (a.finish v,r) w,es)=(Result.ok c w1,es2):=h;simp only[Prod.mk.injEq,Result.ok.injEq] at h';obtain⟨⟨rfl,rfl⟩,rfl⟩:=h';exact⟨I4 (hk.resolve_right (by simp)) v w,rfl⟩
theorem Iv(hk:fr.kind=.normal\/inner=[]){jump:Option Code}{c:BU}{w1:World}{es:Array Event}(h:(Cj fr inner jump).runT P w #[]=(.ok c w1,es)) :
 ∃ es',(match fr.roundOf with
  | none=>if jump matches none | some .ret then GStep.go (Bb { fr with mode:=.returning } (inner++base)) w else .ended (.stuck "exit, goto: no such block or label" (fr.pos P)) w
  | some l =>
   let (r,es):=(Instr.endRound l jump).runT P w #[]
   GStep.after (seen P fr.fn es) <| match r with
   | .ok v w=>doReturn P main fr (inner++base) none v w
   | .halt _ w=>.ended (.stuck "range over a function: no such loop" (fr.pos P)) w)=.go (Bb c.1 (c.2++base)) w1 es'/\∀ e∈es',e∈es:=by
 unfold Cj at h;cases hr:fr.roundOf with
 | none =>
  rw[hr] at h;dsimp only at h ⊢;have key:(∀ x:Code,jump=some x->x≠.ret->False):=by
   intro x hx hne;subst hx;cases x<;>first | exact hne rfl | exact AG h
  cases jump with
  | none =>
   obtain⟨rfl,rfl,rfl⟩:=pure_ok h;exact⟨#[],by simp,by simp⟩
  | some x =>
   by_cases hx:x=.ret
   . subst hx;obtain⟨rfl,rfl,rfl⟩:=pure_ok h;exact⟨#[],by simp,by simp⟩
   . exact(key x rfl hx).elim
 | some l =>
  rw[hr] at h;dsimp only at h ⊢;obtain⟨v,w2,es1,h1,h2⟩:=Ar h;rw[h1];obtain⟨h3,rfl⟩:=Ni (main:=main) (base:=base) hk h2;refine⟨seen P fr.fn es++#[],?_,fun e he=>Go.Conc.mem_seen (by simpa using he)⟩;dsimp only;rw[h3];rfl
variable {X:Ctx} {gl:Nat->Prop} {r:Rho}
theorem step_region{fn:FuncId}{tmps:Array Value}{ops:Array Oper}{l:List Nat}{k:List Item}{defers:List Deferred}{roundOf:Option Nat}{kd:CallKind}(hkd:kd≠.early)(ho:∀ i rest o,l=i::rest->ops[i]?=some o->OpOk X gl o.op){c:BU}{w1:World}{es:Array Event}
 (hs:(stS X.P { fn:=fn,tmps:=tmps,todo:=.inRegion ops l::k,defers:=defers,mode:=.run,kind:=kd,roundOf:=roundOf } inner).runT X.P w #[]=(.ok c w1,es)) :
 ∃ es',stepG X.P main (Bb { fn:=fn,tmps:=tmps,todo:=.inRegion ops l::k,defers:=defers,mode:=.run,kind:=kd,roundOf:=roundOf } (inner++base)) w=.go (Bb c.1 (c.2++base)) w1 es'/\∀ e∈es',e∈es:=by
 have plain:∀ d a b k',(Item.inRegion ops l::k)≠.call d true a b::k':=by
  rintro d a b k' h;cases h
 simp only[stS] at hs;cases l with
 | nil =>
  simp only[Bj] at hs;obtain⟨rfl,rfl,rfl⟩:=pure_ok hs;exact⟨#[],rfl,by simp⟩
 | cons i l =>
  simp only[Bj] at hs;split at hs
  . rename_i hw;cases hoi:ops[i]? with
    | none=>rw[hoi] at hs; exact(AG hs).elim
    | some o =>
     rw[hoi] at hs;dsimp only at hs;obtain⟨n,w2,es1,h1,h2⟩:=Ar hs;obtain⟨h3,rfl⟩:=Mj h2;have hap:=GG (base:=base) hkd plain h1 h3;refine⟨seen X.P fn es,?_,fun e he=>Go.Conc.mem_seen he⟩;simp only[stepG,stepG.exec,hw,if_true];unfold stepG.oper;simp only[Frame.oper?,hoi];have hoo:=ho i _ o rfl hoi;have hnd:∀ z,o.op≠.defer z:=by
      intro z hz;rw[hz] at hoo;cases hoo
     split
     . exact absurd ‹o.op=Op.defer _› (hnd _)
     . exact hap
  . rename_i hw;obtain⟨rfl,rfl,rfl⟩:=pure_ok hs;exact⟨#[],by simp only[stepG,stepG.exec,hw,if_false,Bool.false_eq_true],by simp⟩
theorem GH{m':FrameMode}{d':List Deferred}(hk:fr.kind=.normal\/inner=[])(hke:fr.kind≠.early)(hm:ModeR fr.mode m')(hf:All2 (DefR r) fr.defers d')(ht:fr.mode=.run->∀ x k,fr.todo=x::k->(∃ y,ItemR X gl r x y)\/∃ ops l,x=.inRegion ops l/\∀ i rest o,l=i::rest->ops[i]?=some o->OpOk X gl o.op){c:BU}{w1:World}{es:Array Event}(hs:(stS X.P fr inner).runT X.P w #[]=(.ok c w1,es)) :
 ∃ es',stepG X.P main (Bb fr (inner++base)) w=.go (Bb c.1 (c.2++base)) w1 es'/\∀ e∈es',e∈es:=by
 obtain⟨fn,tmps,todo,defers,mode,kind,roundOf⟩:=fr;dsimp only at ht hf hm hk hke;cases hm with
 | returning =>
  simp only[stS] at hs;cases hf with
  | nil =>
   dsimp only at hs;cases hfn:X.P.funcs[fn]? with
   | none=>rw[hfn] at hs; exact(AG hs).elim
   | some f =>
    rw[hfn] at hs;dsimp only at hs;obtain⟨v,w2,es1,h1,h2⟩:=Ar hs;obtain⟨h3,rfl⟩:=Ni (fr:={ fn:=fn,tmps:=tmps,todo:=todo,defers:=[],mode:=.returning,kind:=kind,roundOf:=roundOf }) (main:=main) (base:=base) hk h2;refine⟨seen X.P fn es++#[],?_,fun e he=>Go.Conc.mem_seen (by simpa using he)⟩;simp only[stepG,unwind,hfn,h1,h3];rfl
  | cons h1 h2 =>
   cases h1 with
   | @mk i j hij =>
    dsimp only at hs;obtain⟨calls,w2,es1,h1,h2⟩:=Ar hs;obtain⟨rfl,rfl,rfl⟩:=pure_ok h2;refine⟨seen X.P fn es++#[],?_,fun e he=>Go.Conc.mem_seen (by simpa using he)⟩;simp only[stepG,unwind,h1];rfl
 | run =>
  have hs0:=hs;simp only[stS] at hs;have plain:∀ d a b k,todo≠.call d true a b::k:=by
   rintro d a b k rfl;rcases ht rfl _ _ rfl with⟨y,h1⟩ | ⟨_,_,h1,_⟩<;>cases h1
  cases todo with
  | nil =>
   simp only[Bj] at hs;obtain⟨es',e1,e2⟩:=Iv (main:=main) (base:=base) hk hs;exact⟨es',e1,e2⟩
  | cons it k =>
   rcases ht rfl _ _ rfl with⟨it',hi⟩ | ⟨ops,l,rfl,ho⟩
   case inr=>exact step_region hke ho hs0
   cases hi with
   | inBlock n =>
    simp only[Bj] at hs;obtain⟨rfl,rfl,rfl⟩:=pure_ok hs;exact⟨#[],rfl,by simp⟩
   | inLoop hc =>
    simp only[Bj] at hs;obtain⟨rfl,rfl,rfl⟩:=pure_ok hs;exact⟨#[],rfl,by simp⟩
   | beginRound =>
    simp only[Bj] at hs;obtain⟨n,w2,es1,h1,h2⟩:=Ar hs;obtain⟨h3,rfl⟩:=Mj h2;have:=GG (base:=base) hke plain h1 h3;exact⟨_,this,fun e he=>Go.Conc.mem_seen he⟩
   | @endRangeFunc i j hij =>
    simp only[Bj] at hs;obtain⟨jump,w2,es1,h1,h2⟩:=Ar hs;obtain⟨rfl,rfl,rfl⟩:=pure_ok h2;refine⟨seen X.P fn es++#[],?_,fun e he=>Go.Conc.mem_seen (by simpa using he)⟩;simp only[stepG,stepG.exec,h1];rfl
   | inRangeFunc hij=>exact(AG hs).elim
   | @inRegion ops l ho=>exact step_region hke (fun i rest o e hi=>ho i (by rw[e]; exact List.mem_cons_self ..) o hi) hs0
   | @code cc hc =>
    cases cc with
    | skip =>
     simp only[Bj] at hs;obtain⟨rfl,rfl,rfl⟩:=pure_ok hs;exact⟨#[],rfl,by simp⟩
    | ret =>
     simp only[Bj] at hs;obtain⟨es',e1,e2⟩:=Iv (main:=main) (base:=base) hk hs;exact⟨es',e1,e2⟩
    | seq x y =>
     simp only[Bj] at hs;obtain⟨rfl,rfl,rfl⟩:=pure_ok hs;exact⟨#[],rfl,by simp⟩
    | cond z x y =>
     simp only[Bj] at hs;split at hs
     . rename_i q hv;obtain⟨rfl,rfl,rfl⟩:=pure_ok hs;exact⟨#[],by simp only[stepG,stepG.exec,hv],by simp⟩
     . exact(AG hs).elim
    | block n x =>
     simp only[Bj] at hs;obtain⟨rfl,rfl,rfl⟩:=pure_ok hs;exact⟨#[],rfl,by simp⟩
    | loop x =>
     simp only[Bj] at hs;obtain⟨rfl,rfl,rfl⟩:=pure_ok hs;exact⟨#[],rfl,by simp⟩
    | exit n =>
     simp only[Bj] at hs;split at hs
     . rename_i t he;obtain⟨rfl,rfl,rfl⟩:=pure_ok hs;exact⟨#[],by simp only[stepG,stepG.exec,he]; rfl,by simp⟩
     . rename_i he;obtain⟨es',e1,e2⟩:=Iv (main:=main) (base:=base) hk hs;exact⟨es',by simp only[stepG,stepG.exec,he]; exact e1,e2⟩
    | region id ops draw =>
     simp only[Bj] at hs;cases draw with
     | false =>
      simp only[Bool.not_false,if_true] at hs;obtain⟨rfl,rfl,rfl⟩:=pure_ok hs;exact⟨#[],rfl,by simp⟩
     | true =>
      simp only[Bool.not_true,Bool.false_eq_true,if_false] at hs;obtain⟨n,w2,es1,h1,h2⟩:=Ar hs;obtain⟨rfl,rfl,rfl⟩:=pure_ok h2;have h3:(choose (.order fn id)).run X.P w=.ok n w1:=by rw[<- Sem.runT_fst X.P _ w #[],h1]
      exact⟨#[],by simp only[stepG,stepG.exec,Bool.not_true,Bool.false_eq_true,if_false,h3],by simp⟩
    | rangeFunc f ps x y =>
     simp only[Bj] at hs;obtain⟨⟨l,m⟩,w2,es1,h1,h2⟩:=Ar hs;dsimp only at h2;obtain⟨n,w3,es3,h3,h4⟩:=Ar h2;obtain⟨h5,rfl⟩:=Mj h4;have e3:=Sem.runT_eq X.P (do let d <- resolve (Frame.eval { fn:=fn,tmps:=tmps,todo:=.inRangeFunc l::k,defers:=m++defers,mode:=.run,kind:=kind,roundOf:=roundOf }) (BH f l) 0; invoke d.target d.args) w2 es1;rw[h3] at e3;simp only[Prod.mk.injEq] at e3
     have h6:(do let d <- resolve (Frame.eval { fn:=fn,tmps:=tmps,todo:=.inRangeFunc l::k,defers:=m++defers,mode:=.run,kind:=kind,roundOf:=roundOf }) (BH f l) 0; invoke d.target d.args).runT X.P w2 #[]=(.ok n w3,Sem.events X.P (do let d <- resolve (Frame.eval { fn:=fn,tmps:=tmps,todo:=.inRangeFunc l::k,defers:=m++defers,mode:=.run,kind:=kind,roundOf:=roundOf }) (BH f l) 0; invoke d.target d.args) w2 #[]):=by
      rw[Sem.runT_eq,<- e3.1]
     have hap:=GG (fr:={ fn:=fn,tmps:=tmps,todo:=.inRangeFunc l::k,defers:=m++defers,mode:=.run,kind:=kind,roundOf:=roundOf }) (inner:=inner) (base:=base) hke (by rintro d a b k hh; cases hh) h6 h5;refine⟨seen X.P fn es1++seen X.P fn (Sem.events X.P (do let d <- resolve (Frame.eval { fn:=fn,tmps:=tmps,todo:=.inRangeFunc l::k,defers:=m++defers,mode:=.run,kind:=kind,roundOf:=roundOf }) (BH f l) 0; invoke d.target d.args) w2 #[]),?_,?_⟩
     . simp only[stepG,stepG.exec,h1];have:=congrArg (GStep.after (seen X.P fn es1)) hap;exact this
     . intro e he;rw[e3.2,Sem.events_acc];rcases Array.mem_append.1 he with he | he
       . exact Array.mem_append.2 (.inl (Go.Conc.mem_seen he))
       . exact Array.mem_append.2 (.inr (Go.Conc.mem_seen he))
    | _=>exact(AG hs).elim
theorem step_ok{a':BU}(h:CfgR X gl r (fr,inner) a'){c:BU}{w1:World}{es:Array Event}(hs:(stS X.P fr inner).runT X.P w #[]=(.ok c w1,es)) :
 ∃ es',stepG X.P main (Bb fr (inner++base)) w=.go (Bb c.1 (c.2++base)) w1 es'/\∀ e∈es',e∈es:=by
 have hd:=h.stack.head;refine GH (gl:=gl) (.inl hd.kind) (by rw[hd.kind]; simp) hd.mode hd.defers (fun _ x k e=>?_) hs;have:=hd.todo;rw[e] at this;generalize a'.1.todo=t at this;cases this with
 | cons h _=>exact .inl ⟨_,h⟩
end
theorem Same.refl(w:World):Same w w:=fun _ _=>rfl
section
variable {X:Ctx} {gl:Nat->Prop} {r:Rho} {inner base:List Frame} {w w1:World} {hlt:Halt} {fr:Frame}
theorem BC{α β:Type}{P:Program}{x:Sem α}{f:α->Sem β}(h:(x >>= f).run P w=.halt hlt w1):x.run P w=.halt hlt w1\/∃ a w2,x.run P w=.ok a w2/\(f a).run P w2=.halt hlt w1:=by
 have e:=Sem.run_bind' P x f w;rw[show x >>= f=x.bind f from rfl] at h;rw[h] at e;cases hx:x.run P w with
 | ok a w2=>rw[hx] at e; exact .inr ⟨a,w2,rfl,e.symm⟩
 | halt hh w2=>rw[hx] at e; simp only[Result.andThen_halt,Result.halt.injEq] at e; obtain⟨rfl,rfl⟩:=e; exact .inl rfl
theorem Mk{P:Program}{n n':Next}{s:Rho}(hn:NextR X s n n')(h:(fin P fr inner n).run P w=.halt hlt w1):False:=by
 cases hn<;>simp[fin] at h
theorem Bo{α:Type}{P:Program}{x:Sem α}{a:Result α}(h:x.run P w=a):∃ es,x.runT P w #[]=(a,es):=⟨(x.runT P w #[]).2,Prod.ext (by rw[Sem.runT_fst,h]) rfl⟩
theorem Iw{P:Program}{main:Bool}(hne:inner≠[]\/fr.roundOf=none){jump:Option Code}(h:(Cj fr inner jump).run P w=.halt hlt w1) :
 ∃ o w2 es,(match fr.roundOf with
  | none=>if jump matches none | some .ret then GStep.go (Bb { fr with mode:=.returning } (inner++base)) w else .ended (.stuck "exit, goto: no such block or label" (fr.pos P)) w
  | some l =>
   let (r,es):=(Instr.endRound l jump).runT P w #[]
   GStep.after (seen P fr.fn es) <| match r with
   | .ok v w=>doReturn P main fr (inner++base) none v w
   | .halt _ w=>.ended (.stuck "range over a function: no such loop" (fr.pos P)) w)=.ended o w2 es:=by
 unfold Cj at h;cases hr:fr.roundOf with
 | none =>
  rw[hr] at h;dsimp only at h ⊢;cases jump with
  | none=>simp at h
  | some x=>cases x<;>first | (exact⟨_,_,_,by rfl⟩) | (simp at h)
 | some l =>
  rw[hr] at h;dsimp only at h ⊢;rcases BC h with h1 | ⟨v,w2,h1,h2⟩
  . obtain⟨es,h3⟩:=Bo h1;rw[h3];dsimp only[GStep.after];exact⟨_,_,_,rfl⟩
  . cases inner with
    | nil=>rcases hne with q | q; exact absurd rfl q; rw[hr] at q; cases q
    | cons c rest=>simp[backS] at h2
theorem PanicOk.of{s:Rho}{v':World}{a':BU}(hok:X.Ok s)(hwr:WR X s w v')(h:StackR X gl s (fr,inner) a'):PanicOk X (fr::inner) w:=by
 refine⟨s,v',hok,hwr,?_⟩;have key:∀{c d:BU},StackR X gl s c d->∀ f∈c.1::c.2,f.kind=.normal/\X.L.h f.fn/\∃ d,All2 (DefR s) f.defers d:=by
  intro c d hs
  induction hs with
  | base h _ =>
   intro f hf;simp only[List.mem_cons,List.not_mem_nil,or_false] at hf;subst hf;exact⟨h.kind,h.res,_,h.defers⟩
  | push h _ ih =>
   intro f hf;rcases List.mem_cons.1 hf with rfl | hf
   . exact⟨h.kind,h.res,_,h.defers⟩
   . exact ih f hf
 exact key h
theorem RN{main:Bool}(lw:Lawful X)(cl:CodeLaws X gl)(ok:X.Ok r)(g:X.G<=w.heap.size)(wr:WR X r w w)(h:CfgR X gl r (fr,inner) (fr,inner))(ne:¬ Ends (fr,inner))(hs:(stS X.P fr inner).run X.P w=.halt hlt w1) :
 Nh X (stepG X.P main (Bb fr (inner++base)) w) inner base:=by
 have hd:=h.stack.head;have LP:=Dz h.stack;have ev:=FX hd.tmps h.glob;have hg:=h.glob;have hstk:=h.stack;clear h;obtain⟨fn,tmps,todo,defers,mode,kind,roundOf⟩:=fr;obtain⟨d1,d2,ht,hf,hm,hk,_,d8,d9⟩:=hd;dsimp only at ht hf hm hk d8 d9 d2 LP;subst hk;have hne:inner≠[]\/roundOf=none:=by
  rcases LP with⟨rfl,_,e,_⟩ | ⟨_,_,_,_,rfl,_⟩
  . exact .inr e
  . exact .inl (by simp)
 have ended:∀{o:Outcome} {w2:World} {es:Array Event},stepG X.P main (Bb { fn:=fn,tmps:=tmps,todo:=todo,defers:=defers,mode:=mode,kind:=.normal,roundOf:=roundOf } (inner++base)) w=.ended o w2 es->Nh X (stepG X.P main (Bb { fn:=fn,tmps:=tmps,todo:=todo,defers:=defers,mode:=mode,kind:=.normal,roundOf:=roundOf } (inner++base)) w) inner base:=fun h=>.inl ⟨_,_,_,h⟩;cases mode with
 | panicking ch=>cases hm
 | returning =>
  simp only[stS] at hs;cases defers with
  | nil =>
   dsimp only at hs;obtain⟨f,hfo⟩:=lw.homes fn d9;rw[hfo.at_] at hs;dsimp only at hs;rcases BC hs with h1 | ⟨v,w2,h1,h2⟩
   . obtain⟨es,h3⟩:=Bo h1;refine .inl ?_;simp only[stepG,unwind,hfo.at_,h3];cases hlt<;>exact⟨_,_,_,rfl⟩
   . cases inner with
     | nil=>exact absurd ⟨rfl,rfl,rfl⟩ ne
     | cons c rest=>simp[backS] at h2
  | cons x xs =>
   cases hf with
   | cons hx _ =>
    cases hx with
    | @mk i j hij =>
     dsimp only at hs;rcases BC hs with h1 | ⟨v,w2,h1,h2⟩
     . refine .inl ?_;obtain⟨es,h3⟩:=Bo h1;simp only[stepG,unwind,h3];exact⟨_,_,_,rfl⟩
     . simp at h2
 | run =>
  simp only[stS] at hs;have raise:∀{x:Sem Next} {h:Halt} {w1:World} (hs:x.run X.P w=.halt h w1) (ht:Tame h/\∃ s v',r.le s/\X.Ok s/\WR X s w1 v'),
   Nh X (stepG.apply X.P true { fn:=fn,tmps:=tmps,todo:=todo,defers:=defers,mode:=.run,kind:=.normal,roundOf:=roundOf } (inner++base) none x w) inner base:=by
   rintro x h w1 hs ⟨ht,s,v',e1,e2,e3⟩;exact Iu hs ht (PanicOk.of e2 e3 (hstk.mono e1))
  cases todo with
  | nil =>
   simp only[Bj] at hs;obtain⟨o,w2,es,e⟩:=Iw (main:=main) (base:=base) hne hs;exact ended e
  | cons it k =>
   cases ht with
   | cons hi hrest =>
    cases hi with
    | inBlock n=>simp[Bj] at hs
    | inLoop hc=>simp[Bj] at hs
    | beginRound =>
     simp only[Bj] at hs;cases roundOf with
     | none =>
      exact raise (h:=.stuck "beginRound: no round") (w1:=w) (x:=do (none:Option Nat).elim (stuck "beginRound: no round") Instr.beginRound; pure .skip) rfl ⟨.stuck _,r,w,Rho.le_refl r,ok,wr⟩
     | some l =>
      cases d8 with
      | some hl =>
       dsimp only[Option.elim] at hs;have hrel:=(Ez ok hl).andThen (S:=fun s x y=>NextR X s x y) (f:=fun _=>pure Next.skip) (f':=fun _=>pure Next.skip) ok fun s2 _ _ _=>.ret .skip;rcases BC hs with h1 | ⟨n,w2,h1,h2⟩
       . exact raise h1 (hrel.tame ok g g wr h1)
       . obtain⟨s,n',v',ev',_,hn,_⟩:=hrel.run ok g g wr (Same.refl w) h1;exact(Mk hn h2).elim
    | @endRangeFunc i j hij =>
     simp only[Bj] at hs;rcases BC hs with h1 | ⟨n,w2,h1,h2⟩
     . obtain⟨ht,s,v',e1,e2,e3⟩:=(G7 ok hij).tame ok g g wr h1;obtain⟨es,h3⟩:=Bo h1;cases ht with
       | panic v =>
        obtain⟨ch,e⟩:=It { fn:=fn,tmps:=tmps,todo:=.endRangeFunc i::k,defers:=defers,mode:=.run,kind:=.normal,roundOf:=roundOf } [{ v,recovered:=false }];refine .inr ⟨{ fn:=fn,tmps:=tmps,todo:=.endRangeFunc i::k,defers:=defers,mode:=.run,kind:=.normal,roundOf:=roundOf },ch,w1,seen X.P fn es++#[],?_,PanicOk.of e2 e3 (hstk.mono e1)⟩;simp only[stepG,stepG.exec,h3,e];rfl
       | _ =>
        refine .inl ?_;simp only[stepG,stepG.exec,h3];exact⟨_,_,_,rfl⟩
     . simp at h2
    | inRangeFunc hij=>exact ended rfl
    | @inRegion ops l ho =>
     cases l with
     | nil=>simp[Bj] at hs
     | cons i l =>
      simp only[Bj] at hs;split at hs
      . rename_i hw;cases hoi:ops[i]? with
        | none=>rw[hoi] at hw; simp at hw
        | some o =>
         rw[hoi] at hs;dsimp only at hs;have hoo:=ho i (List.mem_cons_self ..) o hoi;have hnd:∀ z,o.op≠.defer z:=by
          intro z hz;rw[hz] at hoo;cases hoo
         have hrel:=Lj lw ok (fun v=>rfl) ev hoo;rcases BC hs with h1 | ⟨n,w2,h1,h2⟩
         . have hap:=raise h1 (hrel.tame ok g g wr h1);simp only[stepG,stepG.exec,hw,if_true];unfold stepG.oper;simp only[Frame.oper?,hoi];split
           . exact absurd ‹o.op=Op.defer _› (hnd _)
           . exact hap
         . obtain⟨s,n',v',ev',_,hn,_⟩:=hrel.run ok g g wr (Same.refl w) h1;exact(Mk hn h2).elim
      . simp at hs
    | @code cc hc =>
     cases cc with
     | skip=>simp[Bj] at hs
     | ret =>
      simp only[Bj] at hs;obtain⟨o,w2,es,e⟩:=Iw (main:=main) (base:=base) hne hs;exact ended e
     | seq x y=>simp[Bj] at hs
     | cond z x y =>
      simp only[Bj] at hs;split at hs
      . simp at hs
      . rename_i hv;refine .inl ?_;obtain⟨v,hz⟩:∃ v,Frame.eval { fn:=fn,tmps:=tmps,todo:=.code (.cond z x y)::k,defers:=defers,mode:=.run,kind:=.normal,roundOf:=roundOf } z=v:=⟨_,rfl⟩;cases v with
        | bool q=>exact absurd hz (hv q)
        | _=>simp only[stepG,stepG.exec,hz]; exact⟨_,_,_,rfl⟩
     | block n x=>simp[Bj] at hs
     | loop x=>simp[Bj] at hs
     | exit n =>
      simp only[Bj] at hs;split at hs
      . simp at hs
      . rename_i he;obtain⟨o,w2,es,e⟩:=Iw (main:=main) (base:=base) hne hs;refine ended (o:=o) (w2:=w2) (es:=es) ?_;simp only[stepG,stepG.exec,he];exact e
     | region id ops draw =>
      simp only[Bj] at hs;cases draw with
      | false=>simp at hs
      | true =>
       simp only[Bool.not_true,Bool.false_eq_true,if_false] at hs;rcases BC hs with h1 | ⟨n,w2,h1,h2⟩
       . simp only[choose,Sem.run] at h1;split at h1<;>cases h1
       . simp at h2
     | rangeFunc f ps x y =>
      simp only[Bj] at hs;obtain⟨q1,q2,q3⟩:=cl.rangeFunc hc;have hrel:=Ff ok d9 d2 ps q2 q3 d8;rcases BC hs with h1 | ⟨⟨l,m⟩,w2,h1,h2⟩
      . obtain⟨es,h3⟩:=Bo h1;refine .inl ?_;simp only[stepG,stepG.exec,h3];exact⟨_,_,_,rfl⟩
      . obtain⟨es,h3⟩:=Bo h1;obtain⟨s,⟨l',m'⟩,v',ev',e0,⟨hl,hm'⟩,hout,_⟩:=hrel.run ok g g wr (Same.refl w) h1;obtain⟨rfl,rfl,rfl⟩:l'=l/\m'=m/\v'=w2:=by
         have:=e0 #[];rw[h3] at this;simp only[Prod.mk.injEq,Result.ok.injEq] at this;exact⟨this.1.1.1.symm,this.1.1.2.symm,this.1.2.symm⟩
        dsimp only at hl hm' h2;have ok2:=hout.ok;have wr2:=hout.wr;have g2:=Nat.le_trans g hout.sizel;have stk2:=hstk.mono hout.le;have hd2:=stk2.head;have hfr:FrameR X gl s { fn:=fn,tmps:=tmps,todo:=.inRangeFunc l'::k,defers:=m'++defers,mode:=.run,kind:=.normal,roundOf:=roundOf } { fn:=fn,tmps:=tmps,todo:=.inRangeFunc l'::k,defers:=m'++defers,mode:=.run,kind:=.normal,roundOf:=roundOf } :=
         ⟨rfl,hd2.tmps,.cons (.inRangeFunc hl) (hrest.imp fun _ _ x=>x.mono hout.le),All2.append hd2.defers hm',.run,rfl,rfl,hd2.round,hd2.res⟩
        have hcall:=Fg (f:=f) lw ok2 (z:={ fn:=fn,tmps:=tmps,todo:=.inRangeFunc l'::k,defers:=m'++defers,mode:=.run,kind:=.normal,roundOf:=roundOf }) (z':={ fn:=fn,tmps:=tmps,todo:=.inRangeFunc l'::k,defers:=m'++defers,mode:=.run,kind:=.normal,roundOf:=roundOf }) hl (FX hd2.tmps (fun n hn=>hout.le _ _ (hg n hn)) f q1);rcases BC h2 with h4 | ⟨n,w3,h4,h5⟩
        . obtain⟨ht,s3,v3,e1,e2,e3⟩:=hcall.tame ok2 g2 g2 wr2 h4;have hap:=Iu (base:=base) h4 ht (PanicOk.of e2 e3 ((stk2.top hfr rfl).mono e1))
          have e5:stepG X.P main (Bb { fn:=fn,tmps:=tmps,todo:=.code (.rangeFunc f ps x y)::k,defers:=defers,mode:=.run,kind:=.normal,roundOf:=roundOf } (inner++base)) w=GStep.after (seen X.P fn es) (stepG.apply X.P true { fn:=fn,tmps:=tmps,todo:=.inRangeFunc l'::k,defers:=m'++defers,mode:=.run,kind:=.normal,roundOf:=roundOf } (inner++base) none (do let d <- resolve (Frame.eval { fn:=fn,tmps:=tmps,todo:=.inRangeFunc l'::k,defers:=m'++defers,mode:=.run,kind:=.normal,roundOf:=roundOf }) (BH f l') 0; invoke d.target d.args) v'):=by
           simp only[stepG,stepG.exec,h3];rfl
          rw[e5];rcases hap with⟨o,w4,es4,e6⟩ | ⟨gg,ch,w4,es4,e6,e7⟩
          . rw[e6]; exact .inl ⟨_,_,_,rfl⟩
          . rw[e6]; exact .inr ⟨gg,ch,w4,_,rfl,e7⟩
        . obtain⟨s3,n',v3,ev3,_,hn,_⟩:=hcall.run ok2 g2 g2 wr2 (Same.refl _) h4;exact(Mk hn h5).elim
     | label l=>exact absurd hc cl.noLabel
     | scope x=>exact absurd hc cl.noScope
     | goto l=>exact absurd hc cl.noGoto
     | refuse s=>exact ended rfl
end
section
variable {S T:Type} [Inhabited T] (st:S->(Nat->T)->Option (S × Nat)) (Fin Good:S->Prop)
inductive Runs:Nat->S->(Nat->T)->S->Prop
 | refl {s:S} {t:Nat->T}:Runs 0 s t s
 | step {k:Nat} {s s' u:S} {t:Nat->T} {n:Nat} (h:st s t=some (s',n)) (r:Runs k s' (fun i=>t (n+i)) u):Runs (k+1) s t u
inductive MustA:S->Prop
 | fin {s:S} (h:Fin s):MustA s
 | step {s:S} (f:(Nat->T)->S) (n:(Nat->T)->Nat) (h:∀ t,st s t=some (f t,n t)) (k:∀ t,MustA (f t)):MustA s
theorem least{p:Nat->Prop}(h:∃ i,p i):∃ i,p i/\∀ j,j<i->¬ p j:=by
 obtain⟨i,hi⟩:=h
 induction i using Nat.strongRecOn with
 | _ i ih =>
  by_cases hx:∃ j,j<i/\p j
  . obtain⟨j,hj,hp⟩:=hx;exact ih j hj hp
  . exact⟨i,hi,fun j hj hp=>hx ⟨j,hj,hp⟩⟩
noncomputable def leastOf{p:Nat->Prop}(h:∃ i,p i):Nat:=Classical.choose (least h)
theorem Ix{p:Nat->Prop}(h:∃ i,p i){i:Nat}(hi:p i)(hj:∀ j,j<i->¬ p j):leastOf h=i:=by
 obtain⟨a,b⟩:=Classical.choose_spec (least h);rcases Nat.lt_trichotomy (leastOf h) i with x | x | x
 . exact absurd a (hj _ x)
 . exact x
 . exact absurd hi (b _ x)
open Classical in
theorem glue(hl:∀ s,Good s->∀ t s' n,st s t=some (s',n)->Good s'/\∀ t',(∀ i,i<n->t' i=t i)->st s t'=some (s',n))
 {s:S} (hg:Good s) (h:∀ t,∃ k u,Runs st k s t u/\Fin u):MustA st Fin s:=by
 apply Classical.byContradiction;intro hno;have pick:∀ s,∃ t:Nat->T,¬ MustA st Fin s->∀ s' n,st s t=some (s',n)->¬ MustA st Fin s':=by
  intro s;apply Classical.byContradiction;intro hc;rw[not_exists] at hc;have hs:¬ MustA st Fin s:=fun hm=>hc (fun _=>default) fun hx=>absurd hm hx;have key:∀ t,∃ q:S × Nat,st s t=some q/\MustA st Fin q.1:=by
   intro t;apply Classical.byContradiction;intro hn;exact hc t fun _ s' n e hm=>hn ⟨(s',n),e,hm⟩
  obtain⟨f,hf⟩:=Classical.axiomOfChoice key;exact hs (.step (fun t=>(f t).1) (fun t=>(f t).2) (fun t=>(hf t).1) fun t=>(hf t).2)
 obtain⟨tc,htc⟩:=Classical.axiomOfChoice pick
 let nx:S->S × Nat:=fun s=>match st s (tc s) with | some q=>q | none=>(s,0)
 let seq:Nat->S:=fun i=>Nat.rec s (fun _ x=>(nx x).1) i
 let pos:Nat->Nat:=fun i=>Nat.rec 0 (fun j p=>p+(nx (seq j)).2) i
 have seq_succ:∀ i,seq (i+1)=(nx (seq i)).1:=fun i=>rfl;have pos_succ:∀ i,pos (i+1)=pos i+(nx (seq i)).2:=fun i=>rfl;have nx_some:∀{s s' n},st s (tc s)=some (s',n)->nx s=(s',n):=by
  intro s s' n e
  show(match st s (tc s) with | some q=>q | none=>(s,0))=_
  rw[e]
 have nx_none:∀{s},st s (tc s)=none->nx s=(s,0):=by
  intro s e
  show(match st s (tc s) with | some q=>q | none=>(s,0))=_
  rw[e]
 have bad:∀ i,Good (seq i)/\¬ MustA st Fin (seq i):=by
  intro i
  induction i with
  | zero=>exact⟨hg,hno⟩
  | succ i ih =>
   rw[seq_succ];cases e:st (seq i) (tc (seq i)) with
   | none=>rw[nx_none e]; exact ih
   | some q =>
    obtain⟨s',n⟩:=q;rw[nx_some e];exact⟨(hl _ ih.1 _ _ _ e).1,htc _ ih.2 _ _ e⟩
 have pos_mono:∀ i j,i<=j->pos i<=pos j:=by
  intro i j hij
  induction hij with
  | refl=>exact Nat.le_refl _
  | step _ ih=>rw[pos_succ]; omega
 let stuck:Nat->Prop:=fun i=>st (seq i) (tc (seq i))=none
 let θ:Nat->T:=fun p =>
  if h:∃ j,p<pos (j+1) then tc (seq (leastOf h)) (p-pos (leastOf h))
  else if h2:∃ i,stuck i then tc (seq (leastOf h2)) (p-pos (leastOf h2)) else default
 have claim1:∀ i m,m<(nx (seq i)).2->θ (pos i+m)=tc (seq i) m:=by
  intro i m hm;have hex:∃ j,pos i+m<pos (j+1):=⟨i,by rw[pos_succ]; omega⟩;have hf:leastOf hex=i:=by
   refine Ix hex (by rw[pos_succ]; omega) fun j hj hlt=>?_;have:=pos_mono (j+1) i hj;omega
  show(if h:∃ j,pos i+m<pos (j+1) then tc (seq (leastOf h)) (pos i+m-pos (leastOf h)) else _)=_
  rw[dif_pos hex,hf];congr 1;omega
 have claim2:∀ i,stuck i->(∀ j,j<i->¬ stuck j)->∀ m,θ (pos i+m)=tc (seq i) m:=by
  intro i hs hfirst m;have const:∀ d,seq (i+d)=seq i/\pos (i+d)=pos i:=by
   intro d
   induction d with
   | zero=>exact⟨rfl,rfl⟩
   | succ d ih =>
    have e:nx (seq (i+d))=(seq (i+d),0):=nx_none (by rw[ih.1]; exact hs);refine⟨?_,?_⟩
    . rw[<- Nat.add_assoc,seq_succ,e]; exact ih.1
    . rw[<- Nat.add_assoc,pos_succ,e]; exact ih.2
  have hex:¬ ∃ j,pos i+m<pos (j+1):=by
   rintro⟨j,hj⟩;rcases Nat.le_total (j+1) i with h1 | h1
   . have:=pos_mono _ _ h1; omega
   . obtain⟨d,hd⟩:=Nat.exists_eq_add_of_le h1;rw[hd,(const d).2] at hj;omega
  have hex2:∃ i,stuck i:=⟨i,hs⟩;have hf:leastOf hex2=i:=Ix hex2 hs fun j hj=>hfirst j hj
  show(if h:∃ j,pos i+m<pos (j+1) then tc (seq (leastOf h)) (pos i+m-pos (leastOf h)) else if h2:∃ i,stuck i then tc (seq (leastOf h2)) (pos i+m-pos (leastOf h2)) else default)=_
  rw[dif_neg hex,dif_pos hex2,hf];congr 1;omega
 obtain⟨k,u,hr,hu⟩:=h θ;have follow:∀ k i,(∀ j,j<i->¬ stuck j)->Runs st k (seq i) (fun m=>θ (pos i+m)) u->False:=by
  intro k
  induction k with
  | zero =>
   intro i _ hr;cases hr
   exact(bad i).2 (.fin hu)
  | succ k ih =>
   intro i hns hr;cases hr with
   | @step _ _ s' _ _ n e r =>
    by_cases hs:stuck i
    . have e':(fun m=>θ (pos i+m))=tc (seq i):=funext fun m=>claim2 i hs hns m;rw[e'] at e;have:st (seq i) (tc (seq i))=none:=hs;rw[this] at e;cases e
    . cases e2:st (seq i) (tc (seq i)) with
      | none=>exact hs e2
      | some q =>
       obtain⟨s2,n2⟩:=q;have hnx:=nx_some e2;have e3:=(hl _ (bad i).1 _ _ _ e2).2 (fun m=>θ (pos i+m)) (fun m hm=>claim1 i m (by rw[hnx]; exact hm));rw[e3] at e;obtain⟨rfl,rfl⟩:=Prod.mk.inj (Option.some.inj e);refine ih (i+1) (fun j hj=>?_) ?_
       . rcases Nat.lt_succ_iff_lt_or_eq.1 hj with h1 | rfl
         . exact hns j h1
         . exact hs
       . have es:seq (i+1)=s2:=by rw[seq_succ,hnx]
         have ep:pos (i+1)=pos i+n2:=by rw[pos_succ,hnx]
         rw[es];have:(fun m=>θ (pos (i+1)+m))=(fun m=>θ (pos i+(n2+m))):=by
          funext m;rw[ep,Nat.add_assoc]
         rw[this];exact r
 refine follow k 0 (fun j hj=>by omega) ?_;have:(fun m=>θ (pos 0+m))=θ:=by
  funext m
  show θ (0+m)=_
  rw[Nat.zero_add]
 rw[this];exact hr
end
def trap:Frame:={ fn:=0,tmps:=#[],todo:=[.code (.refuse "")],defers:=[{ target:=.nil,args:=#[] }],mode:=.run,kind:=.normal,roundOf:=none }
theorem FY{a b:Frame}{c d:List Frame}{w v:World}(h:lone a c w=lone b d v):a=b/\c=d/\w=v:=by
 simp only[lone,Machine.mk.injEq,Array.mk.injEq,List.cons.injEq,Goroutine.mk.injEq,and_true] at h;exact⟨h.2.1,h.2.2,h.1⟩
section
variable {X:Ctx} {gl:Nat->Prop}
theorem runN_ended{P:Program}{m m':Machine}{o:Outcome}{w:World}(hs:step P m=.ended o w)(n:Nat):runN P (n+1) m≠.next m':=by
 simp[runN,hs]
theorem Ln{P:Program}(ch:List PanicEntry)(w wT:World)(frT:Frame)(csT:List Frame)(hT:∀ ch,frT.mode≠.panicking ch):∀ n,runN P n (lone (trap.raise ch) [] w)≠.next (lone frT csT wT)
 | 0=>by
  intro h;obtain⟨rfl,_,_⟩:=FY (Stepped.next.inj h);exact hT _ rfl
 | n+1=>by
  refine runN_ended (o:=?o) (w:=w) (step_lone_ended ?_) n
  case o=>exact .unsupported (.noEntry "machine/Return: a deferred call of a nil function value, made while the frame is unwinding") (Frame.pos P { trap.raise ch with defers:=[] })
  rfl
theorem Kf{P:Program}(w wT:World)(frT:Frame)(inT:List Frame):∀ n,runN P n (lone trap [] w)≠.next (lone frT (inT++[trap]) wT)
 | 0=>by
  intro h;obtain⟨_,h2,_⟩:=FY (Stepped.next.inj h);simp at h2
 | n+1=>by
  have h:∃ o,step P (lone trap [] w)=.ended o w:=⟨_,step_lone_ended rfl⟩;obtain⟨o,ho⟩:=h;exact runN_ended (o:=o) (w:=w) ho n
theorem GI{s:Rho}{w v':World}(hok:X.Ok s)(hwr:WR X s w v'){i j:Nat}(h:s i j) :
 (∃ hlt w2,(Instr.takeDeferred i).run X.P w=.halt hlt w2)\/∃ w2 v2,(Instr.takeDeferred i).run X.P w=.ok [] w2/\WR X s w2 v2:=by
 obtain⟨o,o',h1,h2,ho⟩:=hwr i j h;have hi:=hwr.ltl h;have hj:=hwr.lt h;cases ho with
 | deferred =>
  refine .inr ⟨{ w with heap:=w.heap.setIfInBounds i (.deferred none) },{ v' with heap:=v'.heap.setIfInBounds j (.deferred none) },?_,hwr.put hok h (fun k=>by show(w.heap.setIfInBounds i _)[k]?=_; rw[Array.getElem?_setIfInBounds]; simp[hi]) (fun k=>by show(v'.heap.setIfInBounds j _)[k]?=_; rw[Array.getElem?_setIfInBounds]; simp[hj]) .taken⟩;unfold Instr.takeDeferred;rw[Sem.run_bind];simp only[getObj,Sem.run,h1,Result.andThen_ok,setObj];rw[Sem.run_bind];simp[Sem.run,h1]
 | cells t hc hf =>
  refine .inl ⟨.stuck "getObj: a row of cells",w,?_⟩;unfold Instr.takeDeferred;rw[Sem.run_bind];simp[getObj,Sem.run,h1]
 | loop _=>exact .inl ⟨.stuck "range over a function: the deferred calls have been taken",w,by unfold Instr.takeDeferred; rw[Sem.run_bind]; simp only[getObj,Sem.run,h1,Result.andThen_ok]; rfl⟩
 | taken=>exact .inl ⟨.stuck "range over a function: the deferred calls have been taken",w,by unfold Instr.takeDeferred; rw[Sem.run_bind]; simp only[getObj,Sem.run,h1,Result.andThen_ok]; rfl⟩
 | number _ _=>exact .inl ⟨.stuck "range over a function: the deferred calls have been taken",w,by unfold Instr.takeDeferred; rw[Sem.run_bind]; simp only[getObj,Sem.run,h1,Result.andThen_ok]; rfl⟩
 | map _ _ _=>exact .inl ⟨.stuck "range over a function: the deferred calls have been taken",w,by unfold Instr.takeDeferred; rw[Sem.run_bind]; simp only[getObj,Sem.run,h1,Result.andThen_ok]; rfl⟩
theorem EA(lw:Lawful X)(wT:World)(frT:Frame)(csT:List Frame)(hT:∀ ch,frT.mode≠.panicking ch):∀(n:Nat) (g:Frame) (inner:List Frame) (ch:List PanicEntry) (w:World),
 PanicOk X (g::inner) w->runN X.P n (lone { g with mode:=.panicking ch } (inner++[trap]) w)≠.next (lone frT csT wT)
 | 0,g,inner,ch,w,_=>by
  intro h;obtain⟨rfl,_,_⟩:=FY (Stepped.next.inj h);exact hT _ rfl
 | n+1,g,inner,ch,w,hp=>by
  obtain⟨s,v',hok,hwr,hf⟩:=hp;obtain⟨fn,tmps,todo,defers,mode,kind,roundOf⟩:=g;obtain⟨hk,hL,d,hd⟩:=hf _ (List.mem_cons_self ..);dsimp only at hk hL hd ⊢;subst hk;cases hd with
  | @cons x y ds dd h1 h2 =>
   cases h1 with
   | @mk i j hij =>
    rcases GI hok hwr hij with⟨hlt,w2,e⟩ | ⟨w2,v2,e,hwr2⟩
    . obtain⟨es,e3⟩:=Bo e;have hs:∃ o,step X.P (lone { fn:=fn,tmps:=tmps,todo:=todo,defers:={ target:=.collected i,args:=#[] }::ds,mode:=.panicking ch,kind:=.normal,roundOf:=roundOf } (inner++[trap]) w)=.ended o w2:=⟨_,step_lone_ended (by simp only[stepG,unwind,e3]; rfl)⟩;obtain⟨o,hs⟩:=hs;exact runN_ended hs n
    . obtain⟨es,e3⟩:=Bo e;intro hrun;have hs:=step_lone_go (P:=X.P) (fr:={ fn:=fn,tmps:=tmps,todo:=todo,defers:={ target:=.collected i,args:=#[] }::ds,mode:=.panicking ch,kind:=.normal,roundOf:=roundOf }) (fr':={ fn:=fn,tmps:=tmps,todo:=todo,defers:=[]++ds,mode:=.panicking ch,kind:=.normal,roundOf:=roundOf }) (cs:=inner++[trap]) (cs':=inner++[trap]) (w:=w) (w':=w2) (by
       simp only[stepG,unwind,e3];rfl)
      simp only[runN,hs] at hrun;refine EA lw wT frT csT hT n { fn:=fn,tmps:=tmps,todo:=todo,defers:=[]++ds,mode:=mode,kind:=.normal,roundOf:=roundOf } inner ch w2 ⟨s,v2,hok,hwr2,?_⟩ hrun;intro f hfm;rcases List.mem_cons.1 hfm with rfl | hfm
      . exact⟨rfl,hL,_,h2⟩
      . exact hf f (List.mem_cons_of_mem _ hfm)
  | nil =>
   obtain⟨fnn,hfo⟩:=lw.homes fn hL;have hc:Frame.catches X.P { fn:=fn,tmps:=tmps,todo:=todo,defers:=[],mode:=.panicking ch,kind:=.normal,roundOf:=roundOf }=false:=by
    unfold Frame.catches;rw[hfo.at_]
   intro hrun;cases inner with
   | nil =>
    have hs:=step_lone_go (P:=X.P) (fr:={ fn:=fn,tmps:=tmps,todo:=todo,defers:=[],mode:=.panicking ch,kind:=.normal,roundOf:=roundOf }) (fr':=trap.raise ch) (cs:=[trap]) (cs':=[]) (w:=w) (w':=w) (by
     simp only[stepG,unwind,hc,Bool.false_eq_true,if_false];rfl)
    simp only[runN,List.nil_append,hs] at hrun;exact Ln ch w wT frT csT hT n hrun
   | cons c rest =>
    have hs:=step_lone_go (P:=X.P) (fr:={ fn:=fn,tmps:=tmps,todo:=todo,defers:=[],mode:=.panicking ch,kind:=.normal,roundOf:=roundOf }) (fr':=c.raise ch) (cs:=c::rest++[trap]) (cs':=rest++[trap]) (w:=w) (w':=w) (by
     simp only[stepG,unwind,hc,Bool.false_eq_true,if_false];rfl)
    simp only[runN,hs] at hrun;obtain⟨ch',e⟩:=It c ch;rw[e] at hrun;exact EA lw wT frT csT hT n c rest ch' w ⟨s,v',hok,hwr,fun f hfm=>hf f (List.mem_cons_of_mem _ hfm)⟩ hrun
abbrev Fh:=Array Obj × Os × Array (Nat × ByteArray)
def BE(w:World):Fh:=(w.heap,w.os,w.output)
def EB(m:Fh)(t:Nat->Question->Nat):World:={ heap:=m.1,tape:=t,drawn:=0,os:=m.2.1,output:=m.2.2 }
theorem Twin.of{w u:World}(h:BE u=BE w):Twin w u:=by
 simp only[BE,Prod.mk.injEq] at h;exact⟨h.1,h.2.1,h.2.2⟩
theorem Twin.mem{w u:World}(h:Twin w u):BE u=BE w:=by
 simp only[BE,h.heap,h.os,h.out]
theorem WR.twin{r:Rho}{w w' u u':World}(h:WR X r w w')(k:u.heap=w.heap)(k':u'.heap=w'.heap):WR X r u u':=by
 intro i j hij;rw[k,k'];exact h i j hij
def IX(X:Ctx)(s:BU × Fh)(t:Nat->Question->Nat):Option ((BU × Fh) × Nat) :=
 match (stS X.P s.1.1 s.1.2).run X.P (EB s.2 t) with
 | .ok c v=>some ((c,BE v),v.drawn)
 | .halt _ _=>none
def El(X:Ctx)(gl:Nat->Prop)(s:BU × Fh):Prop:=∃ r,X.Ok r/\CfgR X gl r s.1 s.1/\(∀ w:World,w.heap=s.2.1->WR X r w w)/\X.G<=s.2.1.size
theorem good_step(lw:Lawful X)(cl:CodeLaws X gl){c c':BU}{w v:World}(h:El X gl (c,BE w))(hr:(stS X.P c.1 c.2).run X.P w=.ok c' v) :
 El X gl (c',BE v)/\∃ n,v.drawn=w.drawn+n/\v.tape=w.tape/\∀ u,BE u=BE w->Nf n w u->∃ z,(stS X.P c.1 c.2).run X.P u=.ok c' z/\BE z=BE v/\z.drawn=u.drawn+n:=by
 obtain⟨r,ok,hc,hw,g⟩:=h;have wr:=hw w rfl;have hs:=Mi lw cl ok hc;obtain⟨s2,a',v',ev,e1,e2,e3,_⟩:=hs.run ok g g wr (Same.refl w) hr;have e4:=e1 #[];obtain⟨es,e5⟩:=Bo hr;rw[e5] at e4;simp only[Prod.mk.injEq,Result.ok.injEq] at e4;obtain⟨⟨rfl,rfl⟩,_⟩:=e4;refine⟨⟨s2,e3.ok,e2,fun u hu=>e3.wr.twin hu hu,Nat.le_trans g e3.sizel⟩,?_⟩;obtain⟨n0,f1,f2,_⟩:=hs.near ok g g wr (Twin.refl w) hr;refine⟨n0,f1,f2,fun u hu sm=>?_⟩;obtain⟨n,g1,g2,g3⟩:=hs.near ok g g wr (Twin.of hu) hr;have:n=n0:=by omega
 subst this;obtain⟨z,q1,q2,q3,q4⟩:=g3 sm;exact⟨z,q1,q2.mem,q3⟩
theorem Nj(lw:Lawful X)(cl:CodeLaws X gl)(s:BU × Fh)(h:El X gl s)(t:Nat->Question->Nat)(s':BU × Fh)(n:Nat)(hr:IX X s t=some (s',n)) :
 El X gl s'/\∀ t',(∀ i,i<n->t' i=t i)->IX X s t'=some (s',n):=by
 obtain⟨c,m⟩:=s;unfold IX at hr;dsimp only at hr;cases hrun:(stS X.P c.1 c.2).run X.P (EB m t) with
 | halt a b=>rw[hrun] at hr; cases hr
 | ok c' v =>
  rw[hrun] at hr;simp only[Option.some.injEq,Prod.mk.injEq] at hr;obtain⟨rfl,rfl⟩:=hr;obtain⟨g1,n,f1,f2,f3⟩:=good_step lw cl (w:=EB m t) h hrun;refine⟨g1,fun t' ht=>?_⟩;have hn:v.drawn=n:=by rw[f1]; show 0+n=n; omega
  obtain⟨z,q1,q2,q3⟩:=f3 (EB m t') rfl (fun i q hi=>by
   show t' (0+i) q=t (0+i) q
   rw[Nat.zero_add,ht i (by omega)])
  unfold IX;dsimp only;rw[q1];simp only[Option.some.injEq,Prod.mk.injEq];refine⟨⟨trivial,q2⟩,?_⟩;rw[q3,hn]
  show 0+n=n
  omega
theorem follow(lw:Lawful X)(cl:CodeLaws X gl)(wT:World)(frT:Frame)(inT:List Frame)(hT:∀ ch,frT.mode≠.panicking ch):∀(n:Nat) (c:BU) (w:World),El X gl (c,BE w) ->
 runN X.P n (lone c.1 (c.2++[trap]) w)=.next (lone frT (inT++[trap]) wT)->∃ k,Runs (IX X) k (c,BE w) (fun i=>w.tape (w.drawn+i)) ((frT,inT),BE wT)
 | 0,c,w,_,h=>by
  obtain⟨e1,e2,e3⟩:=FY (Stepped.next.inj h);obtain⟨fr,inner⟩:=c;dsimp only at e1 e2;subst e1 e3;have:inner=inT:=List.append_cancel_right e2;subst this;exact⟨0,.refl⟩
 | n+1,c,w,hg,h=>by
  obtain⟨fr,inner⟩:=c;have hg0:=hg;obtain⟨r,ok,hc,hw,g⟩:=hg;have wr:=hw w rfl;by_cases he:Ends (fr,inner)
  . exfalso
    obtain⟨h1,h2,h3⟩:=he;dsimp only at h1 h2 h3;subst h1;have hd0:=hc.stack.head;obtain⟨fnn,hfo⟩:=lw.homes _ hd0.res;have hk:=hd0.kind;have key:(∃ o w2,step X.P (lone fr ([]++[trap]) w)=.ended o w2)\/∃ w2,step X.P (lone fr ([]++[trap]) w)=.next (lone trap [] w2):=by
     cases hres:(results fnn fr.tmps).run X.P w with
     | halt hh w2 =>
      obtain⟨es,e3⟩:=Bo hres;refine .inl ⟨_,w2,step_lone_ended (o:=match hh with
       | .stuck s=>.stuck s (Frame.pos X.P fr)
       | _=>.stuck "return: the result variables cannot be read" (Frame.pos X.P fr)) ?_⟩
      simp only[stepG,h2,unwind,h3,hfo.at_,e3];cases hh<;>rfl
     | ok v w2 =>
      obtain⟨es,e3⟩:=Bo hres;refine .inr ⟨w2,step_lone_go ?_⟩;simp only[stepG,h2,unwind,h3,hfo.at_,e3,doReturn,hk,List.nil_append];rfl
    rcases key with⟨o,w2,e⟩ | ⟨w2,e⟩
    . exact runN_ended e n h
    . simp only[runN,e] at h;exact Kf w2 wT frT inT n h
  . cases hrun:(stS X.P fr inner).run X.P w with
    | halt hh w2 =>
     exfalso
     have hst:=RN (main:=true) (base:=[trap]) lw cl ok g wr hc he hrun;rcases hst with⟨o,w3,es,e⟩ | ⟨gg,ch,w3,es,e,hp⟩
     . exact runN_ended (step_lone_ended (P:=X.P) (fr:=fr) (cs:=inner++[trap]) (w:=w) (w':=w3) (o:=o) (by
        rw[show stepG X.P true { frame:=fr,callers:=inner++[trap],status:=.running,dying:=none } w=_ from e]; rfl)) n h
     . have hs:=step_lone_go (P:=X.P) (fr:=fr) (fr':={ gg with mode:=.panicking ch }) (cs:=inner++[trap]) (cs':=inner++[trap]) (w:=w) (w':=w3) (by
        rw[show stepG X.P true { frame:=fr,callers:=inner++[trap],status:=.running,dying:=none } w=_ from e]; rfl)
       simp only[runN,hs] at h;exact EA lw wT frT (inT++[trap]) hT n gg inner ch w3 hp h
    | ok c' w' =>
     obtain⟨es,e3⟩:=Bo hrun;obtain⟨es',e4,_⟩:=step_ok (main:=true) (base:=[trap]) hc e3;have hs:=step_lone_go (P:=X.P) (fr:=fr) (fr':=c'.1) (cs:=inner++[trap]) (cs':=c'.2++[trap]) (w:=w) (w':=w') (by
      rw[show stepG X.P true { frame:=fr,callers:=inner++[trap],status:=.running,dying:=none } w=_ from e4]; rfl)
     simp only[runN,hs] at h;obtain⟨g1,n1,f1,f2,f3⟩:=good_step lw cl hg0 hrun;obtain⟨k,hk⟩:=follow lw cl wT frT inT hT n c' w' g1 h;obtain⟨z,q1,q2,q3⟩:=f3 (EB (BE w) (fun i=>w.tape (w.drawn+i))) rfl (fun i q hi=>by
      show w.tape (w.drawn+(0+i)) q=w.tape (w.drawn+i) q
      rw[Nat.zero_add])
     refine⟨k+1,.step (n:=n1) (s':=(c',BE w')) ?_ ?_⟩
     . unfold IX;dsimp only;rw[q1];simp only[Option.some.injEq,Prod.mk.injEq];refine⟨⟨trivial,q2⟩,?_⟩;rw[q3]
       show 0+n1=n1
       omega
     . have e5:(fun i=>w'.tape (w'.drawn+i))=(fun i=>w.tape (w.drawn+(n1+i))):=by
        funext i;rw[f1,f2,Nat.add_assoc]
       rw[<- e5];exact hk
theorem Iy(lw:Lawful X)(cl:CodeLaws X gl){c:BU}{m:Fh}{Fin:BU × Fh->Prop}(hg:El X gl (c,m))
 (h:∀ t,∃ fr inner w',Steps X.P (lone c.1 (c.2++[trap]) (EB m t)) (lone fr (inner++[trap]) w')/\(∀ ch,fr.mode≠.panicking ch)/\Fin ((fr,inner),BE w')):MustA (IX X) Fin (c,m):=by
 refine glue (IX X) Fin (El X gl) (Nj lw cl) hg fun t=>?_;obtain⟨fr,inner,w',⟨n,hn⟩,hT,hF⟩:=h t;obtain⟨k,hk⟩:=follow lw cl w' fr inner hT n c (EB m t) hg hn;refine⟨k,((fr,inner),BE w'),?_,hF⟩;have e0:(fun i=>(EB m t).tape ((EB m t).drawn+i))=t:=by
  funext i
  show t (0+i)=t i
  rw[Nat.zero_add]
 rw[e0] at hk;exact hk
end
structure Kp(RO O:Nat->Prop)(w w1:World):Prop where
 size:w.heap.size<=w1.heap.size
 keep:∀ j,(RO j\/O j)->w1.heap[j]?=w.heap[j]?
theorem Kp.refl{RO O:Nat->Prop}(w:World):Kp RO O w w:=⟨Nat.le_refl _,fun _ _=>rfl⟩
theorem Kp.trans{RO O:Nat->Prop}{w w1 w2:World}(h:Kp RO O w w1)(k:Kp RO O w1 w2):Kp RO O w w2:=⟨Nat.le_trans h.size k.size,fun j hj=>(k.keep j hj).trans (h.keep j hj)⟩
def Rho.flip(r:Rho):Rho:=fun i j=>r j i
section
variable {X:Ctx} {gl:Nat->Prop} {r:Rho}
theorem All2.flip{α:Type}{R S:α->α->Prop}(f:∀ x y,R x y->S y x):∀{a b:List α},All2 R a b->All2 S b a
 | _,_,.nil=>.nil
 | _,_,.cons h k=>.cons (f _ _ h) (k.flip f)
theorem ItemR.flip{a b:Item}(h:ItemR X gl r a b):ItemR X gl r.flip b a:=by
 cases h with
 | code h=>exact .code h
 | inBlock n=>exact .inBlock n
 | inLoop h=>exact .inLoop h
 | inRegion l h=>exact .inRegion l h
 | inRangeFunc h=>exact .inRangeFunc h
 | endRangeFunc h=>exact .endRangeFunc h
 | beginRound=>exact .beginRound
structure HeadR(X:Ctx)(gl:Nat->Prop)(r:Rho)(fr:Frame):Prop where
 kind:fr.kind=.normal
 mode:∃ m,ModeR fr.mode m
 defers:∃ d,All2 (DefR r) fr.defers d
 item:∀ x k,fr.todo=x::k->∃ y,ItemR X gl r x y
theorem FrameR.headr{a b:Frame}(h:FrameR X gl r a b):HeadR X gl r.flip b:=by
 refine⟨h.kind',?_,⟨_,h.defers.flip fun _ _ x=>by cases x with | mk h=>exact .mk h⟩,fun x k e=>?_⟩
 . have:=h.mode;generalize a.mode=m at this;generalize b.mode=m' at this;cases this
   . exact⟨_,.run⟩
   . exact⟨_,.returning⟩
 . have:=h.todo;rw[e] at this;generalize a.todo=t at this;cases this with
   | cons h _=>exact⟨_,h.flip⟩
theorem HeadR.step{mn:Bool}{fr:Frame}{inner base:List Frame}{w:World}(h:HeadR X gl r fr){c:BU}{w1:World}{es:Array Event}(hs:(stS X.P fr inner).runT X.P w #[]=(.ok c w1,es)) :
 ∃ es',stepG X.P mn (Bb fr (inner++base)) w=.go (Bb c.1 (c.2++base)) w1 es'/\∀ e∈es',e∈es:=by
 obtain⟨m,hm⟩:=h.mode;obtain⟨d,hd⟩:=h.defers;exact GH (gl:=gl) (.inl h.kind) (by rw[h.kind]; simp) hm hd (fun _ x k e=>.inl (h.item x k e)) hs
end
def EvO(RO O:Nat->Prop)(e:Event):Prop :=
 e=⟨.mark .noRoom,false,true⟩\/e.sync=false/\∃ j,((∃ a:Addr,e.loc=.cell a/\a.block=j)\/e.loc=.obj j)/\(O j\/(RO j/\e.write=false))
structure Gu(RO O O':Nat->Prop)(w w':World)(es:Array Event):Prop where
 grow:∀ j,O j->O' j
 new:∀ j,O' j->O j\/w.heap.size<=j
 lt:∀ j,O' j->j<w'.heap.size
 size:w.heap.size<=w'.heap.size
 frame:∀ j,j<w.heap.size->¬ O j->w'.heap[j]?=w.heap[j]?
 os:w'.os=w.os
 tape:w'.tape=w.tape
 out:w'.output=w.output
 ev:∀ e∈es,EvO RO O' e
inductive Co(P:Program)(mn:Bool)(RO:Nat->Prop)(Stop:(Nat->Prop)->Goroutine->World->Prop):(Nat->Prop)->Goroutine->World->Prop
 | stop {O:Nat->Prop} {g:Goroutine} {w:World} (h:∀ w1,Kp RO O w w1->Stop O g w1):Co P mn RO Stop O g w
 | step {O:Nat->Prop} {g:Goroutine} {w:World} (hr:g.status=.running) (ng:World->Goroutine) (nw:World->World) (nO:World->Nat->Prop) (es:World->Array Event)
  (h:∀ w1,Kp RO O w w1->stepG P mn g w1=.go (ng w1) (nw w1) (es w1)/\Gu RO O (nO w1) w1 (nw w1) (es w1)) (k:∀ w1,Kp RO O w w1->Co P mn RO Stop (nO w1) (ng w1) (nw w1)):Co P mn RO Stop O g w
section
variable {P:Program} {mn:Bool} {RO:Nat->Prop} {Stop:(Nat->Prop)->Goroutine->World->Prop}
theorem Co.rely{O:Nat->Prop}{g:Goroutine}{w w1:World}(h:Co P mn RO Stop O g w)(k:Kp RO O w w1):Co P mn RO Stop O g w1:=by
 cases h with
 | stop h=>exact .stop fun w2 h2=>h w2 (k.trans h2)
 | step hr ng nw nO es h kk=>exact .step hr ng nw nO es (fun w2 h2=>h w2 (k.trans h2)) (fun w2 h2=>kk w2 (k.trans h2))
theorem Co.one{O:Nat->Prop}{g:Goroutine}{w:World}(hr:g.status=.running)
 (h:∀ w1,Kp RO O w w1->∃ g' w' O' es,stepG P mn g w1=.go g' w' es/\Gu RO O O' w1 w' es/\Co P mn RO Stop O' g' w'):Co P mn RO Stop O g w:=by
 have h':∀ w1:World,∃ q:Goroutine × World × (Nat->Prop) × Array Event,Kp RO O w w1->stepG P mn g w1=.go q.1 q.2.1 q.2.2.2/\Gu RO O q.2.2.1 w1 q.2.1 q.2.2.2/\Co P mn RO Stop q.2.2.1 q.1 q.2.1:=by
  intro w1;by_cases hk:Kp RO O w w1
  . obtain⟨g',w',O',es,a,b,c⟩:=h w1 hk;exact⟨(g',w',O',es),fun _=>⟨a,b,c⟩⟩
  . exact⟨(default,default,fun _=>False,#[]),fun x=>absurd x hk⟩
 obtain⟨q,hq⟩:=Classical.axiomOfChoice h';exact .step hr (fun w1=>(q w1).1) (fun w1=>(q w1).2.1) (fun w1=>(q w1).2.2.1) (fun w1=>(q w1).2.2.2) (fun w1 hk=>⟨(hq w1 hk).1,(hq w1 hk).2.1⟩) (fun w1 hk=>(hq w1 hk).2.2)
theorem Gu.idle{O:Nat->Prop}{w:World}(hlt:∀ j,O j->j<w.heap.size)(d:Nat):Gu RO O O w { w with drawn:=d } #[] :=
 ⟨fun _ h=>h,fun _ h=>.inl h,hlt,Nat.le_refl _,fun _ _ _=>rfl,rfl,rfl,rfl,by simp⟩
end
section
variable {X:Ctx} {gl:Nat->Prop} {mn:Bool}
structure Beside(X:Ctx)(gl:Nat->Prop)(RO E S:Nat->Prop)(r:Rho)(s:BU × Fh)(c:BU)(w:World):Prop where
 ok:X.Ok r
 cfg:CfgR X gl r s.1 c
 wr:∀ u:World,u.heap=s.2.1->WR X r u w
 seal_:∀ u:World,u.heap=s.2.1->∀ i,S i->Dj u i
 gl_:X.G<=s.2.1.size
 gr_:X.G<=w.heap.size
 ro:∀ i j,r i j->S i->RO j
 ex:∀ i j,r i j->¬ E j
 elt:∀ j,E j->j<w.heap.size
 rlt:∀ j,RO j->j<w.heap.size
 ro':∀ i j,r i j->RO j->S i
def Own(E S:Nat->Prop)(r:Rho):Nat->Prop:=fun j=>E j\/∃ i,r i j/\¬ S i
theorem Beside.keep{RO E S:Nat->Prop}{r:Rho}{s:BU × Fh}{c:BU}{w w1:World}(h:Beside X gl RO E S r s c w)(k:Kp RO (Own E S r) w w1):Beside X gl RO E S r s c w1:=by
 refine⟨h.ok,h.cfg,fun u hu i j hij=>?_,h.seal_,h.gl_,Nat.le_trans h.gr_ k.size,h.ro,h.ex,fun j hj=>Nat.lt_of_lt_of_le (h.elt j hj) k.size,fun j hj=>Nat.lt_of_lt_of_le (h.rlt j hj) k.size,h.ro'⟩;obtain⟨o,o',h1,h2,h3⟩:=h.wr u hu i j hij;refine⟨o,o',h1,?_,h3⟩;rw[k.keep j ?_]
 . exact h2
 . by_cases hs:S i
   . exact .inl (h.ro i j hij hs)
   . exact .inr (.inr ⟨i,hij,hs⟩)
end
open Go.Conc
def InBlk(l:Loc)(j:Nat):Prop:=(∃ x:Addr,l=.cell x/\x.block=j)\/l=.obj j
def Far(k:Nat)(RO O:Nat->Prop)(a:Touch):Prop:=(∃ j,InBlk a.loc j/\(O j\/RO j/\a.write=false))\/(a.loc=.obj k/\a.kind=.atomic/\a.write=false)
theorem InBlk.inj{l:Loc}{i j:Nat}(h:InBlk l i)(k:InBlk l j):i=j:=by
 rcases h with⟨x,rfl,rfl⟩ | rfl
 . rcases k with⟨y,e,rfl⟩ | e
   . cases e; rfl
   . cases e
 . rcases k with⟨y,e,rfl⟩ | e
   . cases e
   . cases e; rfl
theorem Far.mono{k:Nat}{RO O O':Nat->Prop}{a:Touch}(h:Far k RO O a)(ho:∀ j,O j->O' j):Far k RO O' a:=h.imp (fun⟨j,x,y⟩=>⟨j,x,y.imp (ho j) id⟩) id
structure Two(x y k:Nat)(RO Ox Oy:Nat->Prop)(B:Nat)(t:Trace):Prop where
 clean:∀ said,¬ Race said t
 kx:∀ i a,touchAt t i=some a->a.loc.isMemory=true->Knows t x i\/(t.g? i=some y/\Far k RO Oy a)
 ky:∀ i a,touchAt t i=some a->a.loc.isMemory=true->Knows t y i\/(t.g? i=some x/\Far k RO Ox a)
 hx:Deaf t x=0
 hy:Deaf t y=0
 seen:∀ op∈t,op.act.low B
structure Apart(k:Nat)(RO Ox Oy:Nat->Prop):Prop where
 xy:∀ j,Ox j->¬ Oy j
 xr:∀ j,Ox j->¬ RO j
 yr:∀ j,Oy j->¬ RO j
 kx:¬ Ox k
 ky:¬ Oy k
 kr:¬ RO k
theorem Apart.symm{k:Nat}{RO Ox Oy:Nat->Prop}(h:Apart k RO Ox Oy):Apart k RO Oy Ox:=⟨fun j a b=>h.xy j b a,h.yr,h.xr,h.ky,h.kx,h.kr⟩
section
variable {x y k:Nat} {RO Ox Oy Ox':Nat->Prop} {B B':Nat} {t u:Trace}
theorem Two.symm(h:Two x y k RO Ox Oy B t):Two y x k RO Oy Ox B t:=⟨h.clean,h.ky,h.kx,h.hy,h.hx,h.seen⟩
theorem Two.mono(h:Two x y k RO Ox Oy B t)(hb:B<=B'):Two x y k RO Ox Oy B' t:=⟨h.clean,h.kx,h.ky,h.hx,h.hy,fun op hop=>MemAct.low_mono hb (h.seen op hop)⟩
theorem g?_old{t u:Trace}{i:Nat}(h:i<t.size):(t++u).g? i=t.g? i:=by simp[Trace.g?,getElem?_append_old h]
theorem FZ{RO O:Nat->Prop}{e:Event}(h:EvO RO O e){b:Touch}(hb:(MemAct.ofEvent e).touch?=some b):b.kind=.plain/\b.loc=e.loc/\b.write=e.write/\∃ j,InBlk e.loc j/\(O j\/RO j/\e.write=false):=by
 rcases h with rfl | ⟨h0,j,h1,h2⟩
 . cases hb
 . obtain⟨loc,wr,sy⟩:=e;dsimp only at h0 h1 h2 ⊢;subst h0;rcases h1 with⟨a,rfl,rfl⟩ | rfl
   . simp only[MemAct.ofEvent,MemAct.touch?,Option.some.injEq] at hb;subst hb;exact⟨rfl,rfl,rfl,_,.inl ⟨a,rfl,rfl⟩,h2⟩
   . have:MemAct.ofEvent ⟨.obj j,wr,false⟩=.access ⟨.obj j,wr,false⟩:=by cases wr<;>rfl
     rw[this] at hb;simp only[MemAct.touch?,Option.some.injEq] at hb;subst hb;exact⟨rfl,rfl,rfl,_,.inr rfl,h2⟩
theorem EvO.noMark{RO O:Nat->Prop}{e:Event}(h:EvO RO O e):e.loc≠.mark .disable/\e.loc≠.mark .enable:=by
 rcases h with rfl | ⟨_,j,⟨a,h1,_⟩ | h1,_⟩
 . exact⟨by simp,by simp⟩
 . rw[h1]; exact⟨by simp,by simp⟩
 . rw[h1]; exact⟨by simp,by simp⟩
theorem EvO.low{RO O:Nat->Prop}{e:Event}(h:EvO RO O e)(hl:∀ j,O j\/RO j->j<B):(MemAct.ofEvent e).low B:=by
 rcases h with rfl | ⟨h0,j,h1,h2⟩
 . trivial
 . have hj:j<B:=hl j (h2.imp id fun z=>z.1);obtain⟨loc,wr,sy⟩:=e;dsimp only at h0 h1;subst h0;rcases h1 with⟨a,rfl,rfl⟩ | rfl
   . exact hj
   . have:MemAct.ofEvent ⟨.obj j,wr,false⟩=.access ⟨.obj j,wr,false⟩:=by cases wr<;>rfl
     rw[this]; exact hj
theorem Two.own(h:Two x y k RO Ox Oy B t)(hxy:x≠y)(ap:Apart k RO Ox' Oy)(hg:∀ j,Ox j->Ox' j)(hB:B<=B')(hl:∀ j,Ox' j\/RO j->j<B'){fn:FuncId}{pos:String}{es:Array Event}(he:∀ e∈es,EvO RO Ox' e) :
 Two x y k RO Ox' Oy B' (t++MemOp.ofEvents x fn pos es):=by
 have hops:∀ op∈MemOp.ofEvents x fn pos es,∃ e∈es,op={ g:=x,fn,pos,act:=.ofEvent e }:=fun op hop=>Go.Conc.mem_ofEvents hop;have hgx:∀ op∈MemOp.ofEvents x fn pos es,op.g=x:=fun op hop=>by obtain⟨e,_,rfl⟩:=hops op hop; rfl
 refine⟨fun said=>noRace_append (h.clean said) hgx fun i a ha op hop b hb hc=>?_,fun i a ha hm=>?_,fun i a ha hm=>?_,?_,?_,fun op hop=>?_⟩
 . rcases h.kx i a ha hc.2.1 with hk | ⟨_,hf⟩
   . exact hk
   . exfalso
     obtain⟨e,hee,rfl⟩:=hops op hop;obtain⟨p1,p2,p3,j,p4,p5⟩:=FZ (he e hee) hb;obtain⟨c1,_,c2,c3⟩:=hc;rw[<- p2,<- c1] at p4;rcases hf with⟨j',q1,q2⟩ | ⟨q1,q2,q3⟩
     . obtain rfl:=p4.inj q1;rcases p5 with p5 | ⟨p5,p6⟩
       . rcases q2 with q2 | ⟨q2,_⟩
         . exact ap.xy _ p5 q2
         . exact ap.xr _ p5 q2
       . rcases q2 with q2 | ⟨_,q3⟩
         . exact ap.yr _ q2 p5
         . rcases c2 with c2 | c2
           . rw[q3] at c2; cases c2
           . rw[p3,p6] at c2; cases c2
     . rw[q1] at p4;obtain rfl:=p4.inj (.inr rfl);rcases p5 with p5 | ⟨p5,_⟩
       . exact ap.kx p5
       . exact ap.kr p5
 . obtain⟨z,hz,hza⟩:=touch_of ha;rcases getElem?_append_cases hz with⟨hi,hz'⟩ | ⟨_,hzu⟩
   . rcases h.kx i a (by rw[touchAt_of hz']; exact hza) hm with hk | ⟨q1,q2⟩
     . exact .inl (hk.app _)
     . exact .inr ⟨by rw[g?_old hi]; exact q1,q2⟩
   . have:=knows_own hz;rw[hgx z hzu] at this;exact .inl this
 . obtain⟨z,hz,hza⟩:=touch_of ha;rcases getElem?_append_cases hz with⟨hi,hz'⟩ | ⟨_,hzu⟩
   . rcases h.ky i a (by rw[touchAt_of hz']; exact hza) hm with hk | ⟨q1,q2⟩
     . exact .inl (hk.app _)
     . exact .inr ⟨by rw[g?_old hi]; exact q1,q2.mono hg⟩
   . refine .inr ⟨by simp[Trace.g?,hz,hgx z hzu],?_⟩;obtain⟨e,hee,rfl⟩:=hops z hzu;obtain⟨p1,p2,p3,j,p4,p5⟩:=FZ (he e hee) hza;exact .inl ⟨j,by rw[p2]; exact p4,by rw[p3]; exact p5⟩
 . rw[Deaf_own];exact(deafBehind_still (fun e hee=>(he e hee).noMark) _).trans h.hx
 . exact(Deaf_other t hxy _ hgx).trans h.hy
 . rcases Array.mem_append.1 hop with hop | hop
   . exact MemAct.low_mono hB (h.seen op hop)
   . obtain⟨e,hee,rfl⟩:=hops op hop;exact(he e hee).low hl
theorem Two.mute(h:Two x y k RO Ox Oy B t)(hn:∀ op∈u,op.act.touch?=none)(hdx:Deaf (t++u) x=Deaf t x)(hdy:Deaf (t++u) y=Deaf t y)(hl:∀ op∈u,op.act.low B):Two x y k RO Ox Oy B (t++u):=by
 refine⟨fun said=>noRace_appendMute (h.clean said) hn,fun i a ha hm=>?_,fun i a ha hm=>?_,hdx.trans h.hx,hdy.trans h.hy,seen_app h.seen hl⟩
 . obtain⟨z,hz,hza⟩:=touch_of ha;rcases getElem?_append_cases hz with⟨hi,hz'⟩ | ⟨_,hzu⟩
   . rcases h.kx i a (by rw[touchAt_of hz']; exact hza) hm with hk | ⟨q1,q2⟩
     . exact .inl (hk.app _)
     . exact .inr ⟨by rw[g?_old hi]; exact q1,q2⟩
   . rw[hn z hzu] at hza; cases hza
 . obtain⟨z,hz,hza⟩:=touch_of ha;rcases getElem?_append_cases hz with⟨hi,hz'⟩ | ⟨_,hzu⟩
   . rcases h.ky i a (by rw[touchAt_of hz']; exact hza) hm with hk | ⟨q1,q2⟩
     . exact .inl (hk.app _)
     . exact .inr ⟨by rw[g?_old hi]; exact q1,q2⟩
   . rw[hn z hzu] at hza; cases hza
theorem Two.shut(h:Two x y k RO Ox Oy B t)(hxy:x≠y)(ap:Apart k RO Ox Oy)(hk:k<B)(fn:FuncId)(pos:String):Two x y k RO Ox Oy B (t++MemOp.ofEvents x fn pos (closeEvents k)):=by
 rw[closeOps];generalize hu:(#[{ g:=x,fn:=fn,pos:=pos,act:=.access ⟨.obj k,false,true⟩ },{ g:=x,fn:=fn,pos:=pos,act:=.close k }]:Trace)=u;have hgx:∀ op∈u,op.g=x:=by
  intro op hop;subst hu;simp only[List.mem_toArray,List.mem_cons,List.not_mem_nil,or_false] at hop;rcases hop with rfl | rfl<;>rfl
 have htouch:∀ op∈u,∀ b,op.act.touch?=some b->b.loc=.obj k/\b.kind=.atomic/\b.write=false:=by
  intro op hop b hb;subst hu;simp only[List.mem_toArray,List.mem_cons,List.not_mem_nil,or_false] at hop;rcases hop with rfl | rfl
  . simp only[MemAct.touch?,Option.some.injEq] at hb;subst hb; exact⟨rfl,rfl,rfl⟩
  . cases hb
 have hq:∀ g,∀ op∈u,∀ d,deafStep g d op=d:=by
  intro g op hop d;subst hu;simp only[List.mem_toArray,List.mem_cons,List.not_mem_nil,or_false] at hop;rcases hop with rfl | rfl<;>rfl
 refine⟨fun said=>noRace_append (h.clean said) hgx fun i a ha op hop b hb hc=>?_,fun i a ha hm=>?_,fun i a ha hm=>?_,(Deaf_quiet (hq x)).trans h.hx,(Deaf_quiet (hq y)).trans h.hy,seen_app h.seen fun op hop=>?_⟩
 . rcases h.kx i a ha hc.2.1 with hkn | ⟨_,hf⟩
   . exact hkn
   . exfalso
     obtain⟨p1,p2,p3⟩:=htouch op hop b hb;obtain⟨c1,_,c2,c3⟩:=hc;rcases hf with⟨j',q1,q2⟩ | ⟨q1,q2,q3⟩
     . rw[c1,p1] at q1;obtain rfl:=q1.inj (.inr rfl);rcases q2 with q2 | ⟨q2,_⟩
       . exact ap.ky q2
       . exact ap.kr q2
     . rw[q3,p3] at c2;rcases c2 with c2 | c2<;>cases c2
 . obtain⟨z,hz,hza⟩:=touch_of ha;rcases getElem?_append_cases hz with⟨hi,hz'⟩ | ⟨_,hzu⟩
   . rcases h.kx i a (by rw[touchAt_of hz']; exact hza) hm with hk | ⟨q1,q2⟩
     . exact .inl (hk.app _)
     . exact .inr ⟨by rw[g?_old hi]; exact q1,q2⟩
   . have:=knows_own hz;rw[hgx z hzu] at this;exact .inl this
 . obtain⟨z,hz,hza⟩:=touch_of ha;rcases getElem?_append_cases hz with⟨hi,hz'⟩ | ⟨_,hzu⟩
   . rcases h.ky i a (by rw[touchAt_of hz']; exact hza) hm with hk | ⟨q1,q2⟩
     . exact .inl (hk.app _)
     . exact .inr ⟨by rw[g?_old hi]; exact q1,q2⟩
   . exact .inr ⟨by simp[Trace.g?,hz,hgx z hzu],.inr (htouch z hzu a hza)⟩
 . subst hu;simp only[List.mem_toArray,List.mem_cons,List.not_mem_nil,or_false] at hop;rcases hop with rfl | rfl
   . exact hk
   . exact hk
structure ShutBy(y k m:Nat)(t:Trace):Prop where
 act:t.act? m=some (.close k)
 by_:t.g? m=some y
 heard:t.heard m
 last:∀ i a,touchAt t i=some a->t.g? i=some y->i<m
theorem ShutBy.app(h:ShutBy y k B t)(hu:∀ op∈u,op.g=y->op.act.touch?=none):ShutBy y k B (t++u):=by
 have hm:=lt_of_act? h.act;refine⟨by rw[act?_old hm]; exact h.act,by rw[g?_old hm]; exact h.by_,?_,fun i a ha hg=>?_⟩
 . obtain⟨g,h1,h2⟩:=h.heard;exact⟨g,by rw[g?_old hm]; exact h1,by rw[deaf_old (Nat.le_of_lt hm)]; exact h2⟩
 . obtain⟨z,hz,hza⟩:=touch_of ha;rcases getElem?_append_cases hz with⟨hi,hz'⟩ | ⟨_,hzu⟩
   . exact h.last i a (by rw[touchAt_of hz']; exact hza) (by rw[<- g?_old (u:=u) hi]; exact hg)
   . have e:z.g=y:=by simpa[Trace.g?,hz] using hg
     rw[hu z hzu e] at hza;cases hza
theorem Two.shutBy(h:Two x y k RO Ox Oy B t)(fn:FuncId)(pos:String):ShutBy x k (t.size+1) (t++MemOp.ofEvents x fn pos (closeEvents k)):=by
 rw[closeOps];generalize hu:(#[{ g:=x,fn:=fn,pos:=pos,act:=.access ⟨.obj k,false,true⟩ },{ g:=x,fn:=fn,pos:=pos,act:=.close k }]:Trace)=u;have e1:(t++u)[t.size+1]?=some { g:=x,fn:=fn,pos:=pos,act:=.close k }:=by subst hu; simp
 have hsz:u.size=2:=by subst hu; rfl
 have hq:∀ g,∀ op∈u,∀ d,deafStep g d op=d:=by
  intro g op hop d;subst hu;simp only[List.mem_toArray,List.mem_cons,List.not_mem_nil,or_false] at hop;rcases hop with rfl | rfl<;>rfl
 refine⟨act?_of e1,g?_of e1,⟨x,g?_of e1,by rw[deaf_quiet (hq x) 1 (by omega)]; exact h.hx⟩,fun i a ha hg=>?_⟩;obtain⟨z,hz,hza⟩:=touch_of ha;have hlt:=lt_size_of_getElem? hz;rw[Array.size_append,hsz] at hlt;by_cases hi:i=t.size+1
 . subst hi;rw[e1] at hz;obtain rfl:=(Option.some.inj hz).symm;cases hza
 . omega
theorem Two.joined(h:Two 0 y k RO Ox Oy B t){m:Nat}(hs:ShutBy y k m t)(hk:k<B)(fn:FuncId)(pos:String):Past (fun _=>False) B (t++#[{ g:=0,fn:=fn,pos:=pos,act:=.recvClosed k }]):=by
 generalize hu:(#[{ g:=0,fn:=fn,pos:=pos,act:=.recvClosed k }]:Trace)=u;have e0:(t++u)[t.size]?=some { g:=0,fn:=fn,pos:=pos,act:=.recvClosed k }:=by subst hu; simp
 have hn:∀ op∈u,op.act.touch?=none:=by
  intro op hop;subst hu;simp only[List.mem_toArray,List.mem_cons,List.not_mem_nil,or_false] at hop;subst hop; rfl
 have hq:∀ g,∀ op∈u,∀ d,deafStep g d op=d:=by
  intro g op hop d;subst hu;simp only[List.mem_toArray,List.mem_cons,List.not_mem_nil,or_false] at hop;subst hop; rfl
 have hm:=lt_of_act? hs.act;have hs':=hs.app (u:=u) fun op hop _=>hn op hop;have edge:HappensBefore (t++u) m t.size :=
  Relation.TransGen.single (.inr ⟨.closed hs'.act (act?_of e0),hs'.heard,⟨0,g?_of e0,by rw[deaf_old (Nat.le_refl _)]; exact h.hx⟩⟩)
 have know:∀ i a,touchAt (t++u) i=some a->a.loc.isMemory=true->Knows (t++u) 0 i:=by
  intro i a ha hmem;obtain⟨z,hz,hza⟩:=touch_of ha;rcases getElem?_append_cases hz with⟨hi,hz'⟩ | ⟨_,hzu⟩
  . rcases h.kx i a (by rw[touchAt_of hz']; exact hza) hmem with hkn | ⟨q1,_⟩
    . exact hkn.app _
    . have hlt:=hs.last i a (by rw[touchAt_of hz']; exact hza) q1;obtain⟨zm,hzm,_⟩:=Option.map_eq_some_iff.1 hs'.by_;have eg:z.g=zm.g:=by
       have e1:(t++u).g? i=some y:=by rw[g?_old hi]; exact q1
       have e2:=hs'.by_;simp only[Trace.g?,hz,hzm,Option.map_some,Option.some.injEq] at e1 e2;rw[e1,e2]
      exact⟨t.size,_,e0,rfl,.inr ((hb_po hlt hz hzm eg).trans edge)⟩
  . rw[hn z hzu] at hza; cases hza
 refine⟨fun said=>noRace_appendMute (h.clean said) hn,fun i a ha hmem=>.inl (know i a ha hmem),fun i g hg hne hc=>?_,(Deaf_quiet (hq 0)).trans h.hx,seen_app h.seen fun op hop=>?_⟩
 . obtain⟨a,ha,hmem,_⟩:=hc;obtain⟨q,z,h1,h2,h3⟩:=know i a ha hmem;refine⟨q,by simp[Trace.g?,h1,h2],?_⟩;rcases h3 with rfl | h3
   . exfalso
     simp only[Trace.g?,h1,Option.map_some,Option.some.injEq] at hg;exact hne (hg.symm.trans h2)
   . exact h3
 . subst hu;simp only[List.mem_toArray,List.mem_cons,List.not_mem_nil,or_false] at hop;subst hop; exact hk
end
end Go.Proofs.YtaemcekcancpdaaGreatDoor.Ren
namespace Go.Proofs.YtaemcekcancpdaaGreatDoor.Ren
open Go.Conc Go.RowKit
open Go.ConcN (sumTo upd sumTo_upd upd_ne upd_same)
section
variable {P:Program} {gs:Array Goroutine} {w w₁:World} {sl:Option (Nat × Nat)} {i j:Nat} {g g₂ gj:Goroutine} {es:Array Event} {shape shj:CommShape} {blocking:Bool}
 {c cap s r:Nat} {buf:Array Value} {closed tm:Bool} {v z zj:Value}
theorem GJ(hi:gs[i]?=some g)(h:stepG P (i==0) g w=.comm g₂ #[rcase c z] blocking shape w₁ es)(hc:w₁.heap[c]?=some (.chan cap buf closed s r tm))(hsome:0<buf.size)
 (hij:j≠i) (hj:gs[j]?=some (parked gj #[scase c v zj] shj)) (hp:partners (gs.setIfInBounds i ph) c true=[(j,0)]) :
 runT P (crowd gs w sl) i=(.next (crowd ((gs.setIfInBounds j (gj.finishComm P #[scase c v zj] shj 0 undef false)).setIfInBounds i (g₂.finishComm P #[rcase c z] shape 0 (buf.getD 0 undef) true)) (w₁.setChan c cap ((buf.extract 1 buf.size).push v) closed (s+1) (r+1) tm) sl),
  MemOp.ofEvents i g.frame.fn g.frame.place es++#[{ g:=i,fn:=g₂.frame.fn,pos:=g₂.frame.place,act:=.recv c r cap },{ g:=i,fn:=g₂.frame.fn,pos:=g₂.frame.place,act:=.recvDone c r },
   { g:=j,fn:=gj.frame.fn,pos:=gj.frame.place,act:=.send c s },{ g:=j,fn:=gj.frame.fn,pos:=gj.frame.place,act:=.sendDone c s }]):=by
 rw[runT_crowd_comm hi h];have hj':=stand_get (i:=i) hij hj;have hfp:=finishPartner_at P (gs.setIfInBounds i ph) hj' (cs:=#[scase c v zj]) (sh:=shj) rfl 0 undef;have hgd:(gs.setIfInBounds i ph).getD j default=parked gj #[scase c v zj] shj:=by rw[Array.getD_eq_getD_getElem?,hj']; rfl
 have hov:offeredValue (gs.setIfInBounds i ph) j 0=v:=by simp[offeredValue,hj',parked,scase]
 simp[communicate,ways,rcase,hc,hp,hsome,choose,Sem.run,Question.forced,bind,Sem.bind,pure,World.setChan,crowd,hfp,hgd,hov,set_stand2,scase,parked];rfl
end
section
variable (P:Program) (k:Nat) (RO:Nat->Prop)
def PStop:List Value->(Nat->Prop)->Goroutine->World->Prop
 | v::vs,O,g,w=>g.status=.running/\(∃ z,stepG P false g w=.comm (core g) #[scase k v z] true .send w #[])/\Co P false RO (PStop vs) O (Conc.served (core g) undef) w
 | [],_,g,_=>g.status=.running/\mayWake P g=true/\∃ n g',QuitsIn P n g'/\∀(w1:World) (cap:Nat) (buf:Array Value) (s r:Nat) (tm:Bool),w1.heap[k]?=some (.chan cap buf false s r tm) ->
  stepG P false g w1=.go g' (w1.setChan k cap buf true s r tm) (closeEvents k)
def CStop(Fin:(Nat->Prop)->Goroutine->World->Prop):List Value->(Nat->Prop)->Goroutine->World->Prop
 | v::vs,O,g,w=>g.status=.running/\(∃ z,stepG P true g w=.comm (core g) #[rcase k z] true (.recv true) w #[])/\Co P true RO (CStop Fin vs) O (Conc.served (core g) (recvd true v true)) w
 | [],O,g,w=>g.status=.running/\∃ z,stepG P true g w=.comm (core g) #[rcase k z] true (.recv true) w #[]/\∀ w1,Kp RO O w w1->Fin O (Conc.served (core g) (recvd true z false)) w1
end
section
variable {P:Program} {k:Nat} {RO:Nat->Prop} {Fin:(Nat->Prop)->Goroutine->World->Prop}
theorem CStop.running{vs:List Value}{O:Nat->Prop}{g:Goroutine}{w:World}(h:CStop P k RO Fin vs O g w):g.status=.running:=by cases vs<;>exact h.1
theorem PStop.running{vs:List Value}{O:Nat->Prop}{g:Goroutine}{w:World}(h:PStop P k RO vs O g w):g.status=.running:=by cases vs<;>exact h.1
theorem CStop.comm{vs:List Value}{O:Nat->Prop}{g:Goroutine}{w:World}(h:CStop P k RO Fin vs O g w):∃ z,stepG P true g w=.comm (core g) #[rcase k z] true (.recv true) w #[]:=by
 cases vs with
 | nil=>obtain⟨_,z,h1,_⟩:=h; exact⟨z,h1⟩
 | cons v vs=>exact h.2.1
theorem CStop.again{vs:List Value}{O:Nat->Prop}{g:Goroutine}{w:World}(z0:Value)(h:CStop P k RO Fin vs O g w):CStop P k RO Fin vs O { parked (core g) #[rcase k z0] (.recv true) with status:=.running } w:=by
 have e:∀ w,stepG P true { parked (core g) #[rcase k z0] (.recv true) with status:=.running } w=stepG P true g w:=fun w=>stepG_same rfl rfl rfl w;cases vs with
 | nil =>
  obtain⟨_,z,h1,h2⟩:=h;exact⟨rfl,z,by rw[e]; exact h1,h2⟩
 | cons v vs =>
  obtain⟨_,⟨z,h1⟩,h2⟩:=h;exact⟨rfl,⟨z,by rw[e]; exact h1⟩,h2⟩
theorem Co.running{mn:Bool}{Stop:(Nat->Prop)->Goroutine->World->Prop}{O:Nat->Prop}{g:Goroutine}{w:World}(hs:∀ O g w,Stop O g w->g.status=.running)(h:Co P mn RO Stop O g w):g.status=.running:=by
 cases h with
 | stop h=>exact hs _ _ _ (h w (Kp.refl w))
 | step hr _ _ _ _ _ _=>exact hr
structure J(P:Program)(c k cap N:Nat)(W:World)(RO OM OP:Nat->Prop)(vsC:List Value)(buf:Array Value)(vsP:List Value)(closed:Bool)(gs:Array Goroutine)(w:World)(t:Trace)(q:Nat->Nat):Prop where
 c0:0<c
 clt:c<gs.size
 chan:∃ s r,w.heap[k]?=some (.chan cap buf closed s r false)
 total:vsC=buf.toList++vsP
 ap:Apart k RO OM OP
 ml:∀ j,OM j\/RO j->j<w.heap.size
 pl:∀ j,OP j\/RO j->j<w.heap.size
 two:Two 0 c k RO OM OP w.heap.size t
 sh:closed=true->∃ m,ShutBy c k m t
 rest:∀ i g,i≠0->i≠c->gs[i]?=some g->QuitsD P (q i) (Deaf t i) g
 above:∀ j,gs.size<=j->Deaf t j=0
 lo:Below N W w
 nk:N<=k
 nm:∀ j,OM j->N<=j
 np:∀ j,OP j->N<=j
 nw:N<=w.heap.size
def Uw(P:Program)(Fin:(Nat->Prop)->Goroutine->World->Prop)(n N:Nat)(W:World)(m:Machine)(t:Trace):Prop :=
 ∃ gs a w sl q O,m=crowd gs w sl/\gs.size=n/\gs[0]?=some a/\Fin O a w/\Leavers P t gs q/\Past (fun _=>False) w.heap.size t/\Below N W w
def Goal(P:Program)(Fin:(Nat->Prop)->Goroutine->World->Prop)(n N:Nat)(W:World)(m:Machine)(t:Trace):Prop:=∃ M m' t',runNT P M m t=(.next m',t')/\Uw P Fin n N W m' t'
theorem Goal.head{n N:Nat}{W:World}{m m1:Machine}{t:Trace}{ops:Array MemOp}(hs:stepT P m=(.next m1,ops))(h:Goal P Fin n N W m1 (t++ops)):Goal P Fin n N W m t:=by
 obtain⟨M,m',t',e,hd⟩:=h;exact⟨M+1,m',t',by simp only[runNT,hs]; exact e,hd⟩
theorem Goal.now{n N:Nat}{W:World}{m:Machine}{t:Trace}(h:Uw P Fin n N W m t):Goal P Fin n N W m t:=⟨0,m,t,rfl,h⟩
theorem Gu.kp{O O' Z:Nat->Prop}{w w':World}{es:Array Event}(h:Gu RO O O' w w' es)(hr:∀ j,RO j->j<w.heap.size/\¬ O j)(hz:∀ j,Z j->j<w.heap.size/\¬ O j):Kp RO Z w w' :=
 ⟨h.size,fun j hj=>hj.elim (fun x=>h.frame j (hr j x).1 (hr j x).2) fun x=>h.frame j (hz j x).1 (hz j x).2⟩
theorem Kp.chan{O:Nat->Prop}{w:World}{o:Obj}(hk:w.heap[k]?=some o)(ho:¬ O k)(hr:¬ RO k)(cap:Nat)(buf:Array Value)(cl:Bool)(s r:Nat)(tm:Bool):Kp RO O w (w.setChan k cap buf cl s r tm) :=
 ⟨by simp[World.setChan],fun j hj=>by
  have:k≠j:=fun e=>by subst e; exact hj.elim hr ho
  simp[World.setChan,Array.getElem?_setIfInBounds_ne this]⟩
theorem Kp.at_{O:Nat->Prop}(w:World)(d:Nat):Kp RO O w (w.at d):=⟨Nat.le_refl _,fun _ _=>rfl⟩
theorem Apart.grow{OM OP OP':Nat->Prop}{w w':World}{es:Array Event}(h:Apart k RO OM OP)(g:Gu RO OP OP' w w' es)(hm:∀ j,OM j\/RO j->j<w.heap.size)(hk:k<w.heap.size):Apart k RO OM OP':=by
 have nw:∀ j,OP' j->OP j\/w.heap.size<=j:=g.new;refine⟨fun j a b=>?_,h.xr,fun j a b=>?_,h.kx,fun a=>?_,h.kr⟩
 . rcases nw j b with b | b
   . exact h.xy j a b
   . exact absurd (hm j (.inl a)) (Nat.not_lt.2 b)
 . rcases nw j a with a | a
   . exact h.yr j a b
   . exact absurd (hm j (.inr b)) (Nat.not_lt.2 a)
 . rcases nw k a with a | a
   . exact h.ky a
   . omega
end
open Go.Conc Go.RowKit
open Go.ConcN (sumTo upd sumTo_upd upd_ne upd_same)
section
variable {P:Program} {c k cap N:Nat} {W:World} {RO OM OP OM' OP':Nat->Prop} {vsC vsP:List Value} {buf:Array Value} {closed:Bool} {gs:Array Goroutine} {w w':World} {t:Trace} {q:Nat->Nat} {a b a' b':Goroutine} {es:Array Event} {sl:Option (Nat × Nat)}
theorem J.at_(h:J P c k cap N W RO OM OP vsC buf vsP closed gs w t q)(d:Nat):J P c k cap N W RO OM OP vsC buf vsP closed gs (w.at d) t q :=
 ⟨h.c0,h.clt,h.chan,h.total,h.ap,h.ml,h.pl,h.two,h.sh,h.rest,h.above,⟨h.lo.os,h.lo.tape,h.lo.output,h.lo.size,h.lo.block⟩,h.nk,h.nm,h.np,h.nw⟩
theorem J.klt(h:J P c k cap N W RO OM OP vsC buf vsP closed gs w t q):k<w.heap.size:=by
 obtain⟨s,r,e⟩:=h.chan;exact(Array.getElem?_eq_some_iff.1 e).1
theorem Do{g:Nat}{fn:FuncId}{pos:String}:∀ op∈MemOp.ofEvents g fn pos es,op.g=g:=fun op hop=>by obtain⟨e,_,rfl⟩:=Go.Conc.mem_ofEvents hop; rfl
theorem CO(f:Goroutine->Goroutine){i j:Nat}(hij:i≠j){x g':Goroutine}(hx:gs[j]?=some x)(hf:f x=x):((gs.map f).setIfInBounds i g')[j]?=some x:=by
 rw[Array.getElem?_setIfInBounds_ne hij,Array.getElem?_map,hx];simp[hf]
theorem Dp(f:Goroutine->Goroutine){i j:Nat}(hij:i≠j){x g':Goroutine}(hx:((gs.map f).setIfInBounds i g')[j]?=some x):∃ y,gs[j]?=some y/\x=f y:=by
 rw[Array.getElem?_setIfInBounds_ne hij,Array.getElem?_map] at hx;obtain⟨y,hy,rfl⟩:=Option.map_eq_some_iff.1 hx;exact⟨y,hy,rfl⟩
theorem Bq(f:Goroutine->Goroutine)(i:Nat)(g':Goroutine):((gs.map f).setIfInBounds i g').size=gs.size:=by simp
theorem J.main(h:J P c k cap N W RO OM OP vsC buf vsP closed gs w t q)(h0:gs[0]?=some a)(g:Gu RO OM OM' w w' es)(fn:FuncId)(pos:String)(x:Goroutine) :
 J P c k cap N W RO OM' OP vsC buf vsP closed ((gs.map (woken P x a' w')).setIfInBounds 0 a') w' (t++MemOp.ofEvents 0 fn pos es) q:=by
 have hk:=h.klt;have ap':Apart k RO OM' OP:=(h.ap.symm.grow g h.pl hk).symm;have kk:w'.heap[k]?=w.heap[k]?:=g.frame k hk h.ap.kx;have ml':∀ j,OM' j\/RO j->j<w'.heap.size:=fun j hj=>hj.elim (g.lt j) fun hr=>Nat.lt_of_lt_of_le (h.ml j (.inr hr)) g.size;refine⟨h.c0,by rw[Bq]; exact h.clt,?_,h.total,ap',ml',fun j hj=>Nat.lt_of_lt_of_le (h.pl j hj) g.size,?_,fun hc=>?_,fun i x hi0 hic hx=>?_,fun j hj=>?_,?_,h.nk,fun j hj=>?_,h.np,Nat.le_trans h.nw g.size⟩
 . obtain⟨s,r,e⟩:=h.chan;exact⟨s,r,by rw[kk]; exact e⟩
 . exact h.two.own (fun e=>by have:=h.c0; omega) ap' g.grow g.size ml' g.ev
 . obtain⟨m,hm⟩:=h.sh hc;exact⟨m,hm.app fun op hop hg=>by have:=Do op hop; have:=h.c0; omega⟩
 . obtain⟨y,hy,rfl⟩:=Dp _ (fun e=>hi0 e.symm) hx;have hq:=h.rest i y hi0 hic hy;rw[woken_quitsD hq,Deaf_other t (g:=i) (g':=0) (Ne.symm hi0) _ Do];exact hq
 . rw[Bq] at hj;have:0<gs.size:=(Array.getElem?_eq_some_iff.1 h0).1;rw[Deaf_other t (g:=j) (g':=0) (by omega) _ Do];exact h.above j hj
 . exact⟨g.os.trans h.lo.os,g.tape.trans h.lo.tape,g.out.trans h.lo.output,Nat.le_trans h.lo.size g.size,fun j hj=>(g.frame j (Nat.lt_of_lt_of_le hj h.nw) fun ho=>absurd (h.nm j ho) (Nat.not_le.2 hj)).trans (h.lo.block j hj)⟩
 . rcases g.new j hj with x | x
   . exact h.nm j x
   . exact Nat.le_trans h.nw x
theorem J.prod(h:J P c k cap N W RO OM OP vsC buf vsP closed gs w t q)(hcl:closed=false)(h0:gs[0]?=some a)(g:Gu RO OP OP' w w' es)(fn:FuncId)(pos:String)(x:Goroutine) :
 J P c k cap N W RO OM OP' vsC buf vsP closed ((gs.map (woken P x b' w')).setIfInBounds c b') w' (t++MemOp.ofEvents c fn pos es) q:=by
 have hk:=h.klt;have ap':Apart k RO OM OP':=h.ap.grow g h.ml hk;have kk:w'.heap[k]?=w.heap[k]?:=g.frame k hk h.ap.ky;have pl':∀ j,OP' j\/RO j->j<w'.heap.size:=fun j hj=>hj.elim (g.lt j) fun hr=>Nat.lt_of_lt_of_le (h.pl j (.inr hr)) g.size;refine⟨h.c0,by rw[Bq]; exact h.clt,?_,h.total,ap',fun j hj=>Nat.lt_of_lt_of_le (h.ml j hj) g.size,pl',?_,fun hc=>(by rw[hcl] at hc; cases hc),fun i x hi0 hic hx=>?_,fun j hj=>?_,?_,h.nk,h.nm,fun j hj=>?_,Nat.le_trans h.nw g.size⟩
 . obtain⟨s,r,e⟩:=h.chan;exact⟨s,r,by rw[kk]; exact e⟩
 . exact(h.two.symm.own (fun e=>by have:=h.c0; omega) ap'.symm g.grow g.size pl' g.ev).symm
 . obtain⟨y,hy,rfl⟩:=Dp _ (fun e=>hic e.symm) hx;have hq:=h.rest i y hi0 hic hy;rw[woken_quitsD hq,Deaf_other t (g:=i) (g':=c) (Ne.symm hic) _ Do];exact hq
 . rw[Bq] at hj;have:=h.clt;rw[Deaf_other t (g:=j) (g':=c) (by omega) _ Do];exact h.above j hj
 . exact⟨g.os.trans h.lo.os,g.tape.trans h.lo.tape,g.out.trans h.lo.output,Nat.le_trans h.lo.size g.size,fun j hj=>(g.frame j (Nat.lt_of_lt_of_le hj h.nw) fun ho=>absurd (h.np j ho) (Nat.not_le.2 hj)).trans (h.lo.block j hj)⟩
 . rcases g.new j hj with x | x
   . exact h.np j x
   . exact Nat.le_trans h.nw x
theorem J.slip(h:J P c k cap N W RO OM OP vsC buf vsP closed gs w t q)(h0:gs[0]?=some a)(hb:gs[c]?=some b)(wa:∀ x x',woken P x x' w a=a)(wb:∀ x x',woken P x x' w b=b)
 {i:Nat} {g:Goroutine} (hi:gs[i]?=some g) (hi0:i≠0) (hic:i≠c) (hg:g.status=.running) :
 ∃ gs' ops k',q i=k'+1/\runT P (crowd gs w sl) i=(.next (crowd gs' w sl),ops)/\J P c k cap N W RO OM OP vsC buf vsP closed gs' w (t++ops) (upd q i k')/\gs'.size=gs.size/\gs'[0]?=some a/\gs'[c]?=some b:=by
 have hq:=h.rest i g hi0 hic hi;have hib:(i==0)=false:=by simpa using hi0
 have hlt:i<gs.size:=(Array.getElem?_eq_some_iff.1 hi).1;cases hqi:q i with
 | zero=>rw[hqi] at hq; rw[hq.1] at hg; cases hg
 | succ k' =>
  rw[hqi] at hq;rcases hq with⟨hf,_⟩ | ⟨_,g',es,hm,hstp,hq'⟩
  . rw[hf] at hg; cases hg
  have hrunT:=runT_crowd_go (P:=P) (w:=w) (sl:=sl) (i:=i) hi (by rw[hib]; exact hstp w);refine⟨_,_,k',rfl,hrunT,?_,Bq _ _ _,CO _ hi0 h0 (wa _ _),CO _ hic hb (wb _ _)⟩;have hops:∀ op∈MemOp.ofEvents i g.frame.fn g.frame.place es,op.act.touch?=none:=fun op hop=>by obtain⟨e,he,rfl⟩:=Go.Conc.mem_ofEvents hop; exact touch_mute (hm e he)
  refine⟨h.c0,by rw[Bq]; exact h.clt,h.chan,h.total,h.ap,h.ml,h.pl,?_,fun hc=>?_,fun j x hj0 hjc hx=>?_,fun j hj=>?_,h.lo,h.nk,h.nm,h.np,h.nw⟩
  . exact h.two.mute hops (Deaf_other t (g:=0) (g':=i) hi0 _ Do) (Deaf_other t (g:=c) (g':=i) hic _ Do) fun op hop=>by obtain⟨e,he,rfl⟩:=Go.Conc.mem_ofEvents hop; exact low_mute (hm e he) _
  . obtain⟨m,hmm⟩:=h.sh hc;exact⟨m,hmm.app fun op hop _=>hops op hop⟩
  . by_cases hji:i=j
    . subst hji;rw[Array.getElem?_setIfInBounds_self_of_lt (by simpa using hlt)] at hx;obtain rfl:=Option.some.inj hx;rw[upd_same,Deaf_own];exact hq'
    . obtain⟨y,hy,rfl⟩:=Dp _ hji hx;have hqj:=h.rest j y hj0 hjc hy;rw[woken_quitsD hqj,upd_ne q k' (Ne.symm hji),Deaf_other t (g:=j) (g':=i) hji _ Do];exact hqj
  . rw[Bq] at hj;rw[Deaf_other t (g:=j) (g':=i) (by omega) _ Do];exact h.above j hj
theorem size_setChan(w:World)(k cap:Nat)(buf:Array Value)(cl:Bool)(s r:Nat)(tm:Bool):(w.setChan k cap buf cl s r tm).heap.size=w.heap.size:=by simp[World.setChan]
theorem EC{w:World}{k:Nat}(hk:k<w.heap.size)(cap:Nat)(buf:Array Value)(cl:Bool)(s r:Nat)(tm:Bool):(w.setChan k cap buf cl s r tm).heap[k]?=some (.chan cap buf cl s r tm):=by
 simp[World.setChan,hk]
theorem J.comm(h:J P c k cap N W RO OM OP vsC buf vsP closed gs w t q){vsC' vsP':List Value}{buf':Array Value}{gs':Array Goroutine}{s r:Nat}{u:Trace}(hsz:gs'.size=gs.size)(hoth:∀ i,i≠0->i≠c->gs'[i]?=gs[i]?)
 (htot:vsC'=buf'.toList++vsP') (hn:∀ op∈u,op.act.touch?=none) (hq:∀ g,∀ op∈u,∀ d,deafStep g d op=d) (hl:∀ op∈u,op.act.low w.heap.size) :
 J P c k cap N W RO OM OP vsC' buf' vsP' closed gs' (w.setChan k cap buf' closed s r false) (t++u) q:=by
 have hk:=h.klt;refine⟨h.c0,by rw[hsz]; exact h.clt,⟨s,r,EC hk _ _ _ _ _ _⟩,htot,h.ap,fun j hj=>by rw[size_setChan]; exact h.ml j hj,fun j hj=>by rw[size_setChan]; exact h.pl j hj,?_,fun hc=>?_,fun i g hi0 hic hg=>?_,fun j hj=>?_,below_setChan h.lo h.nk _ _ _ _ _ _,h.nk,h.nm,h.np,by rw[size_setChan]; exact h.nw⟩
 . rw[size_setChan];exact h.two.mute hn (Deaf_quiet (hq 0)) (Deaf_quiet (hq c)) hl
 . obtain⟨m,hm⟩:=h.sh hc;exact⟨m,hm.app fun op hop _=>hn op hop⟩
 . rw[hoth i hi0 hic] at hg;rw[Deaf_quiet (hq i)];exact h.rest i g hi0 hic hg
 . rw[hsz] at hj;rw[Deaf_quiet (hq j)];exact h.above j hj
theorem J.close(h:J P c k cap N W RO OM OP vsC buf [] false gs w t q){s r:Nat}(fn:FuncId)(pos:String)(x b':Goroutine) :
 J P c k cap N W RO OM OP vsC buf [] true ((gs.map (woken P x b' (w.setChan k cap buf true s r false))).setIfInBounds c b') (w.setChan k cap buf true s r false) (t++MemOp.ofEvents c fn pos (closeEvents k)) q:=by
 have hk:=h.klt;refine⟨h.c0,by rw[Bq]; exact h.clt,⟨s,r,EC hk _ _ _ _ _ _⟩,h.total,h.ap,fun j hj=>by rw[size_setChan]; exact h.ml j hj,fun j hj=>by rw[size_setChan]; exact h.pl j hj,?_,fun _=>⟨_,h.two.symm.shutBy fn pos⟩,fun i g hi0 hic hg=>?_,fun j hj=>?_,below_setChan h.lo h.nk _ _ _ _ _ _,h.nk,h.nm,h.np,by rw[size_setChan]; exact h.nw⟩
 . rw[size_setChan];exact(h.two.symm.shut (fun e=>by have:=h.c0; omega) h.ap.symm hk fn pos).symm
 . obtain⟨y,hy,rfl⟩:=Dp _ (Ne.symm hic) hg;have hq:=h.rest i y hi0 hic hy;rw[woken_quitsD hq,Deaf_other t (g:=i) (g':=c) (Ne.symm hic) _ Do];exact hq
 . rw[Bq] at hj;have:=h.clt;rw[Deaf_other t (g:=j) (g':=c) (by omega) _ Do];exact h.above j hj
theorem Lo{g:Nat}{fn:FuncId}{pos:String}{acts:List MemAct}(h:∀ a∈acts,(∃ n,a=.send k n)\/(∃ n,a=.sendDone k n)\/(∃ n m,a=.recv k n m)\/(∃ n,a=.recvDone k n)){B:Nat}(hk:k<B){u:Trace}(hu:∀ op∈u,op.act∈acts) :
 (∀ op∈u,op.act.touch?=none)/\(∀ g,∀ op∈u,∀ d,deafStep g d op=d)/\∀ op∈u,op.act.low B:=by
 refine⟨fun op hop=>?_,fun g op hop d=>?_,fun op hop=>?_⟩
 all_goals
  obtain⟨og,ofn,opos,oact⟩:=op;rcases h _ (hu _ hop) with⟨n,e⟩ | ⟨n,e⟩ | ⟨n,m,e⟩ | ⟨n,e⟩<;>dsimp only at e<;>subst e<;>first | rfl | exact hk
theorem J.noOffer(h:J P c k cap N W RO OM OP vsC buf vsP closed gs w t q){j:Nat}{g:Goroutine}(hj:gs[j]?=some g)(h0:j≠0)(hc:j≠c)(send:Bool):offersAt g k send=[]:=by
 refine offersAt_of_not_blocked ?_ _ _;rcases(h.rest j g h0 hc hj).status with e | e<;>rw[e]<;>intro x<;>cases x
theorem J.awake(h:J P c k cap N W RO OM OP vsC buf vsP closed gs w t q)(h0:gs[0]?=some a)(hb:gs[c]?=some b)(ha:a.status=.running\/a.status=.blocked\/a.status=.finished)(hbb:b.status=.running\/b.status=.blocked\/b.status=.finished):∀ g∈gs,awake g:=by
 intro g hg;obtain⟨i,hi,rfl⟩:=Array.mem_iff_getElem.1 hg;have e:=Array.getElem?_eq_getElem hi;by_cases hi0:i=0
 . subst hi0;rw[h0] at e;rw[<- Option.some.inj e];exact awake_of ha
 . by_cases hic:i=c
   . subst hic;rw[hb] at e;rw[<- Option.some.inj e];exact awake_of hbb
   . exact awake_of ((h.rest i _ hi0 hic e).status.elim .inl fun x=>.inr (.inr x))
end
open Go.Conc Go.RowKit
open Go.ConcN (sumTo upd sumTo_upd upd_ne upd_same)
section
variable {P:Program} {c k cap N:Nat} {W:World} {RO:Nat->Prop} {Fin:(Nat->Prop)->Goroutine->World->Prop} {n:Nat}
inductive BSt(k cap:Nat)(closed:Bool)(buf:Array Value)(b:Goroutine):Prop
 | run (h:b.status=.running)
 | fin (h:b.status=.finished) (hc:closed=true)
 | park (g:Goroutine) (v z:Value) (e:b=parked (core g) #[scase k v z] .send) (hc:closed=false) (hf:cap<=buf.size)
def MS(P:Program)(k:Nat)(RO:Nat->Prop)(Fin:(Nat->Prop)->Goroutine->World->Prop)(closed:Bool)(buf:Array Value)(vs:List Value)(O:Nat->Prop)(a:Goroutine)(w:World):Prop :=
 Co P true RO (CStop P k RO Fin vs) O a w\/∃ g z,a=parked (core g) #[rcase k z] (.recv true)/\closed=false/\buf=#[]/\∀ w1,Kp RO O w w1->CStop P k RO Fin vs O g w1
theorem MS.rely{closed:Bool}{buf:Array Value}{vs:List Value}{O:Nat->Prop}{a:Goroutine}{w w1:World}(h:MS P k RO Fin closed buf vs O a w)(hk:Kp RO O w w1):MS P k RO Fin closed buf vs O a w1:=by
 rcases h with h | ⟨g,z,e,h1,h2,h⟩
 . exact .inl (h.rely hk)
 . exact .inr ⟨g,z,e,h1,h2,fun w2 h2=>h w2 (hk.trans h2)⟩
theorem MS.status{closed:Bool}{buf:Array Value}{vs:List Value}{O:Nat->Prop}{a:Goroutine}{w:World}(h:MS P k RO Fin closed buf vs O a w):a.status=.running\/a.status=.blocked:=by
 rcases h with h | ⟨g,z,rfl,_⟩
 . exact .inl (h.running fun _ _ _ h=>h.running)
 . exact .inr rfl
theorem MS.woken{closed:Bool}{buf buf':Array Value}{vs:List Value}{O:Nat->Prop}{a:Goroutine}{w w':World}{s r:Nat}(h:MS P k RO Fin closed buf vs O a w)(hc:w'.heap[k]?=some (.chan cap buf' closed s r false))(x x':Goroutine):Go.Conc.woken P x x' w' a=a:=by
 rcases h with h | ⟨g,z,rfl,rfl,_⟩
 . exact woken_run (h.running fun _ _ _ h=>h.running)
 . exact woken_recv_open x x' hc
theorem BSt.woken{closed:Bool}{buf buf':Array Value}{b:Goroutine}{w':World}{s r:Nat}(h:BSt k cap closed buf b)(hc:w'.heap[k]?=some (.chan cap buf' closed s r false))(x x':Goroutine):Go.Conc.woken P x x' w' b=b:=by
 cases h with
 | run h=>exact woken_run h
 | fin h _=>exact woken_of_again (again_running _ (.inr h))
 | park g v z e h _=>subst e h; exact woken_send_open x x' hc
theorem BSt.status{closed:Bool}{buf:Array Value}{b:Goroutine}(h:BSt k cap closed buf b):b.status=.running\/b.status=.blocked\/b.status=.finished:=by
 cases h with
 | run h=>exact .inl h
 | fin h _=>exact .inr (.inr h)
 | park g v z e h _=>subst e; exact .inr (.inl rfl)
theorem J.pick{OM OP:Nat->Prop}{vsC vsP:List Value}{buf:Array Value}{closed:Bool}{gs:Array Goroutine}{w:World}{sl:Option (Nat × Nat)}{t:Trace}{q:Nat->Nat}{a b:Goroutine}
 (h:J P c k cap N W RO OM OP vsC buf vsP closed gs w t q) (h0:gs[0]?=some a) (hb:gs[c]?=some b) (hB:BSt k cap closed buf b) (hM:MS P k RO Fin closed buf vsC OM a w) (hr:a.status=.running\/b.status=.running) :
 ∃ d sl',(a.status=.running/\stepT P (crowd gs w sl)=runT P (crowd gs (w.at d) sl') 0)\/(b.status=.running/\stepT P (crowd gs w sl)=runT P (crowd gs (w.at d) sl') c) \/
  ∃ gs' ops q',stepT P (crowd gs w sl)=(.next (crowd gs' (w.at d) sl'),ops)/\J P c k cap N W RO OM OP vsC buf vsP closed gs' (w.at d) (t++ops) q'/\gs'.size=gs.size/\gs'[0]?=some a/\gs'[c]?=some b/\sumTo gs'.size q'<sumTo gs.size q:=by
 have haw:=h.awake h0 hb (hM.status.imp id .inl) hB.status;obtain⟨i,g,d,sl',hi,hg,hst⟩:=crowd_pick (P:=P) (w:=w) (sl:=sl) haw (hr.elim (fun e=>⟨0,a,h0,e⟩) fun e=>⟨c,b,hb,e⟩);refine⟨d,sl',?_⟩;by_cases hi0:i=0
 . subst hi0;rw[h0] at hi;obtain rfl:=Option.some.inj hi;exact .inl ⟨hg,hst⟩
 by_cases hic:i=c
 . subst hic;rw[hb] at hi;obtain rfl:=Option.some.inj hi;exact .inr (.inl ⟨hg,hst⟩)
 obtain⟨s,r,hch⟩:=h.chan;obtain⟨gs',ops,k',e1,e2,e3,e4,e5,e6⟩:=(h.at_ d).slip (sl:=sl') h0 hb (hM.woken (w':=w.at d) hch) (hB.woken (P:=P) (w':=w.at d) hch) hi hi0 hic hg;refine .inr (.inr ⟨gs',ops,upd q i k',hst.trans e2,e3,e4,e5,e6,?_⟩);have hlt:i<gs.size:=(Array.getElem?_eq_some_iff.1 hi).1;have e7:sumTo gs.size (upd q i k')+(k'+1)=sumTo gs.size q+k':=by
  have:=sumTo_upd q k' id hlt;simpa[e1] using this
 rw[e4];omega
structure St(P:Program)(c k cap N:Nat)(W:World)(RO:Nat->Prop)(n:Nat)(OP:Nat->Prop)(vsP:List Value)(closed:Bool)(b:Goroutine)(PB:World->Prop)(OM:Nat->Prop)(vsC:List Value)(buf:Array Value)(gs:Array Goroutine)(w:World)(t:Trace)(q:Nat->Nat)(a:Goroutine):Prop where
 j:J P c k cap N W RO OM OP vsC buf vsP closed gs w t q
 size:gs.size=n
 main:gs[0]?=some a
 prod:gs[c]?=some b
 bst:BSt k cap closed buf b
 pb:PB w
variable {OP:Nat->Prop} {vsP:List Value} {closed:Bool} {b:Goroutine} {PB:World->Prop}
theorem St.at_{OM:Nat->Prop}{vsC:List Value}{buf:Array Value}{gs:Array Goroutine}{w:World}{t:Trace}{q:Nat->Nat}{a:Goroutine}(hPB:∀ w w1,PB w->Kp RO OP w w1->PB w1)(h:St P c k cap N W RO n OP vsP closed b PB OM vsC buf gs w t q a)(d:Nat):St P c k cap N W RO n OP vsP closed b PB OM vsC buf gs (w.at d) t q a :=
 ⟨h.j.at_ d,h.size,h.main,h.prod,h.bst,hPB _ _ h.pb (Kp.at_ w d)⟩
def Em(P:Program)(c k cap N:Nat)(W:World)(RO:Nat->Prop)(Fin:(Nat->Prop)->Goroutine->World->Prop)(n:Nat)(OP:Nat->Prop)(vsP:List Value)(closed:Bool)(b:Goroutine)(PB:World->Prop):Prop :=
 ∀{OM:Nat->Prop} {vsC:List Value} {buf:Array Value} {gs:Array Goroutine} {w:World} {sl:Option (Nat × Nat)} {t:Trace} {q:Nat->Nat} {a:Goroutine},St P c k cap N W RO n OP vsP closed b PB OM vsC buf gs w t q a ->
  MS P k RO Fin closed buf vsC OM a w->b.status=.running->∀ m,stepT P m=runT P (crowd gs w sl) c->Goal P Fin n N W m t
def P4(P:Program)(c k cap N:Nat)(W:World)(RO:Nat->Prop)(Fin:(Nat->Prop)->Goroutine->World->Prop)(n:Nat)(OP:Nat->Prop)(vsP:List Value)(closed:Bool)(b:Goroutine)(PB:World->Prop)(vsC:List Value):Prop :=
 ∀{OM:Nat->Prop} {buf:Array Value} {gs:Array Goroutine} {w:World} {sl:Option (Nat × Nat)} {t:Trace} {q:Nat->Nat} {a:Goroutine},St P c k cap N W RO n OP vsP closed b PB OM vsC buf gs w t q a ->
  (∀ w1,Kp RO OM w w1->CStop P k RO Fin vsC OM a w1)->∀ m,stepT P m=runT P (crowd gs w sl) 0->Goal P Fin n N W m t
theorem Jr(hcap:0<cap)(hPB:∀ w w1,PB w->Kp RO OP w w1->PB w1)(H:Em P c k cap N W RO Fin n OP vsP closed b PB){vsC:List Value}{OM:Nat->Prop}{g:Goroutine}{z:Value} :
 ∀(M:Nat) {buf:Array Value} {gs:Array Goroutine} {w:World} {sl:Option (Nat × Nat)} {t:Trace} {q:Nat->Nat},St P c k cap N W RO n OP vsP closed b PB OM vsC buf gs w t q (parked (core g) #[rcase k z] (.recv true))->closed=false->buf=#[] ->
  (∀ w1,Kp RO OM w w1->CStop P k RO Fin vsC OM g w1)->sumTo gs.size q<=M->Goal P Fin n N W (crowd gs w sl) t:=by
 intro M
 induction M with
 | zero =>
  intro buf gs w sl t q h hc hbuf hg hM;have hms:MS P k RO Fin closed buf vsC OM (parked (core g) #[rcase k z] (.recv true)) w:=.inr ⟨g,z,rfl,hc,hbuf,hg⟩;have hbr:b.status=.running:=by
   cases h.bst with
   | run h=>exact h
   | fin _ h=>rw[hc] at h; cases h
   | park _ _ _ _ _ h=>rw[hbuf] at h; simp at h; omega
  obtain⟨d,sl',h1 | h1 | h1⟩:=h.j.pick (sl:=sl) h.main h.prod h.bst hms (.inr hbr)
  . cases h1.1
  . exact H (h.at_ hPB d) (hms.rely (Kp.at_ w d)) hbr _ h1.2
  . obtain⟨gs',ops,q',_,_,_,_,_,e⟩:=h1;omega
 | succ M ih =>
  intro buf gs w sl t q h hc hbuf hg hM;have hms:MS P k RO Fin closed buf vsC OM (parked (core g) #[rcase k z] (.recv true)) w:=.inr ⟨g,z,rfl,hc,hbuf,hg⟩;have hbr:b.status=.running:=by
   cases h.bst with
   | run h=>exact h
   | fin _ h=>rw[hc] at h; cases h
   | park _ _ _ _ _ h=>rw[hbuf] at h; simp at h; omega
  obtain⟨d,sl',h1 | h1 | h1⟩:=h.j.pick (sl:=sl) h.main h.prod h.bst hms (.inr hbr)
  . cases h1.1
  . exact H (h.at_ hPB d) (hms.rely (Kp.at_ w d)) hbr _ h1.2
  . obtain⟨gs',ops,q',e1,e2,e3,e4,e5,e6⟩:=h1;exact Goal.head e1 (ih ⟨e2,e3.trans h.size,e4,e5,h.bst,hPB _ _ h.pb (Kp.at_ w d)⟩ hc hbuf (fun w1 hk=>hg w1 ((Kp.at_ w d).trans hk)) (by omega))
theorem Nk(hPB:∀ w w1,PB w->Kp RO OP w w1->PB w1)(H:Em P c k cap N W RO Fin n OP vsP closed b PB){vsC:List Value}(HM:P4 P c k cap N W RO Fin n OP vsP closed b PB vsC){OM:Nat->Prop}{a:Goroutine}{w:World}(hco:Co P true RO (CStop P k RO Fin vsC) OM a w) :
 ∀(M:Nat) {buf:Array Value} {gs:Array Goroutine} {w1:World} {sl:Option (Nat × Nat)} {t:Trace} {q:Nat->Nat},Kp RO OM w w1->St P c k cap N W RO n OP vsP closed b PB OM vsC buf gs w1 t q a->sumTo gs.size q<=M->Goal P Fin n N W (crowd gs w1 sl) t:=by
 induction hco with
 | @stop OM a w hstop =>
  have body:∀{buf:Array Value} {gs:Array Goroutine} {w1:World} {sl:Option (Nat × Nat)} {t:Trace} {q:Nat->Nat},Kp RO OM w w1->St P c k cap N W RO n OP vsP closed b PB OM vsC buf gs w1 t q a ->
   (∀{gs':Array Goroutine} {ops:Trace} {q':Nat->Nat} {d:Nat} {sl':Option (Nat × Nat)},St P c k cap N W RO n OP vsP closed b PB OM vsC buf gs' (w1.at d) (t++ops) q' a->sumTo gs'.size q'<sumTo gs.size q->Goal P Fin n N W (crowd gs' (w1.at d) sl') (t++ops))->Goal P Fin n N W (crowd gs w1 sl) t:=by
   intro buf gs w1 sl t q hk h hrec;have hms:MS P k RO Fin closed buf vsC OM a w1:=.inl (.stop fun w2 h2=>hstop w2 (hk.trans h2));have har:a.status=.running:=(hstop w1 hk).running;obtain⟨d,sl',h1 | h1 | h1⟩:=h.j.pick (sl:=sl) h.main h.prod h.bst hms (.inl har)
   . exact HM (h.at_ hPB d) (fun w2 h2=>hstop w2 ((hk.trans (Kp.at_ w1 d)).trans h2)) _ h1.2
   . exact H (h.at_ hPB d) (hms.rely (Kp.at_ w1 d)) h1.1 _ h1.2
   . obtain⟨gs',ops,q',e1,e2,e3,e4,e5,e6⟩:=h1;exact Goal.head e1 (hrec ⟨e2,e3.trans h.size,e4,e5,h.bst,hPB _ _ h.pb (Kp.at_ w1 d)⟩ e6)
  intro M
  induction M with
  | zero=>intro buf gs w1 sl t q hk h hM; exact body hk h fun _ e=>by omega
  | succ M ih=>intro buf gs w1 sl t q hk h hM; exact body hk h fun {gs' ops q' d sl'} h' e=>ih (hk.trans (Kp.at_ w1 d)) h' (by omega)
 | @step OM a w hr ng nw nO es hs hk' ihs =>
  have body:∀{buf:Array Value} {gs:Array Goroutine} {w1:World} {sl:Option (Nat × Nat)} {t:Trace} {q:Nat->Nat},Kp RO OM w w1->St P c k cap N W RO n OP vsP closed b PB OM vsC buf gs w1 t q a ->
   (∀{gs':Array Goroutine} {ops:Trace} {q':Nat->Nat} {d:Nat} {sl':Option (Nat × Nat)},St P c k cap N W RO n OP vsP closed b PB OM vsC buf gs' (w1.at d) (t++ops) q' a->sumTo gs'.size q'<sumTo gs.size q->Goal P Fin n N W (crowd gs' (w1.at d) sl') (t++ops))->Goal P Fin n N W (crowd gs w1 sl) t:=by
   intro buf gs w1 sl t q hk h hrec;have hms:MS P k RO Fin closed buf vsC OM a w1:=.inl (Co.rely (.step hr ng nw nO es hs hk') hk);obtain⟨d,sl',h1 | h1 | h1⟩:=h.j.pick (sl:=sl) h.main h.prod h.bst hms (.inl hr)
   . have hkd:=hk.trans (Kp.at_ w1 d);obtain⟨e1,gu⟩:=hs (w1.at d) hkd;have hrun:=runT_crowd_go (P:=P) (sl:=sl') (i:=0) h.main (show stepG P (0==0) a (w1.at d)=_ from e1);have hj:=(h.j.at_ d).main (a':=ng (w1.at d)) h.main gu a.frame.fn a.frame.place a;have hkp:Kp RO OP (w1.at d) (nw (w1.at d)):=gu.kp (fun j hj=>⟨h.j.ml j (.inr hj),fun x=>h.j.ap.xr j x hj⟩) (fun j hj=>⟨h.j.pl j (.inl hj),fun x=>h.j.ap.xy j x hj⟩);obtain⟨s,r,hch⟩:=hj.chan
     refine Goal.head (h1.2.trans hrun) (ihs (w1.at d) hkd _ (Kp.refl _) ⟨hj,(Bq _ _ _).trans h.size,?_,CO _ (by have:=h.j.c0; omega) h.prod (h.bst.woken hch _ _),h.bst,hPB _ _ (hPB _ _ h.pb (Kp.at_ w1 d)) hkp⟩ (Nat.le_refl _));rw[Array.getElem?_setIfInBounds_self_of_lt (by rw[Array.size_map]; exact Nat.lt_of_le_of_lt (Nat.zero_le _) h.j.clt)]
   . exact H (h.at_ hPB d) (hms.rely (Kp.at_ w1 d)) h1.1 _ h1.2
   . obtain⟨gs',ops,q',e1,e2,e3,e4,e5,e6⟩:=h1;exact Goal.head e1 (hrec ⟨e2,e3.trans h.size,e4,e5,h.bst,hPB _ _ h.pb (Kp.at_ w1 d)⟩ e6)
  intro M
  induction M with
  | zero=>intro buf gs w1 sl t q hk h hM; exact body hk h fun _ e=>by omega
  | succ M ih=>intro buf gs w1 sl t q hk h hM; exact body hk h fun {gs' ops q' d sl'} h' e=>ih (hk.trans (Kp.at_ w1 d)) h' (by omega)
end
end Go.Proofs.YtaemcekcancpdaaGreatDoor.Ren
