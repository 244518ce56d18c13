import Derived.Test.YtgbiagonfbnooaaDoorZInS
set_option linter.all false
set_option maxRecDepth 100000
set_option maxHeartbeats 8000000
namespace Go.Proofs.YtgbiagonfbnooaaDoor
namespace M
structure Pt where
 c:Int
 m:Int
def pz:Pt:=⟨0,0⟩
def AU:List Int->List Pt
 | []=>[]
 | c::cs=>match AU cs with
  | []=>[⟨c,1⟩]
  | p::ps=>if p.c=c then ⟨c,p.m+1⟩::ps else ⟨c,1⟩::p::ps
def Cl:List Pt->List Int
 | []=>[]
 | p::ps=>List.replicate p.m.toNat p.c++Cl ps
def Ee:List Pt->Bool
 | []=>true
 | [p]=>decide (1<=p.m)
 | p::q::ps=>decide (1<=p.m)&&decide (p.c≠q.c)&&Ee (q::ps)
theorem I0{c:Int}{cs:List Int}:∃ m ps,AU (c::cs)=⟨c,m⟩::ps:=by
 simp only[AU];split
 . exact⟨_,_,rfl⟩
 . split
   . exact⟨_,_,rfl⟩
   . exact⟨_,_,rfl⟩
theorem CG{p:Pt}{ps:List Pt}(h:Ee (p::ps)=true):Ee ps=true:=by
 cases ps with
 | nil=>rfl
 | cons q ps=>simp only[Ee,Bool.and_eq_true] at h; exact h.2
theorem Bh{p:Pt}{ps:List Pt}(h:Ee (p::ps)=true):1<=p.m:=by
 cases ps with
 | nil=>simpa[Ee] using h
 | cons q ps=>simp only[Ee,Bool.and_eq_true,decide_eq_true_eq] at h; exact h.1.1
theorem DT:∀ cs,Ee (AU cs)=true
 | []=>rfl
 | c::cs=>by
  have ih:=DT cs;simp only[AU];split
  . rfl
  . next p ps e =>
    rw[e] at ih;split
    . next h =>
      cases ps with
      | nil=>have:=Bh ih; simp[Ee]; omega
      | cons q ps =>
       simp only[Ee,Bool.and_eq_true,decide_eq_true_eq] at ih ⊢;exact⟨⟨by omega,by rw[<- h]; exact ih.1.2⟩,ih.2⟩
    . next h =>
      have e1:∀ q:List Pt,Ee (⟨c,1⟩::p::q)=(decide ((1:Int)<=1)&&decide (c≠p.c)&&Ee (p::q)):=fun q=>rfl;rw[e1,ih];simp[Ne.symm h]
theorem Ca:∀ cs,Cl (AU cs)=cs
 | []=>rfl
 | c::cs=>by
  have ih:=Ca cs;have ok:=DT cs;simp only[AU];split
  . next e=>rw[e] at ih; simp only[Cl] at ih ⊢; subst ih; rfl
  . next p ps e =>
    rw[e] at ih ok;have h1:=Bh ok;split
    . next h =>
      simp only[Cl] at ih ⊢;rw[show(p.m+1).toNat=p.m.toNat+1 by omega,List.replicate_succ,List.cons_append,<- h,ih]
    . simp only[Cl] at ih ⊢;rw[ih]; rfl
theorem GO(c:Int)(cs:List Int)(h:∀ x∈cs.head?,x≠c):∀ n:Nat,AU (List.replicate (n+1) c++cs)=⟨c,n+1⟩::AU cs
 | 0=>by
  simp only[List.replicate,List.cons_append,List.nil_append,AU];cases cs with
  | nil=>rfl
  | cons d ds =>
   obtain⟨m,ps,e⟩:=I0 (c:=d) (cs:=ds);rw[e];dsimp only;rw[if_neg (h d (by simp))];rfl
 | n+1=>by
  rw[List.replicate_succ,List.cons_append,AU,GO c cs h n];simp only[if_true];congr 1
theorem I5{p:Pt}{ps:List Pt}(h:1<=p.m):(Cl (p::ps)).head?=some p.c:=by
 obtain⟨k,hk⟩:∃ k,p.m.toNat=k+1:=⟨p.m.toNat-1,by omega⟩;simp[Cl,hk,List.replicate_succ]
theorem GP:∀ ps,Ee ps=true->AU (Cl ps)=ps
 | [],_=>rfl
 | p::ps,h=>by
  have h1:=Bh h;have ih:=GP ps (CG h);obtain⟨k,hk⟩:∃ k,p.m.toNat=k+1:=⟨p.m.toNat-1,by omega⟩;simp only[Cl];rw[hk,GO p.c (Cl ps) ?_ k,ih]
  . obtain⟨c,m⟩:=p;dsimp only at *;congr 2;omega
  . intro x hx;cases ps with
    | nil=>simp[Cl] at hx
    | cons q ps =>
     simp only[Ee,Bool.and_eq_true,decide_eq_true_eq] at h;rw[I5 (Bh h.2)] at hx;simp at hx;rw[<- hx];exact Ne.symm h.1.2
theorem FE:∀(cs:List Int) (c:Int),AU (cs++[c])=(match (AU cs).getLast? with
 | some p=>if p.c=c then (AU cs).dropLast++[⟨c,p.m+1⟩] else AU cs++[⟨c,1⟩]
 | none=>[⟨c,1⟩])
 | [],c=>rfl
 | d::cs,c=>by
  have ih:=FE cs c;cases cs with
  | nil =>
   simp only[List.nil_append,List.cons_append,AU,List.getLast?_singleton];by_cases h:c=d
   . subst h; simp
   . simp[h,Ne.symm h]
  | cons e cs =>
   obtain⟨m,ps,he⟩:=I0 (c:=e) (cs:=cs);have e1:AU (d::(e::cs))=if e=d then ⟨d,m+1⟩::ps else ⟨d,1⟩::⟨e,m⟩::ps:=by
    rw[AU,he]
   rw[List.cons_append,AU,ih,he,e1];rw[he] at ih;cases hp:ps with
   | nil =>
    simp only[List.getLast?_singleton];by_cases h:e=c
    . subst h;by_cases h2:e=d
      . subst h2; simp
      . simp[h2]
    . by_cases h2:e=d
      . subst h2; simp[h]
      . simp[h,h2]
   | cons q qs =>
    obtain⟨z,hz⟩:∃ z,(q::qs).getLast?=some z:=⟨_,List.getLast?_eq_some_getLast (by simp)⟩;have a1:(⟨e,m⟩::q::qs:List Pt).getLast?=some z:=by rw[List.getLast?_cons_cons,hz]
    have a2:(⟨d,m+1⟩::q::qs:List Pt).getLast?=some z:=by rw[List.getLast?_cons_cons,hz]
    have a3:(⟨d,1⟩::⟨e,m⟩::q::qs:List Pt).getLast?=some z:=by rw[List.getLast?_cons_cons,a1]
    by_cases h:z.c=c
    . by_cases h2:e=d
      . simp[a2,hz,h,h2]
      . simp[a3,hz,h,h2]
    . by_cases h2:e=d
      . simp[a2,hz,h,h2]
      . simp[a3,hz,h,h2]
def Ls:List Pt->Nat->Option Int->Option (List Int)
 | [],_,_=>some []
 | p::ps,n,b=>if decide (0<=p.c/\p.c<=9)&&decide (1<=p.m)&&decide (p.m<=60-n)&&decide (b≠some p.c) then (Ls ps (n+p.m.toNat) (some p.c)).map (List.replicate p.m.toNat p.c++·) else none
def Hs(ps:List Pt):Prop:=Ee ps=true/\(∀ c∈Cl ps,0<=c/\c<=9)/\(Cl ps).length<=60
theorem DU:∀(ps:List Pt) (n:Nat) (b:Option Int) (x:List Int),Ls ps n b=some x↔(x=Cl ps/\Ee ps=true/\(∀ c∈Cl ps,0<=c/\c<=9)/\(n<=60->n+(Cl ps).length<=60)/\(60<n->ps=[])/\∀ p∈ps.head?,b≠some p.c)
 | [],n,b,x=>by
  simp[Ls,Cl,Ee,eq_comm]
 | p::ps,n,b,x=>by
  rw[Ls];constructor
  . intro h;split at h
    . next hc =>
      simp only[Bool.and_eq_true,decide_eq_true_eq] at hc;obtain⟨⟨⟨⟨h1,h2⟩,h3⟩,h4⟩,h5⟩:=hc;obtain⟨y,hy,rfl⟩:=Option.map_eq_some_iff.1 h;obtain⟨rfl,g1,g2,g3,g4,g5⟩:=(DU ps _ _ y).1 hy;refine⟨rfl,?_,?_,?_,?_,?_⟩
      . cases ps with
        | nil=>simp[Ee,h3]
        | cons q qs =>
         have:=g5 q (by simp);simp only[Ee,Bool.and_eq_true,decide_eq_true_eq];exact⟨⟨h3,fun e=>this (by rw[e])⟩,g1⟩
      . intro c hm;simp only[Cl,List.mem_append,List.mem_replicate] at hm;rcases hm with⟨_,rfl⟩ | hm
        . exact⟨h1,h2⟩
        . exact g2 c hm
      . intro hn;simp only[Cl,List.length_append,List.length_replicate];have:=g3 (by omega);omega
      . intro hn; omega
      . intro q hq;simp at hq;rw[<- hq]; exact h5
    . cases h
  . rintro⟨rfl,g1,g2,g3,g4,g5⟩;have hm:=Bh g1;have hn:n<=60:=by
     apply Nat.le_of_not_lt;intro h;cases g4 h
    have g3:=g3 hn;simp only[Cl,List.length_append,List.length_replicate] at g3;have hcc:=g2 p.c (by simp only[Cl,List.mem_append,List.mem_replicate]; exact .inl ⟨by omega,trivial⟩);rw[if_pos (by
     simp only[Bool.and_eq_true,decide_eq_true_eq];exact⟨⟨⟨⟨hcc.1,hcc.2⟩,hm⟩,by omega⟩,g5 p (by simp)⟩)]
    rw[Option.map_eq_some_iff];refine⟨Cl ps,(DU ps _ _ _).2 ⟨rfl,CG g1,fun c hc=>g2 c (by simp only[Cl,List.mem_append]; exact .inr hc),fun _=>by omega,fun h=>by omega,?_⟩,rfl⟩;intro q hq;cases ps with
    | nil=>simp at hq
    | cons r rs =>
     simp at hq;subst hq;simp only[Ee,Bool.and_eq_true,decide_eq_true_eq] at g1;intro e;exact g1.1.2 (by simpa using e)
theorem I9{ps:List Pt}{x:List Int}:Ls ps 0 none=some x↔x=Cl ps/\Hs ps:=by
 rw[DU];unfold Hs;constructor
 . rintro⟨a,b,c,d,_,_⟩;have:=d (by omega);exact⟨a,b,c,by omega⟩
 . rintro⟨a,b,c,d⟩;exact⟨a,b,c,fun _=>by omega,fun h=>by omega,fun _ _=>by simp⟩
abbrev Tx:=List UInt8
def dec(n:Nat):Tx:=if n<10 then [UInt8.ofNat (48+n)] else dec (n / 10)++[UInt8.ofNat (48+n % 10)]
termination_by n
def cut(a:UInt8):Tx->List Tx
 | []=>[[]]
 | b::s=>if b=a then []::cut a s else (b::(cut a s).headD [])::(cut a s).tail
theorem Lk(a:UInt8):∀ s,cut a s≠[]
 | []=>by simp[cut]
 | b::s=>by simp only[cut]; split<;>simp
theorem CH(a:UInt8)(s:Tx):cut a s=(cut a s).headD []::(cut a s).tail:=by
 have:=Lk a s;cases h:cut a s with
 | nil=>exact absurd h this
 | cons w ws=>rfl
theorem FF(a b:UInt8):∀ s,cut a (s++[b])=if b=a then cut a s++[[]] else (cut a s).dropLast++[(cut a s).getLastD []++[b]]
 | []=>by
  by_cases h:b=a<;>simp[cut,h]
 | c::s=>by
  have ih:=FF a b s;have ne:=CH a s;have ne2:=CH a (s++[b]);by_cases h:b=a
  . rw[if_pos h] at ih ⊢;by_cases h2:c=a
    . simp[cut,h2,ih]
    . simp only[List.cons_append,cut,if_neg h2,ih];rw[ne];simp
  . rw[if_neg h] at ih ⊢;by_cases h2:c=a
    . simp only[List.cons_append,cut,if_pos h2,ih];rw[ne];simp
    . simp only[List.cons_append,cut,if_neg h2,ih];generalize cut a s=ws at ne;cases ws with
      | nil=>cases ne
      | cons w ws =>
       cases ws with
       | nil=>simp
       | cons v vs=>simp
theorem FG{a:UInt8}:∀{s:Tx},a∉s->cut a s=[s]
 | [],_=>rfl
 | b::s,h=>by
  simp only[List.mem_cons,not_or] at h;rw[cut,if_neg (Ne.symm h.1),FG h.2];rfl
theorem Cb{a:UInt8}:∀{s:Tx} (t:Tx),a∉s->cut a (s++a::t)=s::cut a t
 | [],t,_=>by simp[cut]
 | b::s,t,h=>by
  simp only[List.mem_cons,not_or] at h;rw[List.cons_append,cut,if_neg (Ne.symm h.1),Cb t h.2];rfl
def Da(a:UInt8):List Tx->Tx
 | []=>[]
 | [w]=>w
 | w::v::ws=>w++a::Da a (v::ws)
theorem DV(a:UInt8):∀ s,Da a (cut a s)=s
 | []=>rfl
 | b::s=>by
  have ih:=DV a s;have ne:=CH a s;by_cases h:b=a
  . rw[cut,if_pos h,ne,Da,<- ne,ih,h]; rfl
  . rw[cut,if_neg h];generalize cut a s=ws at *;cases ws with
    | nil=>cases ne
    | cons w ws =>
     cases ws with
     | nil=>simp only[Da,List.headD,List.tail] at ih ⊢; rw[ih]
     | cons v vs=>simp only[Da,List.headD,List.tail,List.cons_append] at ih ⊢; rw[ih]
theorem GQ(a:UInt8):∀ s,(cut a s).length=s.count a+1
 | []=>rfl
 | b::s=>by
  have ih:=GQ a s;by_cases h:b=a
  . rw[cut,if_pos h,List.length_cons,ih,h,List.count_cons_self]
  . rw[cut,if_neg h,List.length_cons,List.length_tail,ih,List.count_cons_of_ne h];rfl
def DW(b:UInt8):Bool:=decide (48<=b.toNat)&&decide (b.toNat<=57)
def Ja(n:Nat)(b:UInt8):Nat:=10*n+(b.toNat-48)
def Cj(w:Tx):Nat:=w.foldl Ja 0
def num(w:Tx):Int:=if (decide (1<=w.length)&&decide (w.length<=7)&&!(decide (1<w.length)&&decide (w.headD 0=48))&&w.all DW) then Cj w else -1
theorem FH(w:Tx)(b:UInt8):Cj (w++[b])=10*Cj w+(b.toNat-48):=by simp[Cj,Ja]
theorem DX{k:Nat}(h:k<10):(UInt8.ofNat (48+k)).toNat=48+k:=by simp[UInt8.toNat_ofNat']; omega
theorem AY{n:Nat}(h:n<10):dec n=[UInt8.ofNat (48+n)]:=by rw[dec,if_pos h]
theorem BG{n:Nat}(h:¬ n<10):dec n=dec (n / 10)++[UInt8.ofNat (48+n % 10)]:=by rw[dec,if_neg h]
theorem Jb(n:Nat):dec n≠[]:=by
 rw[dec]; split<;>simp
theorem GR(n:Nat):(dec n).all DW=true:=by
 induction n using Nat.strongRecOn with
 | ind n ih =>
  by_cases h:n<10
  . rw[AY h];simp only[List.all_cons,List.all_nil,Bool.and_true,DW,DX h];simp; omega
  . rw[BG h,List.all_append,ih (n / 10) (by omega)];simp only[List.all_cons,List.all_nil,Bool.and_true,DW,DX (show n % 10<10 by omega)];simp; omega
theorem Kh(n:Nat):Cj (dec n)=n:=by
 induction n using Nat.strongRecOn with
 | ind n ih =>
  by_cases h:n<10
  . rw[AY h];simp only[Cj,Ja,List.foldl_cons,List.foldl_nil,DX h]; omega
  . rw[BG h,FH,ih (n / 10) (by omega),DX (show n % 10<10 by omega)]; omega
theorem FI{w:Tx}(h:w≠[])(v:Tx):(w++v).headD 0=w.headD 0:=by
 cases w with
 | nil=>exact absurd rfl h
 | cons x w=>rfl
theorem Jc(n:Nat)(h:1<=n):(dec n).headD 0≠48:=by
 induction n using Nat.strongRecOn with
 | ind n ih =>
  by_cases h2:n<10
  . rw[AY h2];intro e;have:(UInt8.ofNat (48+n)).toNat=(48:UInt8).toNat:=congrArg UInt8.toNat e;rw[DX h2] at this;have:(48:UInt8).toNat=48:=rfl;omega
  . rw[BG h2,FI (Jb _)];exact ih (n / 10) (by omega) (by omega)
theorem Dn(n:Nat):∀ k,n<10 ^ (k+1)->(dec n).length<=k+1:=by
 induction n using Nat.strongRecOn with
 | ind n ih =>
  intro k hk;by_cases h:n<10
  . rw[AY h]; simp
  . rw[BG h,List.length_append];cases k with
    | zero=>omega
    | succ k =>
     have:=ih (n / 10) (by omega) k (by
      apply Nat.div_lt_of_lt_mul;rw[Nat.pow_succ] at hk;omega)
     simp only[List.length_cons,List.length_nil];omega
theorem Jd(n:Nat):∀ k,10 ^ k<=n->k+1<=(dec n).length:=by
 induction n using Nat.strongRecOn with
 | ind n ih =>
  intro k hk;by_cases h:n<10
  . cases k with
    | zero=>rw[AY h]; simp
    | succ k=>rw[Nat.pow_succ] at hk; have:1<=10 ^ k:=Nat.one_le_pow _ _ (by omega); omega
  . rw[BG h,List.length_append];cases k with
    | zero=>simp
    | succ k =>
     have:=ih (n / 10) (by omega) k (by
      rw[Nat.pow_succ] at hk;exact(Nat.le_div_iff_mul_le (by omega)).2 hk)
     simp only[List.length_cons,List.length_nil];omega
theorem GT{n:Nat}(h:n<=9999999):num (dec n)=n:=by
 have h1:=Dn n 6 (by omega);have h2:1<=(dec n).length:=by have:=Jb n; cases e:dec n with | nil=>exact absurd e this | cons=>simp
 unfold num;rw[if_pos,Kh];simp only[Bool.and_eq_true,decide_eq_true_eq,Bool.not_eq_true',GR,and_true];refine⟨⟨h2,h1⟩,?_⟩;by_cases h0:n<10
 . rw[AY h0]; rfl
 . have hd:=Jc n (by omega);rw[Bool.and_eq_false_iff];exact .inr (decide_eq_false hd)
theorem GU{b:UInt8}(h:DW b=true):UInt8.ofNat (48+(b.toNat-48))=b/\b.toNat-48<10:=by
 simp only[DW,Bool.and_eq_true,decide_eq_true_eq] at h;refine⟨?_,by omega⟩;rw[show 48+(b.toNat-48)=b.toNat by omega];exact UInt8.ofNat_toNat
theorem Je:∀(k:Nat) (w:Tx),w.length=k+1->w.all DW=true->(1<w.length->w.headD 0≠48)->dec (Cj w)=w/\(10 ^ k<=Cj w\/k=0)
 | 0,w,hl,ha,_=>by
  obtain⟨b,rfl⟩:∃ b,w=[b]:=by
   match w,hl with
   | [b],_=>exact⟨b,rfl⟩
  simp only[List.all_cons,List.all_nil,Bool.and_true] at ha;have:=GU ha;simp only[Cj,Ja,List.foldl_cons,List.foldl_nil,Nat.mul_zero,Nat.zero_add,or_true,and_true];rw[AY this.2,this.1]
 | k+1,w,hl,ha,hh=>by
  obtain⟨v,b,rfl⟩:∃ v b,w=v++[b]:=⟨w.dropLast,w.getLast (by intro e; rw[e] at hl; simp at hl),(List.dropLast_concat_getLast _).symm⟩;have hv:v.length=k+1:=by simpa using hl
  rw[List.all_append,Bool.and_eq_true] at ha;have hvn:v≠[]:=by intro e; rw[e] at hv; simp at hv
  have hb:DW b=true:=by simpa using ha.2
  have h0:=GU hb;have hh1:v.headD 0≠48:=by
   have:=hh (by simp; omega)
   rwa [FI hvn] at this
  obtain⟨i1,i2⟩:=Je k v hv ha.1 fun _=>hh1;have pos:10 ^ k<=Cj v:=by
   rcases i2 with h | rfl
   . exact h
   . obtain⟨c,rfl⟩:∃ c,v=[c]:=by
      match v,hv with
      | [c],_=>exact⟨c,rfl⟩
     have hc:DW c=true:=by simpa using ha.1
     simp only[DW,Bool.and_eq_true,decide_eq_true_eq] at hc;simp only[List.headD_cons] at hh1;have:c.toNat≠48:=fun e=>hh1 (by apply UInt8.toNat_inj.1; exact e);simp only[Cj,Ja,List.foldl_cons,List.foldl_nil];omega
  have p1:1<=10 ^ k:=Nat.one_le_pow _ _ (by omega);rw[FH];refine⟨?_,.inl (by rw[Nat.pow_succ]; omega)⟩;rw[BG (by omega),show(10*Cj v+(b.toNat-48)) / 10=Cj v by omega,show(10*Cj v+(b.toNat-48)) % 10=b.toNat-48 by omega,i1,h0.1]
theorem Jg{w:Tx}{n:Int}(h:num w=n)(h0:0<=n):w=dec n.toNat/\n<=9999999:=by
 unfold num at h;split at h
 . next hc =>
   simp only[Bool.and_eq_true,decide_eq_true_eq,Bool.not_eq_true',Bool.and_eq_false_iff,decide_eq_false_iff_not] at hc;obtain⟨⟨⟨h1,h2⟩,h3⟩,h4⟩:=hc;obtain⟨k,hk⟩:∃ k,w.length=k+1:=⟨w.length-1,by omega⟩;obtain⟨d1,_⟩:=Je k w hk h4 fun hlt=>h3.resolve_left (fun x=>x hlt);subst h;rw[Int.toNat_natCast];refine⟨d1.symm,?_⟩;have:¬ 10 ^ 7<=Cj w:=fun hle=>by
    have:=Jd (Cj w) 7 hle;rw[d1] at this;omega
   omega
 . omega
theorem Ht(w:Tx):-1<=num w/\num w<=9999999:=by
 by_cases h:0<=num w
 . exact⟨by omega,(Jg rfl h).2⟩
 . unfold num at *;split at h
   . omega
   . rw[if_neg (by assumption)]; omega
theorem Ki:num []=-1:=rfl
theorem FJ{n:Nat}{a:UInt8}(h:DW a=false):a∉dec n:=fun hm=>by
 have:=List.all_eq_true.1 (GR n) a hm;rw[h] at this;cases this
def nums(l:List Int):Tx:=l.flatMap fun n=>32::dec n.toNat
def Bp(s w:Tx):Option (List Int):=if (decide ((cut 32 s).headD []=w)&&(cut 32 s).tail.all fun v=>decide (0<=num v)) then some ((cut 32 s).tail.map num) else none
def JG(l:List Int):Prop:=∀ n∈l,0<=n/\n<=9999999
theorem FK:∀(l:List Int) (w:Tx),(32:UInt8)∉w->cut 32 (w++nums l)=w::l.map fun n=>dec n.toNat
 | [],w,h=>by simp[nums,FG h]
 | n::l,w,h=>by
  have ih:=FK l (dec n.toNat) (FJ (by rfl));have e:nums (n::l)=32::(dec n.toNat++nums l):=by simp[nums]
  rw[e,Cb _ h,ih];rfl
theorem Cc{l:List Int}{w:Tx}(h:(32:UInt8)∉w)(hl:JG l):Bp (w++nums l) w=some l:=by
 unfold Bp;rw[FK l w h];have hm:(l.map fun n=>dec n.toNat).map num=l:=by
  rw[List.map_map]
  conv=>rhs; rw[<- List.map_id l]
  apply List.map_congr_left;intro n hn;obtain⟨a,b⟩:=hl n hn;simp only[Function.comp,id];rw[GT (by omega)];omega
 rw[if_pos]
 . simp only[List.tail_cons]; rw[hm]
 . simp only[List.headD_cons,List.tail_cons,decide_true,Bool.true_and,List.all_map,List.all_eq_true,Function.comp,decide_eq_true_eq];intro n hn;obtain⟨a,b⟩:=hl n hn;rw[GT (by omega)];omega
theorem EB:∀(ws:List Tx) (w:Tx),Da 32 (w::ws)=w++ws.flatMap (32::·)
 | [],w=>by simp[Da]
 | v::ws,w=>by rw[Da,EB ws v]; simp
theorem Do{s w:Tx}{l:List Int}(h:Bp s w=some l):s=w++nums l/\JG l:=by
 unfold Bp at h;split at h
 . next hc =>
   simp only[Bool.and_eq_true,decide_eq_true_eq,List.all_eq_true] at hc;obtain⟨h1,h2⟩:=hc;obtain rfl:=Option.some.inj h;have e:=DV 32 s;rw[CH,h1,EB] at e;constructor
   . have g:∀ vs:List Tx,(∀ v∈vs,0<=num v)->vs.flatMap (32::·)=nums (vs.map num):=by
      intro vs
      induction vs with
      | nil=>intro _; rfl
      | cons v vs ih =>
       intro hv;have e1:=(Jg rfl (hv v (by simp))).1;have e2:=ih fun u hu=>hv u (List.mem_cons_of_mem _ hu);simp only[List.flatMap_cons,List.map_cons,nums] at e2 ⊢;rw[<- e1,e2]
     rw[g _ h2] at e;exact e.symm
   . intro n hn;obtain⟨v,hv,rfl⟩:=List.mem_map.1 hn;exact⟨h2 v hv,(Ht v).2⟩
 . cases h
theorem Lm(s w:Tx):Bp (s++[32]) w=none:=by
 unfold Bp;rw[FF,if_pos rfl,if_neg];intro h;simp only[Bool.and_eq_true,List.all_eq_true,decide_eq_true_eq] at h;have ne:=CH 32 s;have:=h.2 [] (by rw[ne]; simp);rw[Ki] at this;omega
def HG(c:Int):In:=⟨Hk c,Hl c,JF c⟩
def Hu(q:In):Int:=HF q.s q.p q.z
theorem KJ{c:Int}(h:0<=c/\c<=9):Hu (HG c)=c/\A5 (HG c).s (HG c).p (HG c).z=true:=by
 by_cases h9:c=9
 . subst h9; exact⟨rfl,rfl⟩
 . have hb:Ax c 0 8=true:=by simp[Ax]; omega
   have e:HG c=⟨c % 3-1,c / 3,false⟩:=by simp[HG,Hk,Hl,JF,hb,h9]
   rw[e];simp only[Hu,HF,A5,Ax];refine⟨by simp; omega,?_⟩;simp;omega
theorem Jh{q:In}(h:A5 q.s q.p q.z=true):HG (Hu q)=q/\0<=Hu q/\Hu q<=9:=by
 obtain⟨s,p,z⟩:=q;obtain⟨h1,h2,h3⟩:=Cy h;dsimp only at h1 h2 h3;cases z
 . have hb:Ax (3*p+s+1) 0 8=true:=by simp[Ax]; omega
   simp only[Hu,HF,HG,Hk,Hl,JF,hb,Bool.false_eq_true,if_false,if_true];refine⟨?_,by omega,by omega⟩;simp only[In.mk.injEq,decide_eq_false_iff_not];omega
 . obtain⟨rfl,rfl⟩:=h3 rfl;exact⟨rfl,by decide,by decide⟩
structure Rep where
 l:Int
 p:Int
 s:Int
 xs:List In
 hs:List Int
 t:Int
def rz:Rep:=⟨0,0,0,[],[],0⟩
def CV(xs:List In):Bool:=(xs.all fun q=>A5 q.s q.p q.z)&&decide (xs.length<=60)
def CW(n:Int):Bool:=Ax n 0 1000002
def BC(r:Rep):Bool:=r.hs.all CW&&(Ax r.l 0 99&&Ax r.p 0 9&&Ax r.s 0 60&&CV r.xs&&decide (r.hs.length=r.xs.length / 5)&&CW r.t)
def An(xs:List In):List Int:=xs.map Hu
theorem FL{xs:List In}(h:(xs.all fun q=>A5 q.s q.p q.z)=true):(An xs).map HG=xs/\∀ c∈An xs,0<=c/\c<=9:=by
 rw[List.all_eq_true] at h;refine⟨?_,fun c hc=>?_⟩
 . rw[An,List.map_map]
   conv=>rhs; rw[<- List.map_id xs]
   exact List.map_congr_left fun q hq=>(Jh (h q hq)).1
 . obtain⟨q,hq,rfl⟩:=List.mem_map.1 hc;exact(Jh (h q hq)).2
theorem Ji{cs:List Int}(h:∀ c∈cs,0<=c/\c<=9):An (cs.map HG)=cs/\((cs.map HG).all fun q=>A5 q.s q.p q.z)=true:=by
 refine⟨?_,?_⟩
 . rw[An,List.map_map]
   conv=>rhs; rw[<- List.map_id cs]
   exact List.map_congr_left fun c hc=>(KJ (h c hc)).1
 . rw[List.all_eq_true];intro q hq;obtain⟨c,hc,rfl⟩:=List.mem_map.1 hq;exact(KJ (h c hc)).2
def DY(xs:List In):List Pt:=if CV xs then AU (An xs) else []
def CI(ps:List Pt):Option (List In):=(Ls ps 0 none).map (·.map HG)
theorem AO{xs:List In}:CV xs=true↔(xs.all fun q=>A5 q.s q.p q.z)=true/\xs.length<=60:=by
 unfold CV; rw[Bool.and_eq_true,decide_eq_true_eq]
theorem Bm{xs:List In}(h:CV xs=true):Hs (AU (An xs)):=by
 obtain⟨h1,h2⟩:=AO.1 h;refine⟨DT _,?_,?_⟩
 . rw[Ca]; exact(FL h1).2
 . rw[Ca,An,List.length_map]; exact h2
theorem E3{xs:List In}(h:CV xs=true):CI (AU (An xs))=some xs:=by
 unfold CI;rw[I9.2 ⟨rfl,Bm h⟩,Option.map_some,Ca,(FL (AO.1 h).1).1]
theorem E4{ps:List Pt}{xs:List In}(h:CI ps=some xs):CV xs=true/\AU (An xs)=ps/\Hs ps:=by
 unfold CI at h;obtain⟨cs,h1,rfl⟩:=Option.map_eq_some_iff.1 h;obtain⟨rfl,f⟩:=I9.1 h1;obtain⟨c1,c2⟩:=Ji f.2.1;exact⟨AO.2 ⟨c2,by rw[List.length_map]; exact f.2.2⟩,by rw[c1,GP _ f.1],f⟩
def Ar(ps:List Pt):List Int:=ps.flatMap fun p=>[p.c,p.m]
def Hv:List Int->List Pt
 | c::m::l=>⟨c,m⟩::Hv l
 | _=>[]
theorem EC:∀ ps,Hv (Ar ps)=ps
 | []=>rfl
 | p::ps=>by
  have ih:=EC ps;unfold Ar at ih ⊢;rw[List.flatMap_cons,List.cons_append,List.cons_append,List.nil_append,Hv,ih]
theorem EF:∀ l:List Int,l.length % 2=0->Ar (Hv l)=l
 | [],_=>rfl
 | [c],h=>by simp at h
 | c::m::l,h=>by
  have ih:=EF l (by simp only[List.length_cons] at h; omega);unfold Ar at ih ⊢;rw[Hv,List.flatMap_cons,ih]; rfl
theorem Bj(ps:List Pt):(Ar ps).length=2*ps.length:=by
 induction ps with
 | nil=>rfl
 | cons p ps ih=>unfold Ar at ih ⊢; rw[List.flatMap_cons,List.length_append,ih]; simp; omega
def kR:Tx:=[114,101,112,108,97,121]
def kI:Tx:=[105,110,112,117,116,115]
def kH:Tx:=[104,97,115,104,101,115]
def kT:Tx:=[116,97,103]
def Jj(r:Rep):Tx:=kR++nums [r.l,r.p,r.s]
def Kj(r:Rep):Tx:=kI++nums (Ar (AU (An r.xs)))
def Kk(r:Rep):Tx:=kH++nums r.hs
def Kl(r:Rep):Tx:=kT++nums [r.t]
def Db(r:Rep):Tx:=Jj r++10::(Kj r++10::(Kk r++10::(Kl r++10::[])))
def LY(a b c d:Tx):Option Rep :=
 match Bp a kR,Bp b kI,Bp c kH,Bp d kT with
 | some h,some l,some hs,some t=>if decide (h.length=3)&&decide (l.length % 2=0)&&decide (t.length=1) then
  match CI (Hv l) with
  | some xs=>if BC ⟨h.getD 0 0,h.getD 1 0,h.getD 2 0,xs,hs,t.getD 0 0⟩ then some ⟨h.getD 0 0,h.getD 1 0,h.getD 2 0,xs,hs,t.getD 0 0⟩ else none
  | none=>none
  else none
 | _,_,_,_=>none
def LZ:List Tx->Option Rep
 | [a,b,c,d,e]=>if e=[] then LY a b c d else none
 | _=>none
def LK(s:Tx):Option Rep:=LZ (cut 10 s)
theorem Hw(l:List Int):(10:UInt8)∉nums l:=fun h=>by
 obtain⟨n,_,hn⟩:=List.mem_flatMap.1 h;rcases List.mem_cons.1 hn with h | h
 . cases h
 . exact FJ (by rfl) h
theorem Cd{w:Tx}{l:List Int}(h:(10:UInt8)∉w):(10:UInt8)∉w++nums l:=fun x=>(List.mem_append.1 x).elim h (Hw l)
theorem GV(r:Rep):cut 10 (Db r)=[Jj r,Kj r,Kk r,Kl r,[]]:=by
 unfold Db;rw[Cb (s:=Jj r) _ (Cd (by decide)),Cb (s:=Kj r) _ (Cd (by decide)),Cb (s:=Kk r) _ (Cd (by decide)),Cb (s:=Kl r) _ (Cd (by decide))];rfl
theorem CX{r:Rep}(h:BC r=true):(∀ n∈r.hs,0<=n/\n<=1000002)/\(0<=r.l/\r.l<=99)/\(0<=r.p/\r.p<=9)/\(0<=r.s/\r.s<=60)/\CV r.xs=true/\r.hs.length=r.xs.length / 5/\(0<=r.t/\r.t<=1000002):=by
 simp only[BC,CW,Ax,Bool.and_eq_true,decide_eq_true_eq,List.all_eq_true] at h;obtain⟨h1,⟨⟨⟨⟨h2,h3⟩,h4⟩,h5⟩,h6⟩,h7⟩:=h;exact⟨h1,h2,h3,h4,h5,h6,h7⟩
theorem FM{ps:List Pt}(h:Hs ps):∀ p∈ps,(0<=p.c/\p.c<=9)/\1<=p.m/\p.m<=60:=by
 obtain⟨h1,h2,h3⟩:=h
 induction ps with
 | nil=>simp
 | cons q ps ih =>
  have hm:=Bh h1;simp only[Cl,List.length_append,List.length_replicate] at h3;intro p hp;rcases List.mem_cons.1 hp with rfl | hp
  . exact⟨h2 p.c (by simp only[Cl,List.mem_append,List.mem_replicate]; exact .inl ⟨by omega,trivial⟩),hm,by omega⟩
  . exact ih (CG h1) (fun c hc=>h2 c (by simp only[Cl,List.mem_append]; exact .inr hc)) (by omega) p hp
theorem CJ{ps:List Pt}(h:Hs ps):JG (Ar ps):=by
 intro n hn;obtain⟨p,hp,h2⟩:=List.mem_flatMap.1 hn;obtain⟨⟨a,b⟩,c,d⟩:=FM h p hp;simp only[List.mem_cons,List.not_mem_nil,or_false] at h2;rcases h2 with rfl | rfl<;>omega
theorem Km{r:Rep}(h:BC r=true):LK (Db r)=some r:=by
 obtain⟨h1,h2,h3,h4,h5,h6,h7⟩:=CX h;have e1:Bp (Jj r) kR=some [r.l,r.p,r.s]:=Cc (by decide) fun n hn=>by
  simp only[List.mem_cons,List.not_mem_nil,or_false] at hn;rcases hn with rfl | rfl | rfl<;>omega
 have e2:Bp (Kj r) kI=some (Ar (AU (An r.xs))):=Cc (by decide) (CJ (Bm h5));have e3:Bp (Kk r) kH=some r.hs:=Cc (by decide) fun n hn=>by have:=h1 n hn; omega
 have e4:Bp (Kl r) kT=some [r.t]:=Cc (by decide) fun n hn=>by
  simp only[List.mem_cons,List.not_mem_nil,or_false] at hn;subst hn; omega
 unfold LK;rw[GV];simp only[LZ,if_true,LY,e1,e2,e3,e4,EC,E3 h5,Bj];rw[if_pos (by simp),if_pos (by exact h)];rfl
theorem Kn{s:Tx}{r:Rep}(h:LK s=some r):BC r=true/\Db r=s:=by
 unfold LK at h;have ej:=DV 10 s;generalize cut 10 s=ws at *;unfold LZ at h;split at h
 . next a b c d e =>
   split at h
   . next he =>
     subst he;unfold LY at h;split at h
     . next hh l hs t e1 e2 e3 e4 =>
       split at h
       . next hc =>
         simp only[Bool.and_eq_true,decide_eq_true_eq] at hc;obtain⟨⟨c1,c2⟩,c3⟩:=hc;split at h
         . next xs ex =>
           split at h
           . next hv =>
             obtain rfl:=Option.some.inj h;refine⟨hv,?_⟩;obtain⟨f1,f2,f3⟩:=E4 ex;obtain⟨q1,_⟩:=Do e1;obtain⟨q2,_⟩:=Do e2;obtain⟨q3,_⟩:=Do e3;obtain⟨q4,_⟩:=Do e4;obtain⟨x0,x1,x2,rfl⟩:∃ x0 x1 x2,hh=[x0,x1,x2]:=by
              match hh,c1 with
              | [x0,x1,x2],_=>exact⟨x0,x1,x2,rfl⟩
             obtain⟨y,rfl⟩:∃ y,t=[y]:=by
              match t,c3 with
              | [y],_=>exact⟨y,rfl⟩
             rw[<- ej,q1,q2,q3,q4];unfold Db Jj Kj Kk Kl;dsimp only;rw[f2,EF _ c2];rfl
           . cases h
         . cases h
       . cases h
     . cases h
   . cases h
 . cases h
theorem Jk{s:Tx}{r:Rep}(h:LK s=some r):s.count 10=4/\∃ v,s=v++[10]:=by
 obtain⟨_,rfl⟩:=Kn h;have:=GQ 10 (Db r);rw[GV] at this;refine⟨by simpa using this.symm,Jj r++10::(Kj r++10::(Kk r++10::Kl r)),?_⟩;simp[Db]
end M
end Go.Proofs.YtgbiagonfbnooaaDoor
