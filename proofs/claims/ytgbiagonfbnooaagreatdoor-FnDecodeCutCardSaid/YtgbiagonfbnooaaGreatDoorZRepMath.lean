import Derived.Test.YtgbiagonfbnooaaGreatDoorZInS
set_option linter.all false
set_option maxRecDepth 100000
set_option maxHeartbeats 8000000
namespace Go.Proofs.YtgbiagonfbnooaaGreatDoor
namespace M
structure Pt where
 c:Int
 m:Int
def pz:Pt:=⟨0,0⟩
def Ba:List Int->List Pt
 | []=>[]
 | c::cs=>match Ba cs with
  | []=>[⟨c,1⟩]
  | p::ps=>if p.c=c then ⟨c,p.m+1⟩::ps else ⟨c,1⟩::p::ps
def Cp:List Pt->List Int
 | []=>[]
 | p::ps=>List.replicate p.m.toNat p.c++Cp ps
def EC:List Pt->Bool
 | []=>true
 | [p]=>decide (1<=p.m)
 | p::q::ps=>decide (1<=p.m)&&decide (p.c≠q.c)&&EC (q::ps)
theorem Ko{c:Int}{cs:List Int}:∃ m ps,Ba (c::cs)=⟨c,m⟩::ps:=by
 simp only[Ba];split
 . exact⟨_,_,rfl⟩
 . split
   . exact⟨_,_,rfl⟩
   . exact⟨_,_,rfl⟩
theorem CJ{p:Pt}{ps:List Pt}(h:EC (p::ps)=true):EC ps=true:=by
 cases ps with
 | nil=>rfl
 | cons q ps=>simp only[EC,Bool.and_eq_true] at h; exact h.2
theorem Bv{p:Pt}{ps:List Pt}(h:EC (p::ps)=true):1<=p.m:=by
 cases ps with
 | nil=>simpa[EC] using h
 | cons q ps=>simp only[EC,Bool.and_eq_true,decide_eq_true_eq] at h; exact h.1.1
theorem EF:∀ cs,EC (Ba cs)=true
 | []=>rfl
 | c::cs=>by
  have ih:=EF cs;simp only[Ba];split
  . rfl
  . next p ps e =>
    rw[e] at ih;split
    . next h =>
      cases ps with
      | nil=>have:=Bv ih; simp[EC]; omega
      | cons q ps =>
       simp only[EC,Bool.and_eq_true,decide_eq_true_eq] at ih ⊢;exact⟨⟨by omega,by rw[<- h]; exact ih.1.2⟩,ih.2⟩
    . next h =>
      have e1:∀ q:List Pt,EC (⟨c,1⟩::p::q)=(decide ((1:Int)<=1)&&decide (c≠p.c)&&EC (p::q)):=fun q=>rfl;rw[e1,ih];simp[Ne.symm h]
theorem CK:∀ cs,Cp (Ba cs)=cs
 | []=>rfl
 | c::cs=>by
  have ih:=CK cs;have ok:=EF cs;simp only[Ba];split
  . next e=>rw[e] at ih; simp only[Cp] at ih ⊢; subst ih; rfl
  . next p ps e =>
    rw[e] at ih ok;have h1:=Bv ok;split
    . next h =>
      simp only[Cp] at ih ⊢;rw[show(p.m+1).toNat=p.m.toNat+1 by omega,List.replicate_succ,List.cons_append,<- h,ih]
    . simp only[Cp] at ih ⊢;rw[ih]; rfl
theorem Ig(c:Int)(cs:List Int)(h:∀ x∈cs.head?,x≠c):∀ n:Nat,Ba (List.replicate (n+1) c++cs)=⟨c,n+1⟩::Ba cs
 | 0=>by
  simp only[List.replicate,List.cons_append,List.nil_append,Ba];cases cs with
  | nil=>rfl
  | cons d ds =>
   obtain⟨m,ps,e⟩:=Ko (c:=d) (cs:=ds);rw[e];dsimp only;rw[if_neg (h d (by simp))];rfl
 | n+1=>by
  rw[List.replicate_succ,List.cons_append,Ba,Ig c cs h n];simp only[if_true];congr 1
theorem Kq{p:Pt}{ps:List Pt}(h:1<=p.m):(Cp (p::ps)).head?=some p.c:=by
 obtain⟨k,hk⟩:∃ k,p.m.toNat=k+1:=⟨p.m.toNat-1,by omega⟩;simp[Cp,hk,List.replicate_succ]
theorem Ih:∀ ps,EC ps=true->Ba (Cp ps)=ps
 | [],_=>rfl
 | p::ps,h=>by
  have h1:=Bv h;have ih:=Ih ps (CJ h);obtain⟨k,hk⟩:∃ k,p.m.toNat=k+1:=⟨p.m.toNat-1,by omega⟩;simp only[Cp];rw[hk,Ig p.c (Cp ps) ?_ k,ih]
  . obtain⟨c,m⟩:=p;dsimp only at *;congr 2;omega
  . intro x hx;cases ps with
    | nil=>simp[Cp] at hx
    | cons q ps =>
     simp only[EC,Bool.and_eq_true,decide_eq_true_eq] at h;rw[Kq (Bv h.2)] at hx;simp at hx;rw[<- hx];exact Ne.symm h.1.2
theorem Gp:∀(cs:List Int) (c:Int),Ba (cs++[c])=(match (Ba cs).getLast? with
 | some p=>if p.c=c then (Ba cs).dropLast++[⟨c,p.m+1⟩] else Ba cs++[⟨c,1⟩]
 | none=>[⟨c,1⟩])
 | [],c=>rfl
 | d::cs,c=>by
  have ih:=Gp cs c;cases cs with
  | nil =>
   simp only[List.nil_append,List.cons_append,Ba,List.getLast?_singleton];by_cases h:c=d
   . subst h; simp
   . simp[h,Ne.symm h]
  | cons e cs =>
   obtain⟨m,ps,he⟩:=Ko (c:=e) (cs:=cs);have e1:Ba (d::(e::cs))=if e=d then ⟨d,m+1⟩::ps else ⟨d,1⟩::⟨e,m⟩::ps:=by
    rw[Ba,he]
   rw[List.cons_append,Ba,ih,he,e1];rw[he] at ih;cases hp:ps with
   | nil =>
    simp only[List.getLast?_singleton];by_cases h:e=c
    . subst h;by_cases h2:e=d
      . subst h2; simp
      . simp[h2]
    . by_cases h2:e=d
      . subst h2; simp[h]
      . simp[h,h2]
   | cons q qs =>
    obtain⟨z,hz⟩:∃ z,(q::qs).getLast?=some z:=⟨_,List.getLast?_eq_some_getLast (by simp)⟩;have a1:(⟨e,m⟩::q::qs:List Pt).getLast?=some z:=by rw[List.getLast?_cons_cons,hz]
    have a2:(⟨d,m+1⟩::q::qs:List Pt).getLast?=some z:=by rw[List.getLast?_cons_cons,hz]
    have a3:(⟨d,1⟩::⟨e,m⟩::q::qs:List Pt).getLast?=some z:=by rw[List.getLast?_cons_cons,a1]
    by_cases h:z.c=c
    . by_cases h2:e=d
      . simp[a2,hz,h,h2]
      . simp[a3,hz,h,h2]
    . by_cases h2:e=d
      . simp[a2,hz,h,h2]
      . simp[a3,hz,h,h2]
def Lo:List Pt->Nat->Option Int->Option (List Int)
 | [],_,_=>some []
 | p::ps,n,b=>if decide (0<=p.c/\p.c<=9)&&decide (1<=p.m)&&decide (p.m<=60-n)&&decide (b≠some p.c) then (Lo ps (n+p.m.toNat) (some p.c)).map (List.replicate p.m.toNat p.c++·) else none
def Hg(ps:List Pt):Prop:=EC ps=true/\(∀ c∈Cp ps,0<=c/\c<=9)/\(Cp ps).length<=60
theorem EH:∀(ps:List Pt) (n:Nat) (b:Option Int) (x:List Int),Lo ps n b=some x↔(x=Cp ps/\EC ps=true/\(∀ c∈Cp ps,0<=c/\c<=9)/\(n<=60->n+(Cp ps).length<=60)/\(60<n->ps=[])/\∀ p∈ps.head?,b≠some p.c)
 | [],n,b,x=>by
  simp[Lo,Cp,EC,eq_comm]
 | p::ps,n,b,x=>by
  rw[Lo];constructor
  . intro h;split at h
    . next hc =>
      simp only[Bool.and_eq_true,decide_eq_true_eq] at hc;obtain⟨⟨⟨⟨h1,h2⟩,h3⟩,h4⟩,h5⟩:=hc;obtain⟨y,hy,rfl⟩:=Option.map_eq_some_iff.1 h;obtain⟨rfl,g1,g2,g3,g4,g5⟩:=(EH ps _ _ y).1 hy;refine⟨rfl,?_,?_,?_,?_,?_⟩
      . cases ps with
        | nil=>simp[EC,h3]
        | cons q qs =>
         have:=g5 q (by simp);simp only[EC,Bool.and_eq_true,decide_eq_true_eq];exact⟨⟨h3,fun e=>this (by rw[e])⟩,g1⟩
      . intro c hm;simp only[Cp,List.mem_append,List.mem_replicate] at hm;rcases hm with⟨_,rfl⟩ | hm
        . exact⟨h1,h2⟩
        . exact g2 c hm
      . intro hn;simp only[Cp,List.length_append,List.length_replicate];have:=g3 (by omega);omega
      . intro hn; omega
      . intro q hq;simp at hq;rw[<- hq]; exact h5
    . cases h
  . rintro⟨rfl,g1,g2,g3,g4,g5⟩;have hm:=Bv g1;have hn:n<=60:=by
     apply Nat.le_of_not_lt;intro h;cases g4 h
    have g3:=g3 hn;simp only[Cp,List.length_append,List.length_replicate] at g3;have hcc:=g2 p.c (by simp only[Cp,List.mem_append,List.mem_replicate]; exact .inl ⟨by omega,trivial⟩);rw[if_pos (by
     simp only[Bool.and_eq_true,decide_eq_true_eq];exact⟨⟨⟨⟨hcc.1,hcc.2⟩,hm⟩,by omega⟩,g5 p (by simp)⟩)]
    rw[Option.map_eq_some_iff];refine⟨Cp ps,(EH ps _ _ _).2 ⟨rfl,CJ g1,fun c hc=>g2 c (by simp only[Cp,List.mem_append]; exact .inr hc),fun _=>by omega,fun h=>by omega,?_⟩,rfl⟩;intro q hq;cases ps with
    | nil=>simp at hq
    | cons r rs =>
     simp at hq;subst hq;simp only[EC,Bool.and_eq_true,decide_eq_true_eq] at g1;intro e;exact g1.1.2 (by simpa using e)
theorem Kr{ps:List Pt}{x:List Int}:Lo ps 0 none=some x↔x=Cp ps/\Hg ps:=by
 rw[EH];unfold Hg;constructor
 . rintro⟨a,b,c,d,_,_⟩;have:=d (by omega);exact⟨a,b,c,by omega⟩
 . rintro⟨a,b,c,d⟩;exact⟨a,b,c,fun _=>by omega,fun h=>by omega,fun _ _=>by simp⟩
abbrev Tx:=List UInt8
def dec(n:Nat):Tx:=if n<10 then [UInt8.ofNat (48+n)] else dec (n / 10)++[UInt8.ofNat (48+n % 10)]
termination_by n
def cut(a:UInt8):Tx->List Tx
 | []=>[[]]
 | b::s=>if b=a then []::cut a s else (b::(cut a s).headD [])::(cut a s).tail
theorem Na(a:UInt8):∀ s,cut a s≠[]
 | []=>by simp[cut]
 | b::s=>by simp only[cut]; split<;>simp
theorem Bw(a:UInt8)(s:Tx):cut a s=(cut a s).headD []::(cut a s).tail:=by
 have:=Na a s;cases h:cut a s with
 | nil=>exact absurd h this
 | cons w ws=>rfl
theorem Gq(a b:UInt8):∀ s,cut a (s++[b])=if b=a then cut a s++[[]] else (cut a s).dropLast++[(cut a s).getLastD []++[b]]
 | []=>by
  by_cases h:b=a<;>simp[cut,h]
 | c::s=>by
  have ih:=Gq a b s;have ne:=Bw a s;have ne2:=Bw a (s++[b]);by_cases h:b=a
  . rw[if_pos h] at ih ⊢;by_cases h2:c=a
    . simp[cut,h2,ih]
    . simp only[List.cons_append,cut,if_neg h2,ih];rw[ne];simp
  . rw[if_neg h] at ih ⊢;by_cases h2:c=a
    . simp only[List.cons_append,cut,if_pos h2,ih];rw[ne];simp
    . simp only[List.cons_append,cut,if_neg h2,ih];generalize cut a s=ws at ne;cases ws with
      | nil=>cases ne
      | cons w ws =>
       cases ws with
       | nil=>simp
       | cons v vs=>simp
theorem Cv{a:UInt8}:∀{s:Tx},a∉s->cut a s=[s]
 | [],_=>rfl
 | b::s,h=>by
  simp only[List.mem_cons,not_or] at h;rw[cut,if_neg (Ne.symm h.1),Cv h.2];rfl
theorem BH{a:UInt8}:∀{s:Tx} (t:Tx),a∉s->cut a (s++a::t)=s::cut a t
 | [],t,_=>by simp[cut]
 | b::s,t,h=>by
  simp only[List.mem_cons,not_or] at h;rw[List.cons_append,cut,if_neg (Ne.symm h.1),BH t h.2];rfl
def Ck(a:UInt8):List Tx->Tx
 | []=>[]
 | [w]=>w
 | w::v::ws=>w++a::Ck a (v::ws)
theorem Ca(a:UInt8):∀ s,Ck a (cut a s)=s
 | []=>rfl
 | b::s=>by
  have ih:=Ca a s;have ne:=Bw a s;by_cases h:b=a
  . rw[cut,if_pos h,ne,Ck,<- ne,ih,h]; rfl
  . rw[cut,if_neg h];generalize cut a s=ws at *;cases ws with
    | nil=>cases ne
    | cons w ws =>
     cases ws with
     | nil=>simp only[Ck,List.headD,List.tail] at ih ⊢; rw[ih]
     | cons v vs=>simp only[Ck,List.headD,List.tail,List.cons_append] at ih ⊢; rw[ih]
theorem Di{a:UInt8}:∀{s:Tx},∀ w∈cut a s,a∉w
 | [],w,h=>by simp[cut] at h; simp[h]
 | b::s,w,h=>by
  have ih:=@Di a s;have ne:=Bw a s;by_cases h2:b=a
  . rw[cut,if_pos h2] at h;rcases List.mem_cons.1 h with rfl | h
    . simp
    . exact ih w h
  . rw[cut,if_neg h2] at h;rcases List.mem_cons.1 h with rfl | h
    . simp only[List.mem_cons,not_or];exact⟨Ne.symm h2,ih _ (by rw[ne]; simp)⟩
    . exact ih w (by rw[ne]; exact List.mem_cons_of_mem _ h)
theorem FQ(a:UInt8):∀ s,(cut a s).length=s.count a+1
 | []=>rfl
 | b::s=>by
  have ih:=FQ a s;by_cases h:b=a
  . rw[cut,if_pos h,List.length_cons,ih,h,List.count_cons_self]
  . rw[cut,if_neg h,List.length_cons,List.length_tail,ih,List.count_cons_of_ne h];rfl
def CY(b:UInt8):Bool:=decide (48<=b.toNat)&&decide (b.toNat<=57)
def CZ(n:Nat)(b:UInt8):Nat:=10*n+(b.toNat-48)
def CR(w:Tx):Nat:=w.foldl CZ 0
def num(w:Tx):Int:=if (decide (1<=w.length)&&decide (w.length<=7)&&!(decide (1<w.length)&&decide (w.headD 0=48))&&w.all CY) then CR w else -1
theorem Gr(w:Tx)(b:UInt8):CR (w++[b])=10*CR w+(b.toNat-48):=by simp[CR,CZ]
theorem EI{k:Nat}(h:k<10):(UInt8.ofNat (48+k)).toNat=48+k:=by simp[UInt8.toNat_ofNat']; omega
theorem Bh{n:Nat}(h:n<10):dec n=[UInt8.ofNat (48+n)]:=by rw[dec,if_pos h]
theorem Cf{n:Nat}(h:¬ n<10):dec n=dec (n / 10)++[UInt8.ofNat (48+n % 10)]:=by rw[dec,if_neg h]
theorem Hh(n:Nat):dec n≠[]:=by
 rw[dec]; split<;>simp
theorem Ef(n:Nat):(dec n).all CY=true:=by
 induction n using Nat.strongRecOn with
 | ind n ih =>
  by_cases h:n<10
  . rw[Bh h];simp only[List.all_cons,List.all_nil,Bool.and_true,CY,EI h];simp; omega
  . rw[Cf h,List.all_append,ih (n / 10) (by omega)];simp only[List.all_cons,List.all_nil,Bool.and_true,CY,EI (show n % 10<10 by omega)];simp; omega
theorem Ii(n:Nat):CR (dec n)=n:=by
 induction n using Nat.strongRecOn with
 | ind n ih =>
  by_cases h:n<10
  . rw[Bh h];simp only[CR,CZ,List.foldl_cons,List.foldl_nil,EI h]; omega
  . rw[Cf h,Gr,ih (n / 10) (by omega),EI (show n % 10<10 by omega)]; omega
theorem Gs{w:Tx}(h:w≠[])(v:Tx):(w++v).headD 0=w.headD 0:=by
 cases w with
 | nil=>exact absurd rfl h
 | cons x w=>rfl
theorem Ks(n:Nat)(h:1<=n):(dec n).headD 0≠48:=by
 induction n using Nat.strongRecOn with
 | ind n ih =>
  by_cases h2:n<10
  . rw[Bh h2];intro e;have:(UInt8.ofNat (48+n)).toNat=(48:UInt8).toNat:=congrArg UInt8.toNat e;rw[EI h2] at this;have:(48:UInt8).toNat=48:=rfl;omega
  . rw[Cf h2,Gs (Hh _)];exact ih (n / 10) (by omega) (by omega)
theorem Eg(n:Nat):∀ k,n<10 ^ (k+1)->(dec n).length<=k+1:=by
 induction n using Nat.strongRecOn with
 | ind n ih =>
  intro k hk;by_cases h:n<10
  . rw[Bh h]; simp
  . rw[Cf h,List.length_append];cases k with
    | zero=>omega
    | succ k =>
     have:=ih (n / 10) (by omega) k (by
      apply Nat.div_lt_of_lt_mul;rw[Nat.pow_succ] at hk;omega)
     simp only[List.length_cons,List.length_nil];omega
theorem Kt(n:Nat):∀ k,10 ^ k<=n->k+1<=(dec n).length:=by
 induction n using Nat.strongRecOn with
 | ind n ih =>
  intro k hk;by_cases h:n<10
  . cases k with
    | zero=>rw[Bh h]; simp
    | succ k=>rw[Nat.pow_succ] at hk; have:1<=10 ^ k:=Nat.one_le_pow _ _ (by omega); omega
  . rw[Cf h,List.length_append];cases k with
    | zero=>simp
    | succ k =>
     have:=ih (n / 10) (by omega) k (by
      rw[Nat.pow_succ] at hk;exact(Nat.le_div_iff_mul_le (by omega)).2 hk)
     simp only[List.length_cons,List.length_nil];omega
theorem Ij{n:Nat}(h:n<=9999999):num (dec n)=n:=by
 have h1:=Eg n 6 (by omega);have h2:1<=(dec n).length:=by have:=Hh n; cases e:dec n with | nil=>exact absurd e this | cons=>simp
 unfold num;rw[if_pos,Ii];simp only[Bool.and_eq_true,decide_eq_true_eq,Bool.not_eq_true',Ef,and_true];refine⟨⟨h2,h1⟩,?_⟩;by_cases h0:n<10
 . rw[Bh h0]; rfl
 . have hd:=Ks n (by omega);rw[Bool.and_eq_false_iff];exact .inr (decide_eq_false hd)
theorem Ik{b:UInt8}(h:CY b=true):UInt8.ofNat (48+(b.toNat-48))=b/\b.toNat-48<10:=by
 simp only[CY,Bool.and_eq_true,decide_eq_true_eq] at h;refine⟨?_,by omega⟩;rw[show 48+(b.toNat-48)=b.toNat by omega];exact UInt8.ofNat_toNat
theorem dec_of:∀(k:Nat) (w:Tx),w.length=k+1->w.all CY=true->(1<w.length->w.headD 0≠48)->dec (CR w)=w/\(10 ^ k<=CR w\/k=0)
 | 0,w,hl,ha,_=>by
  obtain⟨b,rfl⟩:∃ b,w=[b]:=by
   match w,hl with
   | [b],_=>exact⟨b,rfl⟩
  simp only[List.all_cons,List.all_nil,Bool.and_true] at ha;have:=Ik ha;simp only[CR,CZ,List.foldl_cons,List.foldl_nil,Nat.mul_zero,Nat.zero_add,or_true,and_true];rw[Bh this.2,this.1]
 | k+1,w,hl,ha,hh=>by
  obtain⟨v,b,rfl⟩:∃ v b,w=v++[b]:=⟨w.dropLast,w.getLast (by intro e; rw[e] at hl; simp at hl),(List.dropLast_concat_getLast _).symm⟩;have hv:v.length=k+1:=by simpa using hl
  rw[List.all_append,Bool.and_eq_true] at ha;have hvn:v≠[]:=by intro e; rw[e] at hv; simp at hv
  have hb:CY b=true:=by simpa using ha.2
  have h0:=Ik hb;have hh1:v.headD 0≠48:=by
   have:=hh (by simp; omega)
   rwa [Gs hvn] at this
  obtain⟨i1,i2⟩:=dec_of k v hv ha.1 fun _=>hh1;have pos:10 ^ k<=CR v:=by
   rcases i2 with h | rfl
   . exact h
   . obtain⟨c,rfl⟩:∃ c,v=[c]:=by
      match v,hv with
      | [c],_=>exact⟨c,rfl⟩
     have hc:CY c=true:=by simpa using ha.1
     simp only[CY,Bool.and_eq_true,decide_eq_true_eq] at hc;simp only[List.headD_cons] at hh1;have:c.toNat≠48:=fun e=>hh1 (by apply UInt8.toNat_inj.1; exact e);simp only[CR,CZ,List.foldl_cons,List.foldl_nil];omega
  have p1:1<=10 ^ k:=Nat.one_le_pow _ _ (by omega);rw[Gr];refine⟨?_,.inl (by rw[Nat.pow_succ]; omega)⟩;rw[Cf (by omega),show(10*CR v+(b.toNat-48)) / 10=CR v by omega,show(10*CR v+(b.toNat-48)) % 10=b.toNat-48 by omega,i1,h0.1]
theorem Kv{w:Tx}{n:Int}(h:num w=n)(h0:0<=n):w=dec n.toNat/\n<=9999999:=by
 unfold num at h;split at h
 . next hc =>
   simp only[Bool.and_eq_true,decide_eq_true_eq,Bool.not_eq_true',Bool.and_eq_false_iff,decide_eq_false_iff_not] at hc;obtain⟨⟨⟨h1,h2⟩,h3⟩,h4⟩:=hc;obtain⟨k,hk⟩:∃ k,w.length=k+1:=⟨w.length-1,by omega⟩;obtain⟨d1,_⟩:=dec_of k w hk h4 fun hlt=>h3.resolve_left (fun x=>x hlt);subst h;rw[Int.toNat_natCast];refine⟨d1.symm,?_⟩;have:¬ 10 ^ 7<=CR w:=fun hle=>by
    have:=Kt (CR w) 7 hle;rw[d1] at this;omega
   omega
 . omega
theorem IY(w:Tx):-1<=num w/\num w<=9999999:=by
 by_cases h:0<=num w
 . exact⟨by omega,(Kv rfl h).2⟩
 . unfold num at *;split at h
   . omega
   . rw[if_neg (by assumption)]; omega
theorem LS:num []=-1:=rfl
theorem EJ{n:Nat}{a:UInt8}(h:CY a=false):a∉dec n:=fun hm=>by
 have:=List.all_eq_true.1 (Ef n) a hm;rw[h] at this;cases this
def nums(l:List Int):Tx:=l.flatMap fun n=>32::dec n.toNat
def BF(s w:Tx):Option (List Int):=if (decide ((cut 32 s).headD []=w)&&(cut 32 s).tail.all fun v=>decide (0<=num v)) then some ((cut 32 s).tail.map num) else none
def F7(l:List Int):Prop:=∀ n∈l,0<=n/\n<=9999999
theorem Gt:∀(l:List Int) (w:Tx),(32:UInt8)∉w->cut 32 (w++nums l)=w::l.map fun n=>dec n.toNat
 | [],w,h=>by simp[nums,Cv h]
 | n::l,w,h=>by
  have ih:=Gt l (dec n.toNat) (EJ (by rfl));have e:nums (n::l)=32::(dec n.toNat++nums l):=by simp[nums]
  rw[e,BH _ h,ih];rfl
theorem Cb{l:List Int}{w:Tx}(h:(32:UInt8)∉w)(hl:F7 l):BF (w++nums l) w=some l:=by
 unfold BF;rw[Gt l w h];have hm:(l.map fun n=>dec n.toNat).map num=l:=by
  rw[List.map_map]
  conv=>rhs; rw[<- List.map_id l]
  apply List.map_congr_left;intro n hn;obtain⟨a,b⟩:=hl n hn;simp only[Function.comp,id];rw[Ij (by omega)];omega
 rw[if_pos]
 . simp only[List.tail_cons]; rw[hm]
 . simp only[List.headD_cons,List.tail_cons,decide_true,Bool.true_and,List.all_map,List.all_eq_true,Function.comp,decide_eq_true_eq];intro n hn;obtain⟨a,b⟩:=hl n hn;rw[Ij (by omega)];omega
theorem Cc:∀(ws:List Tx) (w:Tx),Ck 32 (w::ws)=w++ws.flatMap (32::·)
 | [],w=>by simp[Ck]
 | v::ws,w=>by rw[Ck,Cc ws v]; simp
theorem LU{s w:Tx}{l:List Int}(h:BF s w=some l):s=w++nums l/\F7 l:=by
 unfold BF at h;split at h
 . next hc =>
   simp only[Bool.and_eq_true,decide_eq_true_eq,List.all_eq_true] at hc;obtain⟨h1,h2⟩:=hc;obtain rfl:=Option.some.inj h;have e:=Ca 32 s;rw[Bw,h1,Cc] at e;constructor
   . have g:∀ vs:List Tx,(∀ v∈vs,0<=num v)->vs.flatMap (32::·)=nums (vs.map num):=by
      intro vs
      induction vs with
      | nil=>intro _; rfl
      | cons v vs ih =>
       intro hv;have e1:=(Kv rfl (hv v (by simp))).1;have e2:=ih fun u hu=>hv u (List.mem_cons_of_mem _ hu);simp only[List.flatMap_cons,List.map_cons,nums] at e2 ⊢;rw[<- e1,e2]
     rw[g _ h2] at e;exact e.symm
   . intro n hn;obtain⟨v,hv,rfl⟩:=List.mem_map.1 hn;exact⟨h2 v hv,(IY v).2⟩
 . cases h
theorem Nb(s w:Tx):BF (s++[32]) w=none:=by
 unfold BF;rw[Gq,if_pos rfl,if_neg];intro h;simp only[Bool.and_eq_true,List.all_eq_true,decide_eq_true_eq] at h;have ne:=Bw 32 s;have:=h.2 [] (by rw[ne]; simp);rw[LS] at this;omega
def Fx(c:Int):In:=⟨F5 c,F6 c,G4 c⟩
def IZ(q:In):Int:=Jl q.s q.p q.z
theorem Ms{c:Int}(h:0<=c/\c<=9):IZ (Fx c)=c/\Bm (Fx c).s (Fx c).p (Fx c).z=true:=by
 by_cases h9:c=9
 . subst h9; exact⟨rfl,rfl⟩
 . have hb:Ax c 0 8=true:=by simp[Ax]; omega
   have e:Fx c=⟨c % 3-1,c / 3,false⟩:=by simp[Fx,F5,F6,G4,hb,h9]
   rw[e];simp only[IZ,Jl,Bm,Ax];refine⟨by simp; omega,?_⟩;simp;omega
theorem OU{q:In}(h:Bm q.s q.p q.z=true):Fx (IZ q)=q/\0<=IZ q/\IZ q<=9:=by
 obtain⟨s,p,z⟩:=q;obtain⟨h1,h2,h3⟩:=Dc h;dsimp only at h1 h2 h3;cases z
 . have hb:Ax (3*p+s+1) 0 8=true:=by simp[Ax]; omega
   simp only[IZ,Jl,Fx,F5,F6,G4,hb,Bool.false_eq_true,if_false,if_true];refine⟨?_,by omega,by omega⟩;simp only[In.mk.injEq,decide_eq_false_iff_not];omega
 . obtain⟨rfl,rfl⟩:=h3 rfl;exact⟨rfl,by decide,by decide⟩
structure Rep where
 l:Int
 p:Int
 s:Int
 xs:List In
 hs:List Int
 t:Int
def rz:Rep:=⟨0,0,0,[],[],0⟩
def Dz(xs:List In):Bool:=(xs.all fun q=>Bm q.s q.p q.z)&&decide (xs.length<=60)
def Dt(n:Int):Bool:=Ax n 0 1000002
def Bq(r:Rep):Bool:=r.hs.all Dt&&(Ax r.l 0 99&&Ax r.p 0 9&&Ax r.s 0 60&&Dz r.xs&&decide (r.hs.length=r.xs.length / 5)&&Dt r.t)
def An(xs:List In):List Int:=xs.map IZ
theorem Gu{xs:List In}(h:(xs.all fun q=>Bm q.s q.p q.z)=true):(An xs).map Fx=xs/\∀ c∈An xs,0<=c/\c<=9:=by
 rw[List.all_eq_true] at h;refine⟨?_,fun c hc=>?_⟩
 . rw[An,List.map_map]
   conv=>rhs; rw[<- List.map_id xs]
   exact List.map_congr_left fun q hq=>(OU (h q hq)).1
 . obtain⟨q,hq,rfl⟩:=List.mem_map.1 hc;exact(OU (h q hq)).2
theorem Kx{cs:List Int}(h:∀ c∈cs,0<=c/\c<=9):An (cs.map Fx)=cs/\((cs.map Fx).all fun q=>Bm q.s q.p q.z)=true:=by
 refine⟨?_,?_⟩
 . rw[An,List.map_map]
   conv=>rhs; rw[<- List.map_id cs]
   exact List.map_congr_left fun c hc=>(Ms (h c hc)).1
 . rw[List.all_eq_true];intro q hq;obtain⟨c,hc,rfl⟩:=List.mem_map.1 hq;exact(Ms (h c hc)).2
def EK(xs:List In):List Pt:=if Dz xs then Ba (An xs) else []
def AH(ps:List Pt):Option (List In):=(Lo ps 0 none).map (·.map Fx)
theorem AO{xs:List In}:Dz xs=true↔(xs.all fun q=>Bm q.s q.p q.z)=true/\xs.length<=60:=by
 unfold Dz; rw[Bool.and_eq_true,decide_eq_true_eq]
theorem BM{xs:List In}(h:Dz xs=true):Hg (Ba (An xs)):=by
 obtain⟨h1,h2⟩:=AO.1 h;refine⟨EF _,?_,?_⟩
 . rw[CK]; exact(Gu h1).2
 . rw[CK,An,List.length_map]; exact h2
theorem Dj{ps:List Pt}{xs:List In}(h:AH ps=some xs):Dz xs=true/\Ba (An xs)=ps/\Hg ps:=by
 unfold AH at h;obtain⟨cs,h1,rfl⟩:=Option.map_eq_some_iff.1 h;obtain⟨rfl,f⟩:=Kr.1 h1;obtain⟨c1,c2⟩:=Kx f.2.1;exact⟨AO.2 ⟨c2,by rw[List.length_map]; exact f.2.2⟩,by rw[c1,Ih _ f.1],f⟩
def Aq(ps:List Pt):List Int:=ps.flatMap fun p=>[p.c,p.m]
def C6:List Int->List Pt
 | c::m::l=>⟨c,m⟩::C6 l
 | _=>[]
theorem Fz:∀ l:List Int,l.length % 2=0->Aq (C6 l)=l
 | [],_=>rfl
 | [c],h=>by simp at h
 | c::m::l,h=>by
  have ih:=Fz l (by simp only[List.length_cons] at h; omega);unfold Aq at ih ⊢;rw[C6,List.flatMap_cons,ih]; rfl
theorem BI(ps:List Pt):(Aq ps).length=2*ps.length:=by
 induction ps with
 | nil=>rfl
 | cons p ps ih=>unfold Aq at ih ⊢; rw[List.flatMap_cons,List.length_append,ih]; simp; omega
def kR:Tx:=[114,101,112,108,97,121]
def kI:Tx:=[105,110,112,117,116,115]
def kH:Tx:=[104,97,115,104,101,115]
def kT:Tx:=[116,97,103]
def LV(r:Rep):Tx:=kR++nums [r.l,r.p,r.s]
def Nc(r:Rep):Tx:=kI++nums (Aq (Ba (An r.xs)))
def Nf(r:Rep):Tx:=kH++nums r.hs
def Ng(r:Rep):Tx:=kT++nums [r.t]
def E7(r:Rep):Tx:=LV r++10::(Nc r++10::(Nf r++10::(Ng r++10::[])))
def Mt(a b c d:Tx):Option Rep :=
 match BF a kR,BF b kI,BF c kH,BF d kT with
 | some h,some l,some hs,some t=>if decide (h.length=3)&&decide (l.length % 2=0)&&decide (t.length=1) then
  match AH (C6 l) with
  | some xs=>if Bq ⟨h.getD 0 0,h.getD 1 0,h.getD 2 0,xs,hs,t.getD 0 0⟩ then some ⟨h.getD 0 0,h.getD 1 0,h.getD 2 0,xs,hs,t.getD 0 0⟩ else none
  | none=>none
  else none
 | _,_,_,_=>none
def ND:List Tx->Option Rep
 | [a,b,c,d,e]=>if e=[] then Mt a b c d else none
 | _=>none
def Nh(s:Tx):Option Rep:=ND (cut 10 s)
theorem I9(l:List Int):(10:UInt8)∉nums l:=fun h=>by
 obtain⟨n,_,hn⟩:=List.mem_flatMap.1 h;rcases List.mem_cons.1 hn with h | h
 . cases h
 . exact EJ (by rfl) h
theorem CL{w:Tx}{l:List Int}(h:(10:UInt8)∉w):(10:UInt8)∉w++nums l:=fun x=>(List.mem_append.1 x).elim h (I9 l)
theorem LW(r:Rep):cut 10 (E7 r)=[LV r,Nc r,Nf r,Ng r,[]]:=by
 unfold E7;rw[BH (s:=LV r) _ (CL (by decide)),BH (s:=Nc r) _ (CL (by decide)),BH (s:=Nf r) _ (CL (by decide)),BH (s:=Ng r) _ (CL (by decide))];rfl
theorem DC{r:Rep}(h:Bq r=true):(∀ n∈r.hs,0<=n/\n<=1000002)/\(0<=r.l/\r.l<=99)/\(0<=r.p/\r.p<=9)/\(0<=r.s/\r.s<=60)/\Dz r.xs=true/\r.hs.length=r.xs.length / 5/\(0<=r.t/\r.t<=1000002):=by
 simp only[Bq,Dt,Ax,Bool.and_eq_true,decide_eq_true_eq,List.all_eq_true] at h;obtain⟨h1,⟨⟨⟨⟨h2,h3⟩,h4⟩,h5⟩,h6⟩,h7⟩:=h;exact⟨h1,h2,h3,h4,h5,h6,h7⟩
theorem Gv{ps:List Pt}(h:Hg ps):∀ p∈ps,(0<=p.c/\p.c<=9)/\1<=p.m/\p.m<=60:=by
 obtain⟨h1,h2,h3⟩:=h
 induction ps with
 | nil=>simp
 | cons q ps ih =>
  have hm:=Bv h1;simp only[Cp,List.length_append,List.length_replicate] at h3;intro p hp;rcases List.mem_cons.1 hp with rfl | hp
  . exact⟨h2 p.c (by simp only[Cp,List.mem_append,List.mem_replicate]; exact .inl ⟨by omega,trivial⟩),hm,by omega⟩
  . exact ih (CJ h1) (fun c hc=>h2 c (by simp only[Cp,List.mem_append]; exact .inr hc)) (by omega) p hp
theorem Dk{ps:List Pt}(h:Hg ps):F7 (Aq ps):=by
 intro n hn;obtain⟨p,hp,h2⟩:=List.mem_flatMap.1 hn;obtain⟨⟨a,b⟩,c,d⟩:=Gv h p hp;simp only[List.mem_cons,List.not_mem_nil,or_false] at h2;rcases h2 with rfl | rfl<;>omega
theorem OA{s:Tx}{r:Rep}(h:Nh s=some r):Bq r=true/\E7 r=s:=by
 unfold Nh at h;have ej:=Ca 10 s;generalize cut 10 s=ws at *;unfold ND at h;split at h
 . next a b c d e =>
   split at h
   . next he =>
     subst he;unfold Mt at h;split at h
     . next hh l hs t e1 e2 e3 e4 =>
       split at h
       . next hc =>
         simp only[Bool.and_eq_true,decide_eq_true_eq] at hc;obtain⟨⟨c1,c2⟩,c3⟩:=hc;split at h
         . next xs ex =>
           split at h
           . next hv =>
             obtain rfl:=Option.some.inj h;refine⟨hv,?_⟩;obtain⟨f1,f2,f3⟩:=Dj ex;obtain⟨q1,_⟩:=LU e1;obtain⟨q2,_⟩:=LU e2;obtain⟨q3,_⟩:=LU e3;obtain⟨q4,_⟩:=LU e4;obtain⟨x0,x1,x2,rfl⟩:∃ x0 x1 x2,hh=[x0,x1,x2]:=by
              match hh,c1 with
              | [x0,x1,x2],_=>exact⟨x0,x1,x2,rfl⟩
             obtain⟨y,rfl⟩:∃ y,t=[y]:=by
              match t,c3 with
              | [y],_=>exact⟨y,rfl⟩
             rw[<- ej,q1,q2,q3,q4];unfold E7 LV Nc Nf Ng;dsimp only;rw[f2,Fz _ c2];rfl
           . cases h
         . cases h
       . cases h
     . cases h
   . cases h
 . cases h
theorem Oh{s:Tx}{r:Rep}(h:Nh s=some r):s.count 10=4/\∃ v,s=v++[10]:=by
 obtain⟨_,rfl⟩:=OA h;have:=FQ 10 (E7 r);rw[LW] at this;refine⟨by simpa using this.symm,LV r++10::(Nc r++10::(Nf r++10::Ng r)),?_⟩;simp[E7]
theorem Oy{s:Tx}(h:s.count 10≠4):Nh s=none:=by
 cases e:Nh s with
 | none=>rfl
 | some r=>exact absurd (Oh e).1 h
theorem O8{s:Tx}{r:Rep}(h:Nh s=some r){k:Nat}(hk:k<s.length):Nh (s.take k)=none:=by
 obtain⟨h1,v,rfl⟩:=Oh h;apply Oy;rw[List.count_append] at h1;have h2:([10]:Tx).count 10=1:=rfl;have h3:(v++[10]).take k=v.take k:=by
  rw[List.take_append_of_le_length];simp at hk; omega
 have h4:=(List.take_sublist k v).count_le 10;rw[h3];omega
theorem OV{s:Tx}{r:Rep}(h:Nh s=some r):Nh (s++[10])=none:=by
 apply Oy;rw[List.count_append,(Oh h).1]
 decide
end M
end Go.Proofs.YtgbiagonfbnooaaGreatDoor
