import Derived.Test.YtflmmdljkhdjlaaZInS
set_option linter.all false
set_option maxRecDepth 100000
set_option maxHeartbeats 8000000
namespace Go.Proofs.Ytflmmdljkhdjlaa
namespace M
structure Pt where
 c:Int
 m:Int
def pz:Pt:=⟨0,0⟩
def Bj:List Int->List Pt
 | []=>[]
 | c::cs=>match Bj cs with
  | []=>[⟨c,1⟩]
  | p::ps=>if p.c=c then ⟨c,p.m+1⟩::ps else ⟨c,1⟩::p::ps
def BI:List Pt->List Int
 | []=>[]
 | p::ps=>List.replicate p.m.toNat p.c++BI ps
def Dq:List Pt->Bool
 | []=>true
 | [p]=>decide (1<=p.m)
 | p::q::ps=>decide (1<=p.m)&&decide (p.c≠q.c)&&Dq (q::ps)
theorem Fq:∀ a b:List Pt,BI (a++b)=BI a++BI b
 | [],_=>rfl
 | p::a,b=>by simp[BI,Fq a b]
theorem IL{c:Int}{cs:List Int}:∃ m ps,Bj (c::cs)=⟨c,m⟩::ps:=by
 simp only[Bj];split
 . exact⟨_,_,rfl⟩
 . split
   . exact⟨_,_,rfl⟩
   . exact⟨_,_,rfl⟩
theorem CY{p:Pt}{ps:List Pt}(h:Dq (p::ps)=true):Dq ps=true:=by
 cases ps with
 | nil=>rfl
 | cons q ps=>simp only[Dq,Bool.and_eq_true] at h; exact h.2
theorem BL{p:Pt}{ps:List Pt}(h:Dq (p::ps)=true):1<=p.m:=by
 cases ps with
 | nil=>simpa[Dq] using h
 | cons q ps=>simp only[Dq,Bool.and_eq_true,decide_eq_true_eq] at h; exact h.1.1
theorem Df:∀ cs,Dq (Bj cs)=true
 | []=>rfl
 | c::cs=>by
  have ih:=Df cs;simp only[Bj];split
  . rfl
  . next p ps e =>
    rw[e] at ih;split
    . next h =>
      cases ps with
      | nil=>have:=BL ih; simp[Dq]; omega
      | cons q ps =>
       simp only[Dq,Bool.and_eq_true,decide_eq_true_eq] at ih ⊢;exact⟨⟨by omega,by rw[<- h]; exact ih.1.2⟩,ih.2⟩
    . next h =>
      have e1:∀ q:List Pt,Dq (⟨c,1⟩::p::q)=(decide ((1:Int)<=1)&&decide (c≠p.c)&&Dq (p::q)):=fun q=>rfl;rw[e1,ih];simp[Ne.symm h]
theorem Cb:∀ cs,BI (Bj cs)=cs
 | []=>rfl
 | c::cs=>by
  have ih:=Cb cs;have ok:=Df cs;simp only[Bj];split
  . next e=>rw[e] at ih; simp only[BI] at ih ⊢; subst ih; rfl
  . next p ps e =>
    rw[e] at ih ok;have h1:=BL ok;split
    . next h =>
      simp only[BI] at ih ⊢;rw[show(p.m+1).toNat=p.m.toNat+1 by omega,List.replicate_succ,List.cons_append,<- h,ih]
    . simp only[BI] at ih ⊢;rw[ih]; rfl
theorem Fs(c:Int)(cs:List Int)(h:∀ x∈cs.head?,x≠c):∀ n:Nat,Bj (List.replicate (n+1) c++cs)=⟨c,n+1⟩::Bj cs
 | 0=>by
  simp only[List.replicate,List.cons_append,List.nil_append,Bj];cases cs with
  | nil=>rfl
  | cons d ds =>
   obtain⟨m,ps,e⟩:=IL (c:=d) (cs:=ds);rw[e];dsimp only;rw[if_neg (h d (by simp))];rfl
 | n+1=>by
  rw[List.replicate_succ,List.cons_append,Bj,Fs c cs h n];simp only[if_true];congr 1
theorem IM{p:Pt}{ps:List Pt}(h:1<=p.m):(BI (p::ps)).head?=some p.c:=by
 obtain⟨k,hk⟩:∃ k,p.m.toNat=k+1:=⟨p.m.toNat-1,by omega⟩;simp[BI,hk,List.replicate_succ]
theorem GX:∀ ps,Dq ps=true->Bj (BI ps)=ps
 | [],_=>rfl
 | p::ps,h=>by
  have h1:=BL h;have ih:=GX ps (CY h);obtain⟨k,hk⟩:∃ k,p.m.toNat=k+1:=⟨p.m.toNat-1,by omega⟩;simp only[BI];rw[hk,Fs p.c (BI ps) ?_ k,ih]
  . obtain⟨c,m⟩:=p;dsimp only at *;congr 2;omega
  . intro x hx;cases ps with
    | nil=>simp[BI] at hx
    | cons q ps =>
     simp only[Dq,Bool.and_eq_true,decide_eq_true_eq] at h;rw[IM (BL h.2)] at hx;simp at hx;rw[<- hx];exact Ne.symm h.1.2
theorem FW:∀(cs:List Int) (c:Int),Bj (cs++[c])=(match (Bj cs).getLast? with
 | some p=>if p.c=c then (Bj cs).dropLast++[⟨c,p.m+1⟩] else Bj cs++[⟨c,1⟩]
 | none=>[⟨c,1⟩])
 | [],c=>rfl
 | d::cs,c=>by
  have ih:=FW cs c;cases cs with
  | nil =>
   simp only[List.nil_append,List.cons_append,Bj,List.getLast?_singleton];by_cases h:c=d
   . subst h; simp
   . simp[h,Ne.symm h]
  | cons e cs =>
   obtain⟨m,ps,he⟩:=IL (c:=e) (cs:=cs);have e1:Bj (d::(e::cs))=if e=d then ⟨d,m+1⟩::ps else ⟨d,1⟩::⟨e,m⟩::ps:=by
    rw[Bj,he]
   rw[List.cons_append,Bj,ih,he,e1];rw[he] at ih;cases hp:ps with
   | nil =>
    simp only[List.getLast?_singleton];by_cases h:e=c
    . subst h;by_cases h2:e=d
      . subst h2; simp
      . simp[h2]
    . by_cases h2:e=d
      . subst h2; simp[h]
      . simp[h,h2]
   | cons q qs =>
    obtain⟨z,hz⟩:∃ z,(q::qs).getLast?=some z:=⟨_,List.getLast?_eq_some_getLast (by simp)⟩;have a1:(⟨e,m⟩::q::qs:List Pt).getLast?=some z:=by rw[List.getLast?_cons_cons,hz]
    have a2:(⟨d,m+1⟩::q::qs:List Pt).getLast?=some z:=by rw[List.getLast?_cons_cons,hz]
    have a3:(⟨d,1⟩::⟨e,m⟩::q::qs:List Pt).getLast?=some z:=by rw[List.getLast?_cons_cons,a1]
    by_cases h:z.c=c
    . by_cases h2:e=d
      . simp[a2,hz,h,h2]
      . simp[a3,hz,h,h2]
    . by_cases h2:e=d
      . simp[a2,hz,h,h2]
      . simp[a3,hz,h,h2]
def Dv:List Pt->Nat->Option Int->Option (List Int)
 | [],_,_=>some []
 | p::ps,n,b=>if decide (0<=p.c/\p.c<=9)&&decide (1<=p.m)&&decide (p.m<=60-n)&&decide (b≠some p.c) then (Dv ps (n+p.m.toNat) (some p.c)).map (List.replicate p.m.toNat p.c++·) else none
def JK(ps:List Pt):Prop:=Dq ps=true/\(∀ c∈BI ps,0<=c/\c<=9)/\(BI ps).length<=60
theorem Ek:∀(ps:List Pt) (n:Nat) (b:Option Int) (x:List Int),Dv ps n b=some x↔(x=BI ps/\Dq ps=true/\(∀ c∈BI ps,0<=c/\c<=9)/\(n<=60->n+(BI ps).length<=60)/\(60<n->ps=[])/\∀ p∈ps.head?,b≠some p.c)
 | [],n,b,x=>by
  simp[Dv,BI,Dq,eq_comm]
 | p::ps,n,b,x=>by
  rw[Dv];constructor
  . intro h;split at h
    . next hc =>
      simp only[Bool.and_eq_true,decide_eq_true_eq] at hc;obtain⟨⟨⟨⟨h1,h2⟩,h3⟩,h4⟩,h5⟩:=hc;obtain⟨y,hy,rfl⟩:=Option.map_eq_some_iff.1 h;obtain⟨rfl,g1,g2,g3,g4,g5⟩:=(Ek ps _ _ y).1 hy;refine⟨rfl,?_,?_,?_,?_,?_⟩
      . cases ps with
        | nil=>simp[Dq,h3]
        | cons q qs =>
         have:=g5 q (by simp);simp only[Dq,Bool.and_eq_true,decide_eq_true_eq];exact⟨⟨h3,fun e=>this (by rw[e])⟩,g1⟩
      . intro c hm;simp only[BI,List.mem_append,List.mem_replicate] at hm;rcases hm with⟨_,rfl⟩ | hm
        . exact⟨h1,h2⟩
        . exact g2 c hm
      . intro hn;simp only[BI,List.length_append,List.length_replicate];have:=g3 (by omega);omega
      . intro hn; omega
      . intro q hq;simp at hq;rw[<- hq]; exact h5
    . cases h
  . rintro⟨rfl,g1,g2,g3,g4,g5⟩;have hm:=BL g1;have hn:n<=60:=by
     apply Nat.le_of_not_lt;intro h;cases g4 h
    have g3:=g3 hn;simp only[BI,List.length_append,List.length_replicate] at g3;have hcc:=g2 p.c (by simp only[BI,List.mem_append,List.mem_replicate]; exact .inl ⟨by omega,trivial⟩);rw[if_pos (by
     simp only[Bool.and_eq_true,decide_eq_true_eq];exact⟨⟨⟨⟨hcc.1,hcc.2⟩,hm⟩,by omega⟩,g5 p (by simp)⟩)]
    rw[Option.map_eq_some_iff];refine⟨BI ps,(Ek ps _ _ _).2 ⟨rfl,CY g1,fun c hc=>g2 c (by simp only[BI,List.mem_append]; exact .inr hc),fun _=>by omega,fun h=>by omega,?_⟩,rfl⟩;intro q hq;cases ps with
    | nil=>simp at hq
    | cons r rs =>
     simp at hq;subst hq;simp only[Dq,Bool.and_eq_true,decide_eq_true_eq] at g1;intro e;exact g1.1.2 (by simpa using e)
theorem IP{ps:List Pt}{x:List Int}:Dv ps 0 none=some x↔x=BI ps/\JK ps:=by
 rw[Ek];unfold JK;constructor
 . rintro⟨a,b,c,d,_,_⟩;have:=d (by omega);exact⟨a,b,c,by omega⟩
 . rintro⟨a,b,c,d⟩;exact⟨a,b,c,fun _=>by omega,fun h=>by omega,fun _ _=>by simp⟩
abbrev Tx:=List UInt8
def cut(a:UInt8):Tx->List Tx
 | []=>[[]]
 | b::s=>if b=a then []::cut a s else (b::(cut a s).headD [])::(cut a s).tail
theorem KC(a:UInt8):∀ s,cut a s≠[]
 | []=>by simp[cut]
 | b::s=>by simp only[cut]; split<;>simp
theorem Ft(a:UInt8)(s:Tx):cut a s=(cut a s).headD []::(cut a s).tail:=by
 have:=KC a s;cases h:cut a s with
 | nil=>exact absurd h this
 | cons w ws=>rfl
theorem FX(a b:UInt8):∀ s,cut a (s++[b])=if b=a then cut a s++[[]] else (cut a s).dropLast++[(cut a s).getLastD []++[b]]
 | []=>by
  by_cases h:b=a<;>simp[cut,h]
 | c::s=>by
  have ih:=FX a b s;have ne:=Ft a s;have ne2:=Ft a (s++[b]);by_cases h:b=a
  . rw[if_pos h] at ih ⊢;by_cases h2:c=a
    . simp[cut,h2,ih]
    . simp only[List.cons_append,cut,if_neg h2,ih];rw[ne];simp
  . rw[if_neg h] at ih ⊢;by_cases h2:c=a
    . simp only[List.cons_append,cut,if_pos h2,ih];rw[ne];simp
    . simp only[List.cons_append,cut,if_neg h2,ih];generalize cut a s=ws at ne;cases ws with
      | nil=>cases ne
      | cons w ws =>
       cases ws with
       | nil=>simp
       | cons v vs=>simp
theorem JL(a:UInt8):∀ s,(cut a s).length=s.count a+1
 | []=>rfl
 | b::s=>by
  have ih:=JL a s;by_cases h:b=a
  . rw[cut,if_pos h,List.length_cons,ih,h,List.count_cons_self]
  . rw[cut,if_neg h,List.length_cons,List.length_tail,ih,List.count_cons_of_ne h];rfl
def Lj(b:UInt8):Bool:=decide (48<=b.toNat)&&decide (b.toNat<=57)
def Lk(n:Nat)(b:UInt8):Nat:=10*n+(b.toNat-48)
def Lm(w:Tx):Nat:=w.foldl Lk 0
def num(w:Tx):Int:=if (decide (1<=w.length)&&decide (w.length<=7)&&!(decide (1<w.length)&&decide (w.headD 0=48))&&w.all Lj) then Lm w else -1
theorem JM:num []=-1:=rfl
def J7(s w:Tx):Option (List Int):=if (decide ((cut 32 s).headD []=w)&&(cut 32 s).tail.all fun v=>decide (0<=num v)) then some ((cut 32 s).tail.map num) else none
theorem KD(s w:Tx):J7 (s++[32]) w=none:=by
 unfold J7;rw[FX,if_pos rfl,if_neg];intro h;simp only[Bool.and_eq_true,List.all_eq_true,decide_eq_true_eq] at h;have ne:=Ft 32 s;have:=h.2 [] (by rw[ne]; simp);rw[JM] at this;omega
def Cy(c:Int):In:=⟨DY c,DZ c,EP c⟩
def FD(q:In):Int:=FC q.s q.p q.z
theorem J9{c:Int}(h:0<=c/\c<=9):FD (Cy c)=c/\Bp (Cy c).s (Cy c).p (Cy c).z=true:=by
 by_cases h9:c=9
 . subst h9; exact⟨rfl,rfl⟩
 . have hb:Aw c 0 8=true:=by simp[Aw]; omega
   have e:Cy c=⟨c % 3-1,c / 3,false⟩:=by simp[Cy,DY,DZ,EP,hb,h9]
   rw[e];simp only[FD,FC,Bp,Aw];refine⟨by simp; omega,?_⟩;simp;omega
theorem IQ{q:In}(h:Bp q.s q.p q.z=true):Cy (FD q)=q/\0<=FD q/\FD q<=9:=by
 obtain⟨s,p,z⟩:=q;obtain⟨h1,h2,h3⟩:=CQ h;dsimp only at h1 h2 h3;cases z
 . have hb:Aw (3*p+s+1) 0 8=true:=by simp[Aw]; omega
   simp only[FD,FC,Cy,DY,DZ,EP,hb,Bool.false_eq_true,if_false,if_true];refine⟨?_,by omega,by omega⟩;simp only[In.mk.injEq,decide_eq_false_iff_not];omega
 . obtain⟨rfl,rfl⟩:=h3 rfl;exact⟨rfl,by decide,by decide⟩
structure Rep where
 l:Int
 p:Int
 s:Int
 xs:List In
 hs:List Int
 t:Int
def rz:Rep:=⟨0,0,0,[],[],0⟩
def Ce(xs:List In):Bool:=(xs.all fun q=>Bp q.s q.p q.z)&&decide (xs.length<=60)
def C8(n:Int):Bool:=Aw n 0 1000002
def BJ(r:Rep):Bool:=r.hs.all C8&&(Aw r.l 0 99&&Aw r.p 0 9&&Aw r.s 0 60&&Ce r.xs&&decide (r.hs.length=r.xs.length / 5)&&C8 r.t)
def An(xs:List In):List Int:=xs.map FD
theorem FY{xs:List In}(h:(xs.all fun q=>Bp q.s q.p q.z)=true):(An xs).map Cy=xs/\∀ c∈An xs,0<=c/\c<=9:=by
 rw[List.all_eq_true] at h;refine⟨?_,fun c hc=>?_⟩
 . rw[An,List.map_map]
   conv=>rhs; rw[<- List.map_id xs]
   exact List.map_congr_left fun q hq=>(IQ (h q hq)).1
 . obtain⟨q,hq,rfl⟩:=List.mem_map.1 hc;exact(IQ (h q hq)).2
theorem IR{cs:List Int}(h:∀ c∈cs,0<=c/\c<=9):An (cs.map Cy)=cs/\((cs.map Cy).all fun q=>Bp q.s q.p q.z)=true:=by
 refine⟨?_,?_⟩
 . rw[An,List.map_map]
   conv=>rhs; rw[<- List.map_id cs]
   exact List.map_congr_left fun c hc=>(J9 (h c hc)).1
 . rw[List.all_eq_true];intro q hq;obtain⟨c,hc,rfl⟩:=List.mem_map.1 hq;exact(J9 (h c hc)).2
def AQ(xs:List In):List Pt:=if Ce xs then Bj (An xs) else []
def Az(ps:List Pt):Option (List In):=(Dv ps 0 none).map (·.map Cy)
theorem AP{xs:List In}:Ce xs=true↔(xs.all fun q=>Bp q.s q.p q.z)=true/\xs.length<=60:=by
 unfold Ce; rw[Bool.and_eq_true,decide_eq_true_eq]
theorem Gv{xs:List In}(h:Ce xs=true):JK (Bj (An xs)):=by
 obtain⟨h1,h2⟩:=AP.1 h;refine⟨Df _,?_,?_⟩
 . rw[Cb]; exact(FY h1).2
 . rw[Cb,An,List.length_map]; exact h2
theorem Fu{xs:List In}(h:Ce xs=true):Az (Bj (An xs))=some xs:=by
 unfold Az;rw[IP.2 ⟨rfl,Gv h⟩,Option.map_some,Cb,(FY (AP.1 h).1).1]
theorem BF{ps:List Pt}{xs:List In}(h:Az ps=some xs):Ce xs=true/\Bj (An xs)=ps/\JK ps:=by
 unfold Az at h;obtain⟨cs,h1,rfl⟩:=Option.map_eq_some_iff.1 h;obtain⟨rfl,f⟩:=IP.1 h1;obtain⟨c1,c2⟩:=IR f.2.1;exact⟨AP.2 ⟨c2,by rw[List.length_map]; exact f.2.2⟩,by rw[c1,GX _ f.1],f⟩
theorem Cc{r:Rep}(h:BJ r=true):(∀ n∈r.hs,0<=n/\n<=1000002)/\(0<=r.l/\r.l<=99)/\(0<=r.p/\r.p<=9)/\(0<=r.s/\r.s<=60)/\Ce r.xs=true/\r.hs.length=r.xs.length / 5/\(0<=r.t/\r.t<=1000002):=by
 simp only[BJ,C8,Aw,Bool.and_eq_true,decide_eq_true_eq,List.all_eq_true] at h;obtain⟨h1,⟨⟨⟨⟨h2,h3⟩,h4⟩,h5⟩,h6⟩,h7⟩:=h;exact⟨h1,h2,h3,h4,h5,h6,h7⟩
end M
end Go.Proofs.Ytflmmdljkhdjlaa
