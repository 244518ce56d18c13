import Derived.Lib.AtoiAllCases
import Derived.Lib.ItoaNum
import Derived.Lib.Split
import Derived.Lib.SplitLaws
import Derived.Lib.IndexBytes
import Derived.Lib.IndexMore
import Derived.Test.YtgbiagonfbnooaaGreatDoorZRepMath
set_option linter.all false
set_option maxRecDepth 100000
set_option maxHeartbeats 8000000
namespace Go.Proofs.YtgbiagonfbnooaaGreatDoor
namespace M
theorem Nj(n:Nat):Go.Lib.decDigits n=dec n:=by
 induction n using Nat.strongRecOn with
 | ind n ih =>
  rw[Go.Lib.decDigits,dec];by_cases h:n<10
  . rw[dif_pos h,if_pos h]
  . rw[dif_neg h,if_neg h,ih (n / 10) (by omega)]
theorem EQ{n:Int}(h:0<=n):Go.Lib.itoa n=dec n.toNat:=by
 rw[Go.Lib.itoa,if_neg (by omega),Nj]
theorem Im:∀(w:Tx) (a:Nat),a<=w.foldl CZ a
 | [],a=>Nat.le_refl _
 | b::w,a=>by
  have:=Im w (CZ a b);simp only[List.foldl_cons];simp only[CZ] at this ⊢;omega
theorem ET:∀(w:Tx) (a:Nat),w.all CY=true->w.foldl CZ a<18446744073709551616->Go.Lib.parseUint10 a w=.ok (w.foldl CZ a)
 | [],a,_,_=>rfl
 | b::w,a,h,hl=>by
  rw[List.all_cons,Bool.and_eq_true] at h;have hb:=h.1;simp only[CY,Bool.and_eq_true,decide_eq_true_eq] at hb;rw[List.foldl_cons] at hl ⊢;have hg:=Im w (CZ a b);have ev:CZ a b=a*10+(b.toNat-48):=by simp only[CZ]; omega
  have hlt:a*10+(b.toNat-48)<18446744073709551616:=by omega
  rw[Go.Lib.parseUint10,if_pos hb,if_neg (by omega),if_neg (by omega),<- ev];exact ET w _ h.2 hl
theorem KE(n:Nat):∃ c r,dec n=c::r/\CY c=true:=by
 have h:=Ef n;cases e:dec n with
 | nil=>exact absurd e (Hh n)
 | cons c r=>rw[e,List.all_cons,Bool.and_eq_true] at h; exact⟨c,r,rfl,h.1⟩
theorem KF{n:Nat}(h:n<9223372036854775808):Go.Lib.atoiAll (dec n)=.ok (n:Int):=by
 obtain⟨c,r,e,hc⟩:=KE n;simp only[CY,Bool.and_eq_true,decide_eq_true_eq] at hc;have hp:Go.Lib.parseUint10 0 (dec n)=.ok n:=by
  have hv:=Ii n;rw[ET (dec n) 0 (Ef n) (by rw[show(dec n).foldl CZ 0=n from hv]; omega)];rw[show(dec n).foldl CZ 0=n from hv]
 have hm:Go.Lib.parseMag (c::r)=.ok n:=by rw[Go.Lib.parseMag,if_neg (by simp),<- e,hp]
 rw[e,Go.Lib.atoiAll_plain c r (by omega) (by omega),hm];simp only[Go.Lib.signless];rw[if_neg (by omega)]
def Dn(w:Tx):Option Int:=match Go.Lib.atoiAll w with
 | .ok v=>if Go.Lib.itoa v=w then some v else none
 | _=>none
theorem LY{w:Tx}{n:Int}(h:Dn w=some n):w=Go.Lib.itoa n:=by
 unfold Dn at h;split at h
 . split at h
   . next e=>cases h; exact e.symm
   . cases h
 . cases h
theorem KG{n:Int}(h0:0<=n)(h:n<=9999999):Dn (dec n.toNat)=some n:=by
 have e:((n.toNat:Nat):Int)=n:=by omega
 unfold Dn;rw[KF (by omega),e];dsimp only;rw[if_pos (EQ h0)]
def LZ(ws:List Tx):Tx:=ws.flatMap (32::·)
def Io(ws:List Tx):Prop:=∀ w∈ws,(32:UInt8)∉w
theorem Ip:∀(ws:List Tx) (w:Tx),(32:UInt8)∉w->Io ws->cut 32 (w++LZ ws)=w::ws
 | [],w,h,_=>by simp[LZ,Cv h]
 | v::ws,w,h,hf=>by
  have ih:=Ip ws v (hf v (by simp)) fun u hu=>hf u (List.mem_cons_of_mem _ hu);have e:LZ (v::ws)=32::(v++LZ ws):=by simp[LZ]
  rw[e,BH _ h,ih]
def Lp:List Tx->Option (List Int)
 | []=>some []
 | w::ws=>match Dn w with
  | some n=>(Lp ws).map (n::·)
  | none=>none
def GA(r:Tx):Option (List Int):=match cut 32 r with
 | []::ws=>Lp ws
 | _=>none
theorem Iq{ws:List Tx}(h:Io ws):GA (LZ ws)=Lp ws:=by
 have:=Ip ws [] (by simp) h;rw[List.nil_append] at this;rw[GA,this]
theorem L3{b:UInt8}{t:Tx}(h:b≠32):GA (b::t)=none:=by
 rw[GA,cut,if_neg h]
def BE(s w:Tx):Option (List Int):=if Go.Lib.hasPrefix s w=true then GA (Go.Lib.trimPrefix s w) else none
theorem Hj:∀{ws:List Tx} {l:List Int},Lp ws=some l->ws=l.map Go.Lib.itoa
 | [],l,h=>by cases h; rfl
 | w::ws,l,h=>by
  rw[Lp] at h;split at h
  . next n e =>
    obtain⟨k,hk,rfl⟩:=Option.map_eq_some_iff.1 h;rw[List.map_cons,<- LY e,<- Hj hk]
  . cases h
theorem Ir:∀{l:List Int},F7 l->Lp (l.map fun n=>dec n.toNat)=some l
 | [],_=>rfl
 | n::l,h=>by
  have ih:=Ir fun m hm=>h m (List.mem_cons_of_mem _ hm);obtain⟨a,b⟩:=h n (by simp);rw[List.map_cons,Lp,KG a b,ih];rfl
theorem Is(w r:Tx):Go.Lib.hasPrefix (w++r) w=true/\Go.Lib.trimPrefix (w++r) w=r:=by
 have h:Go.Lib.hasPrefix (w++r) w=true:=by
  rw[Go.Lib.hasPrefix,List.isPrefixOf_iff_prefix];exact List.prefix_append _ _
 refine⟨h,?_⟩;rw[Go.Lib.trimPrefix,if_pos h,List.drop_left]
theorem KH{s w:Tx}(h:Go.Lib.hasPrefix s w=true):s=w++Go.Lib.trimPrefix s w:=by
 have h2:=h;rw[Go.Lib.hasPrefix,List.isPrefixOf_iff_prefix] at h2;obtain⟨r,rfl⟩:=h2;rw[(Is w r).2]
theorem GB(l:List Int):nums l=LZ (l.map fun n=>dec n.toNat):=by
 induction l with
 | nil=>rfl
 | cons n l ih=>simp only[nums,LZ,List.flatMap_cons,List.map_cons] at ih ⊢; rw[ih]
theorem NH(l:List Int):Io (l.map fun n=>dec n.toNat):=fun w hw=>by
 obtain⟨n,_,rfl⟩:=List.mem_map.1 hw;exact EJ (by rfl)
theorem Eh{s w:Tx}{l:List Int}(h:BF s w=some l):BE s w=some l:=by
 obtain⟨rfl,ok⟩:=LU h;obtain⟨p1,p2⟩:=Is w (nums l);rw[BE,if_pos p1,p2,GB,Iq (NH l),Ir ok]
theorem L4{s w:Tx}{l:List Int}(h:BE s w=some l)(ok:F7 l):s=w++nums l:=by
 unfold BE at h;split at h
 . next hp =>
   have e:=KH hp;unfold GA at h;split at h
   . next ws hc =>
     have e2:=Ca 32 (Go.Lib.trimPrefix s w);rw[hc,Cc] at e2;have e3:=Hj h;rw[e,<- e2,e3,GB];congr 1;have:∀ k:List Int,F7 k->k.map Go.Lib.itoa=k.map fun n=>dec n.toNat:=fun k hk=>List.map_congr_left fun n hn=>EQ (hk n hn).1;rw[this l ok];rfl
   . cases h
 . cases h
theorem CN{s w:Tx}{l:List Int}(hw:(32:UInt8)∉w)(h:BE s w=some l)(ok:F7 l):BF s w=some l:=by
 rw[L4 h ok,Cb hw ok]
def GC(a b c d:Tx):Option Rep :=
 match BE a kR,BE b kI,BE c kH,BE d kT with
 | some h,some l,some hs,some t=>if decide (h.length=3)&&decide (t.length=1) then
  if decide (l.length % 2=0) then
   match AH (C6 l) with
   | some xs=>if Bq ⟨h.getD 0 0,h.getD 1 0,h.getD 2 0,xs,hs,t.getD 0 0⟩ then some ⟨h.getD 0 0,h.getD 1 0,h.getD 2 0,xs,hs,t.getD 0 0⟩ else none
   | none=>none
  else none
  else none
 | _,_,_,_=>none
theorem It{p:Pt}:∀{ps:List Pt},p∈ps->EC ps=true->p.c∈Cp ps/\1<=p.m/\p.m.toNat<=(Cp ps).length
 | [],h,_=>by cases h
 | q::ps,h,ok=>by
  rcases List.mem_cons.1 h with rfl | h
  . have:=Bv ok;simp only[Cp,List.mem_append,List.mem_replicate,List.length_append,List.length_replicate];exact⟨.inl ⟨by omega,trivial⟩,this,by omega⟩
  . obtain⟨a,b,c⟩:=It h (CJ ok);simp only[Cp,List.mem_append,List.length_append,List.length_replicate];exact⟨.inr a,b,by omega⟩
theorem KI{l:List Int}(h2:l.length % 2=0)(f:Hg (C6 l)):F7 l:=fun n hn=>by
 rw[<- Fz l h2,Aq] at hn;obtain⟨p,hp,hn⟩:=List.mem_flatMap.1 hn;obtain⟨a,b,c⟩:=It hp f.1;have h1:=f.2.1 _ a;have h3:=f.2.2;simp only[List.mem_cons,List.mem_nil_iff,or_false] at hn;rcases hn with rfl | rfl<;>omega
theorem KJ(a b c d:Tx):GC a b c d=Mt a b c d:=by
 have fwd:∀ r,Mt a b c d=some r->GC a b c d=some r:=fun r h=>by
  unfold Mt at h;split at h
  . next hh l hs t e1 e2 e3 e4 =>
    split at h
    . next hc =>
      simp only[Bool.and_eq_true,decide_eq_true_eq] at hc;unfold GC;rw[Eh e1,Eh e2,Eh e3,Eh e4];dsimp only;rw[if_pos (by simp[hc.1.1,hc.2]),if_pos (by simp[hc.1.2])];exact h
    . cases h
  . cases h
 have bwd:∀ r,GC a b c d=some r->Mt a b c d=some r:=fun r h=>by
  unfold GC at h;split at h
  . next hh l hs t e1 e2 e3 e4 =>
    split at h
    . next hc =>
      simp only[Bool.and_eq_true,decide_eq_true_eq] at hc;split at h
      . next hl =>
        simp only[decide_eq_true_eq] at hl;split at h
        . next xs ex =>
          split at h
          . next hv =>
            have fn:=(Dj ex).2.2;have okl:=KI hl fn;have hv2:=hv;simp only[Bq,Bool.and_eq_true,Dt,Ax,decide_eq_true_eq,List.all_eq_true] at hv2;obtain⟨v1,⟨⟨⟨⟨⟨v2,v3⟩,v4⟩,_⟩,_⟩,v5⟩⟩:=hv2;have okh:F7 hh:=by
             match hh,hc.1 with
             | [x,y,z],_ =>
              intro n hn;simp only[List.mem_cons,List.mem_nil_iff,or_false] at hn;simp only[List.getD_cons_zero,List.getD_cons_succ] at v2 v3 v4;rcases hn with rfl | rfl | rfl<;>omega
            have oks:F7 hs:=fun n hn=>by have:=v1 n hn; omega
            have okt:F7 t:=by
             match t,hc.2 with
             | [x],_ =>
              intro n hn;simp only[List.mem_cons,List.mem_nil_iff,or_false] at hn;simp only[List.getD_cons_zero] at v5;subst hn; omega
            unfold Mt;rw[CN (by decide) e1 okh,CN (by decide) e2 okl,CN (by decide) e3 oks,CN (by decide) e4 okt];dsimp only;rw[if_pos (by simp[hc.1,hc.2,hl]),ex];dsimp only;rw[if_pos hv];exact h
          . cases h
        . cases h
      . cases h
    . cases h
  . cases h
 cases e:Mt a b c d with
 | some r=>exact fwd r e
 | none =>
  cases e2:GC a b c d with
  | none=>rfl
  | some r=>rw[bwd r e2] at e; cases e
end M
end Go.Proofs.YtgbiagonfbnooaaGreatDoor
namespace Go.Proofs.YtgbiagonfbnooaaGreatDoor
namespace M
theorem DD(a:UInt8):∀ s:Tx,(a∉s/\Go.Lib.index s [a]=-1)\/∃ x b:Tx,s=x++a::b/\a∉x/\Go.Lib.index s [a]=x.length
 | []=>.inl ⟨by simp,by rw[Go.Lib.index_one]; rfl⟩
 | c::s=>by
  by_cases h:c=a
  . refine .inr ⟨[],s,by rw[h]; rfl,by simp,?_⟩;rw[Go.Lib.index_one,Go.Lib.indexByte,h];simp
  . have hb:(c==a)=false:=beq_eq_false_iff_ne.2 h;rcases DD a s with⟨h1,h2⟩ | ⟨x,b,rfl,h1,h2⟩
    . refine .inl ⟨by simp[h1,Ne.symm h],?_⟩;rw[Go.Lib.index_one] at h2 ⊢;rw[Go.Lib.indexByte,hb,h2];rfl
    . refine .inr ⟨c::x,b,rfl,by simp[h1,Ne.symm h],?_⟩;rw[Go.Lib.index_one] at h2 ⊢;rw[Go.Lib.indexByte,hb,h2];have:¬ ((x.length:Int)==-1)=true:=fun e=>by have:=beq_iff_eq.1 e; omega
      rw[if_neg (by simp),if_neg this];simp
theorem L5(a:UInt8)(s:Tx):(Go.Lib.cut s [a]).1=(cut a s).headD []:=by
 rcases DD a s with⟨h1,h2⟩ | ⟨x,b,rfl,h1,h2⟩
 . rw[Go.Lib.cut,if_neg (by omega),Cv h1]; rfl
 . rw[Go.Lib.cut,if_pos (by omega),h2,BH b h1];simp
def Fe(a:UInt8):Nat->List Tx->List Tx
 | 0,ws=>[Ck a ws]
 | _+1,[]=>[]
 | _+1,[w]=>[w]
 | k+1,w::v::ws=>w::Fe a k (v::ws)
theorem FA(a:UInt8):∀(k:Nat) (s:Tx),Go.Lib.splitK [a] 0 k s=Fe a k (cut a s)
 | 0,s=>by rw[Go.Lib.splitK,Fe,Ca]
 | k+1,s=>by
  rw[Go.Lib.splitK];rcases DD a s with⟨h1,h2⟩ | ⟨x,b,rfl,h1,h2⟩
  . rw[h2,if_pos (by rfl),Cv h1]; rfl
  . have:¬ ((x.length:Int)==-1)=true:=fun e=>by have:=beq_iff_eq.1 e; omega
    rw[h2,if_neg this,BH b h1,Bw,Fe,<- Bw];rw[<- FA a k b];simp
theorem GD(a:UInt8):∀(k:Nat) (w:Tx) (ws:List Tx),(Fe a k (w::ws)).length=min (k+1) (ws.length+1)
 | 0,w,ws=>by simp[Fe]
 | k+1,w,[]=>by simp[Fe]
 | k+1,w,v::ws=>by simp only[Fe,List.length_cons,GD a k v ws]; omega
def FU(s:Tx):List Tx:=Go.Lib.splitK [10] 0 (min 5 (s.length+1)-1) s
def Nk(s:Tx):Option Rep:=match FU s with
 | [a,b,c,d,e]=>if e=[] then GC a b c d else none
 | _=>none
theorem L8(a:UInt8)(w v:Tx)(ws:List Tx):Ck a (w::v::ws)≠[]:=by simp[Ck]
theorem KL(s:Tx):Nk s=Nh s:=by
 have hl:=FQ 10 s;have hc:s.count 10<=s.length:=List.count_le_length;unfold Nk FU Nh;rw[FA];generalize cut 10 s=ws at hl ⊢;have hk:ws.length<=4\/min 5 (s.length+1)-1=4:=by omega
 rcases hk with h4 | hk
 . have h5:ND ws=none:=by
    match ws,h4 with
    | [],_=>rfl
    | [_],_=>rfl
    | [_,_],_=>rfl
    | [_,_,_],_=>rfl
    | [_,_,_,_],_=>rfl
   rw[h5];cases ws with
   | nil=>simp at hl
   | cons w ws =>
    have g:=GD 10 (min 5 (s.length+1)-1) w ws;split
    . next e=>rw[e] at g; simp only[List.length_cons,List.length_nil] at g h4; omega
    . rfl
 . rw[hk]
   match ws,hl with
   | [],h=>simp at h
   | [_],_=>rfl
   | [_,_],_=>rfl
   | [_,_,_],_=>rfl
   | [_,_,_,_],_=>rfl
   | [a,b,c,d,e],_ =>
    simp only[Fe,Ck,ND,KJ]
   | a::b::c::d::e::f::r,_ =>
    simp only[Fe,ND];rw[if_neg (L8 10 e f r)]
end M
end Go.Proofs.YtgbiagonfbnooaaGreatDoor
namespace Go.Proofs.YtgbiagonfbnooaaGreatDoor
namespace M
def Hk(xs:List Int)(j:Nat):Pt:=⟨xs.getD (2*j) 0,xs.getD (2*j+1) 0⟩
theorem DF:∀(m:Nat) (xs:List Int),xs.length=2*m->(List.range m).map (Hk xs)=C6 xs
 | 0,[],_=>rfl
 | m+1,a::b::t,h=>by
  have ih:=DF m t (by simp at h; omega);rw[List.range_succ_eq_map,List.map_cons,List.map_map];have e:(Hk (a::b::t) ∘ Nat.succ)=Hk t:=by
   funext j;simp only[Function.comp,Hk];rw[show 2*j.succ=2*j+1+1 by omega,show 2*j+1+1+1=(2*j+1)+1+1 by omega];simp only[List.getD_cons_succ]
  rw[e,ih];rfl
 | m+1,[],h=>by simp at h
 | m+1,[a],h=>by simp at h; omega
theorem Cw:∀(l:List Int),F7 l->(nums l).length<=8*l.length
 | [],_=>by simp[nums]
 | n::l,h=>by
  have ih:=Cw l fun x hx=>h x (List.mem_cons_of_mem _ hx);have h1:=h n (by simp);have h2:=Eg n.toNat 6 (by omega);have e:nums (n::l)=32::(dec n.toNat++nums l):=by simp[nums]
  rw[e];simp only[List.length_cons,List.length_append];omega
theorem Ma{r:Rep}(h:Bq r=true):(E7 r).length<=2000:=by
 obtain⟨h1,h2,h3,h4,h5,h6,h7⟩:=DC h;have h8:=(AO.1 h5).2;have f:=BM h5;have a1:=Cw [r.l,r.p,r.s] (fun n hn=>by simp at hn; rcases hn with rfl | rfl | rfl<;>omega);have a2:=Cw (Aq (Ba (An r.xs))) (Dk f);have a3:=Cw r.hs (fun n hn=>by have:=h1 n hn; omega);have a4:=Cw [r.t] (fun n hn=>by simp at hn; subst hn; omega);have a5:(Ba (An r.xs)).length<=60:=by
  have b1:=f.2.2;have b2:∀(ps:List Pt),EC ps=true->ps.length<=(Cp ps).length:=by
   intro ps
   induction ps with
   | nil=>intro _; simp
   | cons p ps ih =>
    intro ok;have:=Bv ok;have:=ih (CJ ok);simp only[Cp,List.length_cons,List.length_append,List.length_replicate];omega
  have:=b2 _ f.1;omega
 rw[BI] at a2;simp only[List.length_cons,List.length_nil] at a1 a4;simp only[E7,LV,Nc,Nf,Ng,List.length_append,List.length_cons,List.length_nil,kR,kI,kH,kT];omega
theorem KN{s w:Tx}{l:List Int}(h:BE s w=some l):l.length<=s.length:=by
 unfold BE at h;split at h
 . next hp =>
   have e:=congrArg List.length (KH hp);rw[List.length_append] at e;unfold GA at h;split at h
   . next ws hc =>
     have e2:=FQ 32 (Go.Lib.trimPrefix s w);rw[hc] at e2;have e3:=congrArg List.length (Hj h);have e4:=List.count_le_length (a:=(32:UInt8)) (l:=Go.Lib.trimPrefix s w);simp only[List.length_cons,List.length_map] at e2 e3;omega
   . cases h
 . cases h
end M
end Go.Proofs.YtgbiagonfbnooaaGreatDoor
