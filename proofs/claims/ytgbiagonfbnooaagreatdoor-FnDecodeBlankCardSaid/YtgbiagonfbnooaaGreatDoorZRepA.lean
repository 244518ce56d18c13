import Derived.Test.YtgbiagonfbnooaaGreatDoorZDrawRun
set_option linter.all false
set_option maxRecDepth 100000
set_option maxHeartbeats 8000000
open Go.Lib
namespace Go.Proofs.YtgbiagonfbnooaaGreatDoor
open Go.RowKit
open M
theorem M.rp_next{xs:List In}{k:Nat}(h:k<xs.length):((xs.take (k+1)).all fun q=>Bm q.s q.p q.z)=(((xs.take k).all fun q=>Bm q.s q.p q.z)&&Bm (xs.getD k iz).s (xs.getD k iz).p (xs.getD k iz).z):=by
 rw[List.take_succ_eq_append_getElem h,List.all_append,List.getD_eq_getElem?_getD,List.getElem?_eq_getElem h];simp
theorem M.rp_bad{xs:List In}{k:Nat}(h:k<xs.length)(hv:Bm (xs.getD k iz).s (xs.getD k iz).p (xs.getD k iz).z=false):Dz xs=false:=by
 have e:(xs.all fun q=>Bm q.s q.p q.z)=false:=by
  rw[List.all_eq_false];exact⟨xs[k],List.getElem_mem h,by rw[List.getD_eq_getElem?_getD,List.getElem?_eq_getElem h] at hv; simpa using hv⟩
 rw[Dz,e]; rfl
def Ke(w:World)(n:Nat)(xs:List In)(iv:Value)(W:World):Prop:=∃ k:Nat,k<=n/\iv=.int .i64 k/\((xs.take k).all fun q=>Bm q.s q.p q.z)=true/\Below w.heap.size w W
theorem LM(A:Option Addr)(n cap:Nat)(xs:List In)(w:World)(Y:Inputs w A n xs)(hn:n<=281474976710656) :
 Calls Tryz.prog 42 #[.slice A n cap] w fun e w'=>e=.returned (.bool (Dz xs))/\Below w.heap.size w w':=by
 have hl:=hid Y.1;have Y:=hid Y;go_enter Tryz.func42,Tryz.ntmps42;go_wp2
 go_loopw [3] (Ke w n xs) (fun i _=>n-(RowKit.intOf i).toNat)
 case atStart=>exact⟨0,Nat.zero_le _,rfl,rfl,Ac w⟩
 case round =>
  obtain⟨k,hk,rfl,ha,B⟩:=hrel;by_cases hlt:k<n
  . obtain⟨b,off,rfl,hb,hc⟩:=(Y.out.step B).2 (by omega);obtain⟨c0,c1,c2⟩:=hc k hlt;have hkl:k<xs.length:=by have:=hl.out; omega
    have et:=rp_next hkl;rw[ha,Bool.true_and] at et;have eb:=hid (rp_bad hkl);have et:=hid et;have B:=hid B;clear hc ha hkl;generalize xs.getD k iz=q at *;obtain⟨s,p,z⟩:=q;dsimp only at c0 c1 c2;go_wp2_with fail;refine(Es s p z _).mono ?_;rintro e w1 ⟨rfl,B1⟩;replace B:=hid (Aa B.out B1);clear B1 c0 c1 c2;cases hv:Bm s p z
    . have e0:=eb.out hv;clear eb et;go_wp2;go_ret;exact⟨Al e0.symm,B.out⟩
    . have et:=et.out.trans hv;have et:=hid et;clear eb;go_wp2
      go_roundw
      case rel=>exact⟨k+1,by omega,by go_num,et.out,B.out⟩
      case measure=>simp[RowKit.intOf]; omega
  . obtain rfl:k=n:=by omega
    have B:=hid B;have ha:=hid ha;go_wp2;go_ret;refine⟨Al ?_,B.out⟩;have h2:=ha.out;rw[<- hl.out,List.take_length] at h2;rw[Dz,h2,hl.out,Bool.true_and];exact decide_eq_decide.2 (by omega)
theorem M.pts_step(cs:List Int)(c:Int):Ba (cs++[c])=if (Ba cs).length=0 then [⟨c,1⟩] else if ((Ba cs).getD ((Ba cs).length-1) pz).c=c then (Ba cs).set ((Ba cs).length-1) ⟨c,((Ba cs).getD ((Ba cs).length-1) pz).m+1⟩ else Ba cs++[⟨c,1⟩]:=by
 rw[Gp];generalize Ba cs=P;cases P with
 | nil=>rfl
 | cons p ps =>
  have hl:(p::ps).length-1<(p::ps).length:=by simp
  have e:(p::ps).getLast?=some ((p::ps).getD ((p::ps).length-1) pz):=by
   rw[List.getLast?_eq_getElem?,List.getD_eq_getElem?_getD,List.getElem?_eq_getElem hl];rfl
  rw[e];dsimp only;have hne:¬ (p::ps).length=0:=by simp
  rw[if_neg hne];split
  . rw[List.set_eq_take_append_cons_drop,if_pos hl,<- List.dropLast_eq_take];simp
  . rfl
theorem M.pts_bound{cs:List Int}{i:Nat}(h:i<(Ba cs).length):1<=((Ba cs).getD i pz).m/\((Ba cs).getD i pz).m<=cs.length:=by
 have key:∀(ps:List Pt),EC ps=true->∀ p∈ps,1<=p.m/\p.m<=(Cp ps).length:=by
  intro ps
  induction ps with
  | nil=>simp
  | cons q ps ih =>
   intro ok p hp;have h1:=Bv ok;simp only[Cp,List.length_append,List.length_replicate];rcases List.mem_cons.1 hp with rfl | hp
   . omega
   . have:=ih (CJ ok) p hp;omega
 have:=key _ (EF cs) ((Ba cs)[i]) (List.getElem_mem h);rw[CK] at this;rw[List.getD_eq_getElem?_getD,List.getElem?_eq_getElem h];exact this
theorem M.pts_len:∀ cs,(Ba cs).length<=cs.length
 | []=>Nat.le_refl _
 | c::cs=>by
  have:=pts_len cs;simp only[Ba];split
  . simp
  . next e =>
    rw[e] at this;split<;>simp only[List.length_cons] at*<;> omega
theorem HZ:∀(ps:List Pt) (i:Nat) (x:Int),i<ps.length->(Cm ps).set (i*2+1) (.int .i64 x)=Cm (ps.set i ⟨(ps.getD i pz).c,x⟩)
 | [],i,x,h=>absurd h (by simp)
 | p::ps,0,x,_=>rfl
 | p::ps,i+1,x,h=>by
  have e:(i+1)*2+1=(i*2+1)+1+1:=by omega
  have t:=HZ ps i x (by simpa using h);rw[e];simp only[Cm,List.set_cons_succ,List.getD_cons_succ];rw[t]
theorem M.codes_next{xs:List In}{k:Nat}(h:k<xs.length):An (xs.take (k+1))=An (xs.take k)++[IZ (xs.getD k iz)]:=by
 rw[List.take_succ_eq_append_getElem h,An,List.map_append,List.getD_eq_getElem?_getD,List.getElem?_eq_getElem h];rfl
theorem M.valid_at{xs:List In}{k:Nat}(h:k<xs.length)(ok:Dz xs=true):Bm (xs.getD k iz).s (xs.getD k iz).p (xs.getD k iz).z=true:=by
 have:=List.all_eq_true.1 (AO.1 ok).1 xs[k] (List.getElem_mem h);rw[List.getD_eq_getElem?_getD,List.getElem?_eq_getElem h];exact this
theorem Kf{w:World}{base:Nat}{e:TypeId}{sz:Nat}{v:Value}{n:Nat}{xs:List Value}(h:w.ownsRow base e sz v n xs)(hn:0<n):∃ g cap,v=.slice (some ⟨g,0,none⟩) n cap/\base<=g/\g<w.heap.size:=by
 have h0:=h;rcases h.2 with⟨_,e⟩ | ⟨g,cap,cur,rfl,hb,_⟩
 . omega
 . exact⟨g,cap,rfl,hb,(h0.lt g rfl).2⟩
def Kg(w:World)(n:Nat)(xs:List In)(ov iv:Value)(W:World):Prop :=
 ∃ k:Nat,k<=n/\iv=.int .i64 k/\W.ownsRow w.heap.size 73 2 ov (Ba (An (xs.take k))).length (Cm (Ba (An (xs.take k))))/\Below w.heap.size w W
def FO(w:World)(ps:List Pt)(e:Ending)(w':World):Prop:=∃ v,e=.returned v/\w'.ownsRow w.heap.size 73 2 v ps.length (Cm ps)/\Below w.heap.size w w'
theorem Kh(A:Option Addr)(n cap:Nat)(xs:List In)(w:World)(Y:Inputs w A n xs)(ok:Dz xs=true) :
 Calls Tryz.prog 43 #[.slice A n cap] w (FO w (Ba (An xs))):=by
 have hl:=hid Y.1;have hn:n<=60:=by have:=(AO.1 ok).2; have:=Y.1; omega
 have Y:=hid Y;have ok:=hid ok;have O:(w.alloc (.cells #[] 73)).ownsRow w.heap.size 73 2 (.slice (some ⟨w.heap.size,0,none⟩) 0 0) (Ba (An (xs.take 0))).length (Cm (Ba (An (xs.take 0)))):=Ct w w.heap.size w.heap.size rfl (Nat.le_refl _);have B:=Ab (Ac w) (.cells #[] 73);go_enter Tryz.func43,Tryz.ntmps43;go_wp2
 go_loopw [3,4] (Kg w n xs) (fun _ i _=>n-(RowKit.intOf i).toNat)
 case atStart=>exact⟨0,Nat.zero_le _,rfl,O,B⟩
 case round =>
  clear O B;obtain⟨k,hk,rfl,O,B⟩:=hrel;by_cases hlt:k<n
  rotate_left
  . obtain rfl:k=n:=by omega
    have hs:xs.take k=xs:=by rw[<- hl.out,List.take_length]
    rw[hs] at O;have O:=hid O;have B:=hid B;clear hs;go_wp2;go_ret;exact⟨_,rfl,O.out,B.out⟩
  obtain⟨b,off,rfl,hb,hc⟩:=Y.out.2 (by omega);obtain⟨c0,c1,c2⟩:=(hc k hlt).of (B.block b hb);have hkl:k<xs.length:=by have:=hl.out; omega
  have hv:=valid_at hkl ok.out;have hcd:=(OU hv).2;have en:=codes_next hkl;have est:=pts_step (An (xs.take k)) (IZ (xs.getD k iz));rw[<- en] at est;have hbd:=fun i h=>pts_bound (cs:=An (xs.take k)) (i:=i) h;have hlen:=pts_len (An (xs.take k));have hck:(An (xs.take k)).length<=k:=by simp[An]; omega
  have hb2:b<(w).heap.size:=hb;generalize hP:Ba (An (xs.take k))=P at *;generalize hP2:Ba (An (xs.take (k+1)))=P2 at *;clear hP hc hkl en;have hP2:=hid hP2;rw[show IZ (xs.getD k iz)=Jl (xs.getD k iz).s (xs.getD k iz).p (xs.getD k iz).z from rfl] at est hcd;generalize xs.getD k iz=q at *;obtain⟨s,p,z⟩:=q;dsimp only at c0 c1 c2 hv hcd est;have C:=Fp s p z;have est:=hid est;have hbd:=hid hbd;have O:=hid O;have B:=hid B;have hv:=hid hv;generalize Jl s p z=cd at *;go_wp2_with fail;refine(C _ hv.out).mono ?_;rintro e w1 ⟨rfl,B1⟩;replace O:=hid (As O.out B1);replace B:=hid (Aa B.out B1);clear B1 c0 c1 c2 C hv hb hb2
  have hz:=B.out.size;have finish:∀(ps:List Pt) (v':Value) (W:World),P2=ps->W.ownsRow w.heap.size 73 2 v' ps.length (Cm ps)->Below w.heap.size w W->Kg w n xs v' (.int .i64 ((k+1:Nat):Int)) W:=by
   intro ps v' W e1 e2 e3;refine⟨k+1,by omega,rfl,?_,e3⟩;rw[hP2.out,e1];exact e2
  have finish:=hid finish;by_cases h0:P.length=0
  . have e2:=est.out;rw[if_pos h0] at e2;have hPn:P=[]:=List.eq_nil_of_length_eq_zero h0;subst hPn;have e2:=hid e2;clear est h0 hbd hlen;have O:=hid (show w1.ownsRow w.heap.size 73 2 _ 0 (Cm []) from O.out);obtain⟨A1,ca,hv1,_,_⟩:=Parts.of_own O.out;subst hv1;go_wp2_with (at_builtin; refine Ce _ rfl (.tmp 43) (.tmp 46) rfl w.heap.size (.slice A1 0 ca) 0 [] rfl (O.out.alloc _) (some ⟨w1.heap.size,0,none⟩) 1 1 [⟨cd,1⟩] rfl (Parts.one w1 w1.heap.size cd 1 _ rfl) (by omega) (by simp; omega) ?_);intro v' w9 O9 G9 _;have B9:=(Ab B.out _).grown G9 (by simp; omega) (fun g e=>(O.out.lt g e).1);have O9:=hid O9;have B9:=hid B9;clear G9 O B;go_wp2
    go_roundw
    case rel=>exact finish.out [⟨cd,1⟩] _ _ e2.out O9.out B9.out
    case measure=>simp[RowKit.intOf]; omega
  generalize hN:P.length=N at *;obtain⟨m,rfl⟩:∃ m,N=m+1:=⟨N-1,by omega⟩;obtain⟨g,ca,hv1,hg,hg2⟩:=Kf O.out (by omega);subst hv1;have e2:=est.out;rw[if_neg h0,Nat.add_sub_cancel] at e2;have mb:=hbd.out m (by omega);have j0:=Ex P m 0 (by omega) (by omega);have j1:=Ex P m 1 (by omega) (by omega);rw[Nat.add_zero] at j0;have cc:w1.cell? ⟨g,m*2,none⟩=some (.int .i64 (P.getD m pz).c):=(O.out.cellAt (m*2) (by omega)).trans j0;have cm:w1.cell? ⟨g,m*2+1,none⟩=some (.int .i64 (P.getD m pz).m):=(O.out.cellAt (m*2+1) (by omega)).trans j1;have fc:w1.frozen? ⟨g,m*2+1,none⟩=false:=O.out.frozenAt (m*2+1)
  have ss:=HZ P m ((P.getD m pz).m+1) (by omega);have ln:∀ x,(P.set m x).length=m+1:=fun x=>by rw[List.length_set,hN]
  clear est hbd j0 j1 h0;generalize P.getD m pz=q at *;obtain⟨pc,pm⟩:=q;dsimp only at cc cm ss mb e2;by_cases hcc:pc=cd
  . subst hcc;rw[if_pos rfl] at e2;have O5:=hid (show(w1.setCell ⟨g,m*2+1,none⟩ (.int .i64 (pm+1))).ownsRow w.heap.size 73 2 (.slice (some ⟨g,0,none⟩) (P.set m (⟨pc,pm+1⟩:Pt)).length ca) (P.set m (⟨pc,pm+1⟩:Pt)).length (Cm (P.set m ⟨pc,pm+1⟩)) from by
     rw[ln,<- ss]; exact(O.out.stored (m*2+1) _).1)
    have B5:=hid (Ar B.out g (m*2+1) (.int .i64 (pm+1)) hg);have ln5:=ln ⟨pc,pm+1⟩;have fin:=finish.out _ _ _ e2 O5.out B5.out;rw[ln5] at fin;replace finish:=hid fin;clear ss ln O B e2 ln5 O5 B5 fin hP2 hN;have hw:IntKind.i64.wrap (pm+1)=pm+1:=IntWalk.i64_in _ (by omega);go_wp2
    go_roundw
    case rel=>exact finish.out
    case measure=>simp[RowKit.intOf]; omega
  . rw[if_neg hcc] at e2;have hd:(pc==cd)=false:=by simpa using hcc
    have e2:=hid e2;clear ss ln cm fc mb hcc;have hN:=hid hN;go_wp2_with (at_builtin; refine Ce _ rfl (.tmp 43) (.tmp 46) rfl w.heap.size (Value.slice (some (⟨g,0,none⟩:Addr)) (m+1) ca) (m+1) P rfl (O.out.alloc _) (some ⟨w1.heap.size,0,none⟩) 1 1 [⟨cd,1⟩] rfl (Parts.one w1 w1.heap.size cd 1 _ rfl) (by omega) (by simp; omega) ?_);intro v' w9 O9 G9 _;have B9:=(Ab B.out _).grown G9 (by simp; omega) (fun g' e=>(O.out.lt g' e).1);have O9:=hid (show w9.ownsRow w.heap.size 73 2 v' (P++[(⟨cd,1⟩:Pt)]).length (Cm (P++[⟨cd,1⟩])) from by rw[List.length_append,hN.out]; exact O9);have B9:=hid B9;clear G9 O B;go_wp2
    go_roundw
    case rel=>exact finish.out _ _ _ e2.out O9.out B9.out
    case measure=>simp[RowKit.intOf]; omega
end Go.Proofs.YtgbiagonfbnooaaGreatDoor
