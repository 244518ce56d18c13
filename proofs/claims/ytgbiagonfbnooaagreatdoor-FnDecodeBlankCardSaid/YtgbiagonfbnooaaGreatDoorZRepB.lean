import Derived.Test.YtgbiagonfbnooaaGreatDoorZRepA
set_option linter.all false
set_option maxRecDepth 100000
set_option maxHeartbeats 8000000
open Go.Lib
namespace Go.Proofs.YtgbiagonfbnooaaGreatDoor
open Go.RowKit
open M
theorem M.drop_pt{ps:List Pt}{k:Nat}(h:k<ps.length):ps.drop k=ps.getD k pz::ps.drop (k+1):=by
 rw[List.drop_eq_getElem_cons h,List.getD_eq_getElem?_getD,List.getElem?_eq_getElem h];rfl
def M.before(ps:List Pt):Nat->Option Int
 | 0=>none
 | k+1=>some (ps.getD k pz).c
def OI(w:World)(n:Nat)(ps:List Pt)(ov iv:Value)(W:World):Prop :=
 ∃(k:Nat) (cs:List Int),k<=n/\iv=.int .i64 k/\W.ownsRow w.heap.size 89 3 ov cs.length (AZ (cs.map Fx))/\cs.length<=60/\Lo ps 0 none=(Lo (ps.drop k) cs.length (before ps k)).map (cs++·)/\Below w.heap.size w W
def OP(w:World)(sb n:Nat)(cs:List Int)(c:Int)(xs:List Value)(ov iv:Value)(W:World):Prop :=
 ∃ j:Nat,j<=n/\iv=.int .i64 j/\W.ownsRow w.heap.size 89 3 ov (cs.length+j) (AZ ((cs++List.replicate j c).map Fx))/\ov.ownBlock≠some sb/\CellsAt W sb xs/\Below w.heap.size w W
def Ia(w:World)(o:Option (List In))(e:Ending)(w':World):Prop :=
 ∃ v,e=.returned (.tuple #[v,.bool o.isSome])/\w'.ownsRow w.heap.size 89 3 v (o.getD []).length (AZ (o.getD []))/\Below w.heap.size w w'
theorem M.rin_no1{c m:Int}{ps:List Pt}{n:Nat}{b:Option Int}(h:Ax c 0 9=false):Lo (⟨c,m⟩::ps) n b=none:=by
 rw[Lo,if_neg];intro hc;simp only[Ax,Bool.and_eq_true,decide_eq_true_eq,decide_eq_false_iff_not] at h hc;exact h hc.1.1.1
theorem M.rin_no2{c m:Int}{ps:List Pt}{n:Nat}{b:Option Int}(h:Ax m 1 (60-(n:Int))=false):Lo (⟨c,m⟩::ps) n b=none:=by
 rw[Lo,if_neg];intro hc;simp only[Ax,Bool.and_eq_true,decide_eq_true_eq,decide_eq_false_iff_not] at h hc;exact h ⟨hc.1.1.2,hc.1.2⟩
theorem M.rin_no3{c m:Int}{ps:List Pt}{n:Nat}{b:Option Int}(h:b=some c):Lo (⟨c,m⟩::ps) n b=none:=by
 rw[Lo,if_neg];intro hc;simp only[Bool.and_eq_true,decide_eq_true_eq] at hc;exact hc.2 h
theorem M.rin_go{c m:Int}{ps:List Pt}{n:Nat}{b:Option Int}(h1:Ax c 0 9=true)(h2:Ax m 1 (60-(n:Int))=true)(h3:b≠some c):Lo (⟨c,m⟩::ps) n b=(Lo ps (n+m.toNat) (some c)).map (List.replicate m.toNat c++·):=by
 simp only[Ax,decide_eq_true_eq] at h1 h2;rw[Lo,if_pos];simp only[Bool.and_eq_true,decide_eq_true_eq];exact⟨⟨⟨h1,h2.1⟩,h2.2⟩,h3⟩
theorem OE(A:Option Addr)(n cap:Nat)(ps:List Pt)(w:World)(Y:Parts w A n ps)(hn:n<=281474976710656) :
 Calls Tryz.prog 63 #[.slice A n cap] w (Ia w (AH ps)):=by
 have hl:=hid Y.1;have Y:=hid Y;have O:(w.alloc (.cells #[] 89)).ownsRow w.heap.size 89 3 (.slice (some ⟨w.heap.size,0,none⟩) 0 0) ([]:List Int).length (AZ (([]:List Int).map Fx)):=Bl w w.heap.size w.heap.size rfl (Nat.le_refl _);have B:=Ab (Ac w) (.cells #[] 89);go_enter Tryz.func63,Tryz.ntmps63;go_wp2
 go_loopw [4,5] (OI w n ps) (fun _ i _=>n-(RowKit.intOf i).toNat)
 case atStart=>exact⟨0,[],Nat.zero_le _,rfl,O,by simp,by simp[before],B⟩
 case round =>
  clear O B;obtain⟨k,cs,hk,rfl,O,h60,hr,B⟩:=hrel;by_cases hlt:k<n
  rotate_left
  . obtain rfl:k=n:=by omega
    have e1:AH ps=some (cs.map Fx):=by
     rw[AH,hr,List.drop_of_length_le (by rw[hl.out]; omega)];simp[Lo]
    replace O:=hid O;replace B:=hid B;have e1:=hid e1;clear hr;go_wp2;refine bodyPost_ret (v:=.tuple #[_,.bool true]) (by simp[results,Tryz.results63,go_sem]; rfl) rfl ⟨_,by rw[e1.out]; rfl,?_,B.out⟩;rw[e1.out,Option.getD_some,List.length_map];exact O.out
  obtain⟨b,off,rfl,hb,hc⟩:=Y.out.2 (by omega);obtain⟨c0,c1⟩:=(hc k hlt).of (B.block b hb);have hkl:k<ps.length:=by have:=hl.out; omega
  rw[drop_pt hkl] at hr;have cp:∀ k',k=k'+1->∀ W:World,Below w.heap.size w W->W.cell? ⟨b,off+k'*2,none⟩=some (.int .i64 (ps.getD k' pz).c):=fun k' e W BB=>((hc k' (by omega)).of (BB.block b hb)).c0;have cq:∀ W:World,Below w.heap.size w W->W.cell? ⟨b,off+k*2,none⟩=some (.int .i64 (ps.getD k pz).c)/\W.cell? ⟨b,off+k*2+1,none⟩=some (.int .i64 (ps.getD k pz).m):=fun W BB=>⟨((hc k hlt).of (BB.block b hb)).c0,((hc k hlt).of (BB.block b hb)).c1⟩;have hbn:before ps (k+1)=some (ps.getD k pz).c:=rfl;clear hc;generalize ps.getD k pz=q at *;obtain⟨c,m⟩:=q;dsimp only at c0 c1 cq hbn
  have bad:(Lo (⟨c,m⟩::ps.drop (k+1)) cs.length (before ps k)=none)->AH ps=none:=fun e=>by rw[AH,hr,e]; rfl
  replace O:=hid O;replace B:=hid B;replace hr:=hid hr;replace bad:=hid bad;replace cp:=hid cp;replace cq:=hid cq;replace hbn:=hid hbn;go_wp2_with fail;refine(HJ c _).mono ?_;rintro e w1 ⟨rfl,B1⟩;replace O:=hid (As O.out B1);replace B:=hid (Aa B.out B1);clear B1 c0 c1;obtain⟨A1,ca,hv1,_,_⟩:=Inputs.of_own O.out;subst hv1;go_upto_region 6 with fail;refine Aw (fun W'=>W'.ownsRow w.heap.size 89 3 (.slice A1 cs.length ca) cs.length (AZ (cs.map Fx))/\CellsAt W' w1.heap.size [.int .i64 (F5 c),.int .i64 (F6 c),.bool (G4 c)]/\Below w.heap.size w W') ⟨O.out.alloc _,CellsAt.new _ _ _ _ rfl,Ab B.out _⟩ ?_
  have hsb:(Value.slice A1 cs.length ca).ownBlock≠some w1.heap.size:=fun e=>by have:=(O.out.lt _ e).2; omega
  have hsw:w.heap.size<=w1.heap.size:=B.out.size;clear O B;generalize w1.heap.size=sb at *;rintro w2 ⟨O,X,B⟩;replace O:=hid O;replace X:=hid X;replace B:=hid B;have hsb:=hid hsb;cases hok:Ax c 0 9
  . have e:=hid (bad.out (rin_no1 hok));clear bad cp cq hr
    go_quiet (fail)
    go_wp2;refine bodyPost_ret (v:=.tuple #[_,.bool false]) (by simp[results,Tryz.results63,go_sem]; rfl) rfl ⟨_,by rw[e.out]; rfl,?_,Ab (AY B.out _) _⟩;rw[e.out];exact Bl _ _ _ rfl (AY B.out _).size
  cases hm:Ax m 1 (60-(cs.length:Int))
  . have e:=hid (bad.out (rin_no2 hm));obtain⟨c0,c1⟩:=cq.out w2 B.out;have hm:=hid hm;have hw:IntKind.i64.wrap (60-(cs.length:Int))=60-(cs.length:Int):=IntWalk.i64_in _ (by omega);clear bad cp cq hr
    go_quiet ((go_at_call 41; exact OC (Ak m 1 (60-(cs.length:Int)) false _ hm.out)))
    go_wp2;refine bodyPost_ret (v:=.tuple #[_,.bool false]) (by simp[results,Tryz.results63,go_sem]; rfl) rfl ⟨_,by rw[e.out]; rfl,?_,Ab (AY B.out _) _⟩;rw[e.out];exact Bl _ _ _ rfl (AY B.out _).size
  have hok:=hid hok;have hm:=hid hm;have hw:IntKind.i64.wrap (60-(cs.length:Int))=60-(cs.length:Int):=IntWalk.i64_in _ (by omega);have after:∀(W:World),W.ownsRow w.heap.size 89 3 (.slice A1 cs.length ca) cs.length (AZ (cs.map Fx))->CellsAt W sb [.int .i64 (F5 c),.int .i64 (F6 c),.bool (G4 c)]->Below w.heap.size w W->before ps k≠some c ->
   OP w sb m.toNat cs c [.int .i64 (F5 c),.int .i64 (F6 c),.bool (G4 c)] (.slice A1 cs.length ca) (.int .i64 0) W/\(1<=m/\m<=60-(cs.length:Int))/\Lo ps 0 none=(Lo (ps.drop (k+1)) (cs.length+m.toNat) (before ps (k+1))).map (cs++List.replicate m.toNat c++·):=by
   intro W O X B hne;refine⟨⟨0,Nat.zero_le _,rfl,by simpa using O,hsb.out,X,B⟩,by simpa[Ax] using hm.out,?_⟩;rw[hr.out,rin_go (ps:=ps.drop (k+1)) hok.out hm.out hne,hbn.out,Option.map_map];congr 1;funext x;simp
  have after:=hid after;by_cases h0:k=0
  . obtain⟨c0,c1⟩:=cq.out w2 B.out;have hne:before ps k≠some c:=by rw[h0]; simp[before]
    have hne:=hid hne;have g1:decide ((k:Int)>0)=false:=decide_eq_false (by omega);have g2:decide (0<k)=false:=decide_eq_false (by omega);clear bad hr h0
    go_quiet ((go_at_call 41; exact OC (Ak m 1 (60-(cs.length:Int)) true _ hm.out)))
    clear g1 g2;obtain⟨J,⟨m1,m2⟩,hr2⟩:=after.out (w2.drewN nq) O.out (X.out.step (AY (Ac w2) nq)) (AY B.out nq) hne.out;replace hr2:=hid hr2;obtain⟨mn,hmn⟩:∃ mn:Nat,m.toNat=mn:=⟨_,rfl⟩;have hmi:m=(mn:Int):=by omega
    subst hmi;have hmn:=hid hmn;have hrel2:=hid J;clear O X B after c0 c1 hsb hne hok hm J hw;generalize w2.drewN nq=w3 at *;go_wp2
    go_loopw [4,8] (OP w sb mn cs c [.int .i64 (F5 c),.int .i64 (F6 c),.bool (G4 c)]) (fun _ i _=>mn-(RowKit.intOf i).toNat)
    case atStart=>exact hmn.out▸hrel2.out
    case round =>
     obtain⟨j,hj,rfl,O,hne,X,B⟩:=hrel;obtain⟨c0,c1⟩:=cq.out _ B;replace O:=hid O;replace X:=hid X;replace B:=hid B;clear hrel2;by_cases hlt2:j<mn
     . obtain⟨A2,ca2,hv2,_,_⟩:=Inputs.of_own O.out;subst hv2;obtain⟨x0,x1,x2⟩:=BL X.out;have hz:=B.out.size;have sl:=X.out.lt;go_wp2_with (at_builtin; refine CS _ rfl (.tmp 67) (.tmp 69) rfl w.heap.size (Value.slice A2 (cs.length+j) ca2) (cs.length+j) ((cs++List.replicate j c).map Fx) rfl (O.out.alloc _) (some ⟨wr.heap.size,0,none⟩) 1 1 [Fx c] rfl (Inputs.one wr wr.heap.size _ _ _ _ rfl) (by omega) (by simp; omega) ?_);intro v' w9 O9 G9 hB9;have B9:=(Ab B.out _).grown G9 (by simp; omega) (fun g' e=>(O.out.lt g' e).1);have X9:=(X.out.alloc _).grown G9 (fun e=>hne e)
       have O9:=(show w9.ownsRow w.heap.size 89 3 v' (cs.length+(j+1)) (AZ ((cs++List.replicate (j+1) c).map Fx)) from by
        rw[List.replicate_succ',List.map_append,List.map_append,List.map_singleton,List.map_replicate]; exact O9)
       have hne9:v'.ownBlock≠some sb:=by
        rcases hB9 with e | e
        . rw[e]; exact hne
        . rw[e]; intro e2; simp at e2; omega
       replace O9:=hid O9;replace B9:=hid B9;replace X9:=hid X9;replace hne9:=hid hne9;clear G9 O B X hB9 hne x0 x1 x2 c0 c1 sl;go_wp2
       go_roundw
       case rel=>exact⟨j+1,by omega,by go_num,O9.out,hne9.out,X9.out,B9.out⟩
       case measure=>simp[RowKit.intOf]; omega
     . obtain rfl:j=mn:=by omega
       have fin:OI w n ps u4 (.int .i64 ((k+1:Nat):Int)) wr:=⟨k+1,cs++List.replicate j c,by omega,rfl,by simpa using O.out,by simp; omega,by
        rw[hr2.out,hmn.out]; simp,B.out⟩
       have fin:=hid fin;clear O X B hne cp hbn;go_wp2
       go_roundw
       case rel=>exact fin.out
       case measure=>simp[RowKit.intOf]; omega
  . obtain⟨k',hk'⟩:∃ k',k=k'+1:=⟨k-1,by omega⟩;obtain⟨c0,c1⟩:=cq.out w2 B.out;have cb:=cp.out k' hk' w2 B.out;have hw2:IntKind.i64.wrap ((k:Int)-1)=(k':Int):=by rw[IntWalk.i64_in _ (by omega)]; omega
    have hbe:before ps k=some (ps.getD k' pz).c:=by rw[hk']; rfl
    have g1:decide ((k:Int)>0)=true:=decide_eq_true (by omega);have g2:decide (0<k)=true:=decide_eq_true (by omega);have k0:0<=(k:Int)-1:=by omega
    have k1:(k':Int)<(n:Int):=by omega
    have hbe:=hid hbe;clear hk';generalize (ps.getD k' pz).c=pc at *;by_cases hpc:pc=c
    . subst hpc;have e:=hid (bad.out (rin_no3 hbe.out));clear bad hr cp cq
      go_quiet ((go_at_call 41; exact OC (Ak m 1 (60-(cs.length:Int)) true _ hm.out)))
      go_wp2;refine bodyPost_ret (v:=.tuple #[_,.bool false]) (by simp[results,Tryz.results63,go_sem]; rfl) rfl ⟨_,by rw[e.out]; rfl,?_,Ab (AY B.out _) _⟩;rw[e.out];exact Bl _ _ _ rfl (AY B.out _).size
    have hd:(pc==c)=false:=by simpa using hpc
    have hne:before ps k≠some c:=by rw[hbe.out]; simpa using hpc
    have hne:=hid hne;clear bad hr hpc
    go_quiet ((go_at_call 41; exact OC (Ak m 1 (60-(cs.length:Int)) true _ hm.out)))
    clear g1 g2 cb hw2 k0 k1 hd hbe;obtain⟨J,⟨m1,m2⟩,hr2⟩:=after.out (w2.drewN nq) O.out (X.out.step (AY (Ac w2) nq)) (AY B.out nq) hne.out;replace hr2:=hid hr2;obtain⟨mn,hmn⟩:∃ mn:Nat,m.toNat=mn:=⟨_,rfl⟩;have hmi:m=(mn:Int):=by omega
    subst hmi;have hmn:=hid hmn;have hrel2:=hid J;clear O X B after c0 c1 hsb hne hok hm J hw;generalize w2.drewN nq=w3 at *;go_wp2
    go_loopw [4,8] (OP w sb mn cs c [.int .i64 (F5 c),.int .i64 (F6 c),.bool (G4 c)]) (fun _ i _=>mn-(RowKit.intOf i).toNat)
    case atStart=>exact hmn.out▸hrel2.out
    case round =>
     obtain⟨j,hj,rfl,O,hne,X,B⟩:=hrel;obtain⟨c0,c1⟩:=cq.out _ B;replace O:=hid O;replace X:=hid X;replace B:=hid B;clear hrel2;by_cases hlt2:j<mn
     . obtain⟨A2,ca2,hv2,_,_⟩:=Inputs.of_own O.out;subst hv2;obtain⟨x0,x1,x2⟩:=BL X.out;have hz:=B.out.size;have sl:=X.out.lt;go_wp2_with (at_builtin; refine CS _ rfl (.tmp 67) (.tmp 69) rfl w.heap.size (Value.slice A2 (cs.length+j) ca2) (cs.length+j) ((cs++List.replicate j c).map Fx) rfl (O.out.alloc _) (some ⟨wr.heap.size,0,none⟩) 1 1 [Fx c] rfl (Inputs.one wr wr.heap.size _ _ _ _ rfl) (by omega) (by simp; omega) ?_);intro v' w9 O9 G9 hB9;have B9:=(Ab B.out _).grown G9 (by simp; omega) (fun g' e=>(O.out.lt g' e).1);have X9:=(X.out.alloc _).grown G9 (fun e=>hne e)
       have O9:=(show w9.ownsRow w.heap.size 89 3 v' (cs.length+(j+1)) (AZ ((cs++List.replicate (j+1) c).map Fx)) from by
        rw[List.replicate_succ',List.map_append,List.map_append,List.map_singleton,List.map_replicate]; exact O9)
       have hne9:v'.ownBlock≠some sb:=by
        rcases hB9 with e | e
        . rw[e]; exact hne
        . rw[e]; intro e2; simp at e2; omega
       replace O9:=hid O9;replace B9:=hid B9;replace X9:=hid X9;replace hne9:=hid hne9;clear G9 O B X hB9 hne x0 x1 x2 c0 c1 sl;go_wp2
       go_roundw
       case rel=>exact⟨j+1,by omega,by go_num,O9.out,hne9.out,X9.out,B9.out⟩
       case measure=>simp[RowKit.intOf]; omega
     . obtain rfl:j=mn:=by omega
       have fin:OI w n ps u4 (.int .i64 ((k+1:Nat):Int)) wr:=⟨k+1,cs++List.replicate j c,by omega,rfl,by simpa using O.out,by simp; omega,by
        rw[hr2.out,hmn.out]; simp,B.out⟩
       have fin:=hid fin;clear O X B hne cp hbn;go_wp2
       go_roundw
       case rel=>exact fin.out
       case measure=>simp[RowKit.intOf]; omega
end Go.Proofs.YtgbiagonfbnooaaGreatDoor
