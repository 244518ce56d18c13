import Derived.Test.YtgbiagonfbnooaaGreatDoorZBoxP
import Derived.RangeFuncNested
import Derived.RangeFuncBound
import Derived.RangeFuncCalls
import Derived.RangeFuncLeaves
import Derived.Shelf.Abstract
import Derived.Shelf.RegionOpen
import Derived.Stop.RegionWithIn
import Derived.OwnWalkIn
import Derived.TacticsInMore
import Derived.LoopNIn
import Derived.LoopIn
import Derived.Deep.LoopGhost
import Derived.Test.YtgbiagonfbnooaaGreatDoorZBans
set_option linter.all false
set_option maxRecDepth 100000
set_option maxHeartbeats 8000000
open Go.Lib
namespace Go.Proofs.YtgbiagonfbnooaaGreatDoor
open Go.RowKit Go.Shelf
open M
attribute [local go_sem] Oper.semAt_some
structure KpW(m r:Nat)(A B:World):Prop where
 os:B.os=A.os
 tape:B.tape=A.tape
 output:B.output=A.output
 size:A.heap.size<=B.heap.size
 block:∀ k,k<m->k<A.heap.size->k≠r->B.heap[k]?=A.heap[k]?
theorem KpW.refl(m r:Nat)(W:World):KpW m r W W:=⟨rfl,rfl,rfl,Nat.le_refl _,fun _ _ _ _=>rfl⟩
theorem KpW.trans{m r:Nat}{A B C:World}(h:KpW m r A B)(k:KpW m r B C):KpW m r A C :=
 ⟨k.os.trans h.os,k.tape.trans h.tape,k.output.trans h.output,Nat.le_trans h.size k.size,fun i hi hs hr=>(k.block i hi (Nat.lt_of_lt_of_le hs h.size) hr).trans (h.block i hi hs hr)⟩
theorem KpW.grown{m r:Nat}{A B:World}{row:Option Nat}(hg:A.grownBy B row)(hr:∀ g,row=some g->m<=g\/g=r):KpW m r A B :=
 ⟨hg.os,hg.tape,hg.output,hg.size,fun k hk hs hne=>hg.block k hs (fun e=>by rcases hr k e.symm with h | h<;>omega)⟩
theorem KpW.put{m r:Nat}{w:World}(hm:m<=w.heap.size)(W:World)(l:Nat)(o o':Obj)(hl:w.heap.size<=l)(_:W.heap[l]?=some o)(_:o.isCells=false)(_:o.isWalk=false):KpW m r W (W.putObj l o') :=
 KpW.grown (grownBy_putObj' W l o') (fun g e=>by cases e; exact .inl (by omega))
theorem KpW.below{m r:Nat}{A B:World}(B':Below A.heap.size A B):KpW m r A B:=⟨B'.os,B'.tape,B'.output,B'.size,fun k _ hs _=>B'.block k hs⟩
theorem KpW.set{m r:Nat}{A B:World}(h:KpW m r A B)(o:Nat)(v:Value):KpW m r A (B.setCell ⟨r,o,none⟩ v) :=
 ⟨h.os,h.tape,h.output,by simpa[World.setCell] using h.size,fun k hk hs hne=>(Below.heap_setCell B ⟨r,o,none⟩ v k hne).trans (h.block k hk hs hne)⟩
def dn(n j:Nat):List Nat:=(List.range (n-j)).map fun t=>n-1-t
theorem JN(n:Nat):dn n n=[]:=by simp[dn]
theorem JO(n j:Nat):(dn n j).length=n-j:=by simp[dn]
theorem HK{n i:Nat}(h:i<n):dn n i=dn n (i+1)++[i]:=by
 unfold dn;have e:n-i=(n-(i+1))+1:=by omega
 rw[e,List.range_succ,List.map_append];simp;omega
def gd(bs:List Bx)(j:Nat):Bx:=bs.getD j bz
theorem CellsAt.own{W W':World}{row:Option Nat}{b:Nat}{v0:Value}{vs:List Value}(h:CellsAt W b (v0::vs))(hg:W.grownBy W' row)(hr:∀ r,row=some r->∃ o:Obj,W.heap[r]?=some o/\o.isCells=false):CellsAt W' b (v0::vs):=by
 obtain⟨o,ho,hc⟩:=cells_of_cell (h.cell 0 v0 rfl);exact h.of (grownBy_keeps_cells hg hr ho hc) hg.size
theorem Cr{W W':World}(B:Below W.heap.size W W'):KeepsOthers W W':=⟨B.size,fun k _ hk _=>(B.block k (Array.getElem?_eq_some_iff.1 hk).1).trans hk⟩
end Go.Proofs.YtgbiagonfbnooaaGreatDoor
namespace Go.Proofs.YtgbiagonfbnooaaGreatDoor
open Go.RowKit
open M
theorem JP{n lo hi:Int}(h:n<lo):Ax n lo hi=false:=Cs (by omega)
theorem HM{n lo hi:Int}(h:hi<n):Ax n lo hi=false:=Cs (by omega)
open Go.RowKit
open Go.Maps
open M
theorem Et(s p:Int)(z:Bool)(w:World):Calls Tryz.prog 52 #[BK s p z] w fun e w'=>e=.returned (.bool (Bm s p z))/\Below w.heap.size w w':=by
 cases z
 . by_cases s0:s< -1
   . have ds:decide ((-1:Int)<=s)=false:=decide_eq_false (by omega);have E:=hid (show Bm s p false=false by simp[Bm,JP s0]);go_enter Tryz.func52,Tryz.ntmps52;go_wp2;go_ret;exact⟨Al (by rw[E.out]),Ab (Ac w) _⟩
   have s0:-1<=s:=by omega
   by_cases s1:1<s
   . have ds:decide (s<=(1:Int))=false:=decide_eq_false (by omega);have E:=hid (show Bm s p false=false by simp[Bm,HM s1]);go_enter Tryz.func52,Tryz.ntmps52;go_wp2;go_ret;exact⟨Al (by rw[E.out]),Ab (Ac w) _⟩
   have s1:s<=1:=by omega
   by_cases p0:p<0
   . have dp:decide ((0:Int)<=p)=false:=decide_eq_false (by omega);have E:=hid (show Bm s p false=false by simp[Bm,JP p0]);go_enter Tryz.func52,Tryz.ntmps52;go_wp2;go_ret;exact⟨Al (by rw[E.out]),Ab (Ac w) _⟩
   have p0:0<=p:=by omega
   by_cases p1:2<p
   . have dp:decide (p<=(2:Int))=false:=decide_eq_false (by omega);have E:=hid (show Bm s p false=false by simp[Bm,HM p1]);go_enter Tryz.func52,Tryz.ntmps52;go_wp2;go_ret;exact⟨Al (by rw[E.out]),Ab (Ac w) _⟩
   have p1:p<=2:=by omega
   have E:=hid (show Bm s p false=true by simp[Bm,De (n:=s) (lo:=-1) (hi:=1) ⟨s0,s1⟩,De (n:=p) (lo:=0) (hi:=2) ⟨p0,p1⟩]);go_enter Tryz.func52,Tryz.ntmps52;go_wp2;go_ret;exact⟨Al (by rw[E.out]),Ab (Ac w) _⟩
 . by_cases hs:s=0
   . subst hs;by_cases hp:p=0
     . subst hp;have E:=hid (show Bm 0 0 true=true by decide);go_enter Tryz.func52,Tryz.ntmps52;go_wp2;go_ret;exact⟨Al (by rw[E.out]),Ab (Ac w) _⟩
     . have dp:(p==0)=false:=beq_eq_false_iff_ne.2 hp;have E:=hid (show Bm 0 p true=false by simp[Bm,hp]);clear hp;go_enter Tryz.func52,Tryz.ntmps52;go_wp2;go_ret;exact⟨Al (by rw[E.out]),Ab (Ac w) _⟩
   . have ds:(s==0)=false:=beq_eq_false_iff_ne.2 hs;have E:=hid (show Bm s p true=false by simp[Bm,hs]);clear hs;go_enter Tryz.func52,Tryz.ntmps52;go_wp2;go_ret;exact⟨Al (by rw[E.out]),Ab (Ac w) _⟩
theorem IL(s p:Int)(z:Bool)(w:World):Calls Tryz.prog 66 #[BK s p z] w fun e w'=>e=.returned (.int .i64 (Nv s p z))/\Below w.heap.size w w':=by
 have V:=fun W=>Et s p z W;cases h:Bm s p z
 . rw[h] at V;have E:=hid (Nw h);have V:=hid V;clear h;go_enter Tryz.func66,Tryz.ntmps66;go_wp2_with fail;refine(V.out _).mono ?_;rintro e w1 ⟨rfl,B⟩;have H:=hid (Aa (Ab (Ac w) _) B);clear B;go_wp2;go_ret;exact⟨AN (by rw[E.out]),H.out⟩
 . obtain⟨⟨s1,s2⟩,⟨p1,p2⟩,hz⟩:=Dc h;rw[h] at V;have E:=hid (JM h);have V:=hid V;clear h;cases z
   . clear hz;go_enter Tryz.func66,Tryz.ntmps66;go_wp2_with fail;refine(V.out _).mono ?_;rintro e w1 ⟨rfl,B⟩;have P:CellsAt w1 w.heap.size (AF s p false):=(CellsAt.new w _ _ _ rfl).step B;have H:=hid (Aa (Ab (Ac w) _) B);clear B;obtain⟨c0,c1,c2⟩:=BL P;have l1:=P.lt;go_wp2;go_ret;exact⟨AN (by rw[E.out]; rfl),H.out⟩
   . obtain⟨rfl,rfl⟩:=hz rfl;go_enter Tryz.func66,Tryz.ntmps66;go_wp2_with fail;refine(V.out _).mono ?_;rintro e w1 ⟨rfl,B⟩;have P:CellsAt w1 w.heap.size (AF 0 0 true):=(CellsAt.new w _ _ _ rfl).step B;have H:=hid (Aa (Ab (Ac w) _) B);clear B;obtain⟨c0,c1,c2⟩:=BL P;have l1:=P.lt;go_wp2;go_ret;exact⟨AN (by rw[E.out]; rfl),H.out⟩
theorem LB(n:Int)(w:World):Calls Tryz.prog 49 #[.int .i64 n] w fun e w'=>e=.returned (.tuple #[BK (F5 n) (F6 n) (G4 n),.bool (Ax n 0 9)])/\Below w.heap.size w w':=by
 cases h:Ax n 0 9
 . have hh:¬ (0<=n/\n<=9):=by simpa[Ax] using h
   have h8:Ax n 0 8=false:=Cs (by omega);have h9:¬ n=9:=by omega
   have e0:F5 n=0:=by simp[F5,h8]
   have e1:F6 n=0:=by simp[F6,h8]
   have e2:G4 n=false:=by simp[G4,h9]
   rw[e0,e1,e2];clear h h8 h9 e0 e1 e2;by_cases g:n<0
   . go_enter Tryz.func49,Tryz.ntmps49;go_wp2;exact bodyPost_ret (v:=.tuple #[BK 0 0 false,.bool false]) (by simp[results,Tryz.results49,go_sem]) rfl ⟨rfl,(by repeat (first | exact Ac _ | refine Ab ?_ _ | refine Ar ?_ _ _ _ (by omega)))⟩
   . have g0:decide (n<0)=false:=decide_eq_false g;have g1:9<n:=by omega
     go_enter Tryz.func49,Tryz.ntmps49;go_wp2;exact bodyPost_ret (v:=.tuple #[BK 0 0 false,.bool false]) (by simp[results,Tryz.results49,go_sem]) rfl ⟨rfl,(by repeat (first | exact Ac _ | refine Ab ?_ _ | refine Ar ?_ _ _ _ (by omega)))⟩
 . rcases Mp h with rfl | rfl | rfl | rfl | rfl | rfl | rfl | rfl | rfl | rfl
   all_goals
    clear h;go_enter Tryz.func49,Tryz.ntmps49;go_wp2;exact bodyPost_ret (by simp[results,Tryz.results49,go_sem]; decide) rfl ⟨rfl,(by repeat (first | exact Ac _ | refine Ab ?_ _ | refine Ar ?_ _ _ _ (by omega)))⟩
end Go.Proofs.YtgbiagonfbnooaaGreatDoor
namespace Go.Proofs.YtgbiagonfbnooaaGreatDoor
open Go.RowKit Go.Shelf
open M
attribute [local go_sem] Oper.semAt_some
theorem KpW.setHi{m r:Nat}{A B:World}(h:KpW m r A B){b:Nat}(o:Nat)(v:Value)(hb:m<=b):KpW m r A (B.setCell ⟨b,o,none⟩ v) :=
 ⟨h.os,h.tape,h.output,by simpa[World.setCell] using h.size,fun k hk hs hne=>(Below.heap_setCell B ⟨b,o,none⟩ v k (by show k≠b; omega)).trans (h.block k hk hs hne)⟩
def ChainP(W:World)(lo:Nat):Nat->List Pt->Value->Prop
 | _,[],v=>v=.pointer none
 | hi,q::qs,v=>∃(g:Nat) (nx:Option Addr),v=.pointer (some ⟨g,0,none⟩)/\lo<=g/\g<hi/\CellsAt W g [.int .i64 q.c,.int .i64 q.m,.pointer nx]/\ChainP W lo g qs (.pointer nx)
theorem ChainP.own{W W':World}{row:Option Nat}{lo:Nat}(hg:W.grownBy W' row)(hr:∀ r,row=some r->∃ o:Obj,W.heap[r]?=some o/\o.isCells=false):∀{qs:List Pt} {hi:Nat} {v:Value},ChainP W lo hi qs v->ChainP W' lo hi qs v
 | [],_,_,h=>h
 | _::_,_,_,h=>by
  obtain⟨g,nx,e,hl,hh,hc,ht⟩:=h;exact⟨g,nx,e,hl,hh,hc.own hg hr,ChainP.own hg hr ht⟩
theorem ChainP.step{W W':World}{lo:Nat}(B:Below W.heap.size W W'):∀{qs:List Pt} {hi:Nat} {v:Value},ChainP W lo hi qs v->ChainP W' lo hi qs v
 | [],_,_,h=>h
 | _::_,_,_,h=>by
  obtain⟨g,nx,e,hl,hh,hc,ht⟩:=h;exact⟨g,nx,e,hl,hh,hc.step B,ChainP.step B ht⟩
theorem ChainP.far{W:World}{lo r:Nat}(o:Nat)(u:Value):∀{qs:List Pt} {hi:Nat} {v:Value},(r<lo\/hi<=r)->ChainP W lo hi qs v->ChainP (W.setCell ⟨r,o,none⟩ u) lo hi qs v
 | [],_,_,_,h=>h
 | _::_,_,_,hr,h=>by
  obtain⟨g,nx,e,hl,hh,hc,ht⟩:=h;exact⟨g,nx,e,hl,hh,hc.far (by omega) _ _,ChainP.far o u (by omega) ht⟩
theorem ChainP.grown{W W':World}{row:Option Nat}{lo:Nat}(hg:W.grownBy W' row):∀{qs:List Pt} {hi:Nat} {v:Value},(∀ g,row=some g->g<lo\/hi<=g)->ChainP W lo hi qs v->ChainP W' lo hi qs v
 | [],_,_,_,h=>h
 | _::_,_,_,hr,h=>by
  obtain⟨g,nx,e,hl,hh,hc,ht⟩:=h;exact⟨g,nx,e,hl,hh,hc.grown hg (fun e'=>by have:=hr _ e'; omega),ChainP.grown hg (fun g' e'=>by have:=hr _ e'; omega) ht⟩
theorem ChainP.alloc{W:World}{lo hi:Nat}(o:Obj){qs:List Pt}{v:Value}(h:ChainP W lo hi qs v):ChainP (W.alloc o) lo hi qs v:=ChainP.step (Ab (Ac W) o) h
theorem ChainP.drew{W:World}{lo hi:Nat}{qs:List Pt}{v:Value}(h:ChainP W lo hi qs v):ChainP W.drew lo hi qs v:=ChainP.step (Ac W).drew h
theorem ChainP.low{W:World}{lo lo' hi hi':Nat}(hl:lo'<=lo)(hh:hi<=hi'):∀{qs:List Pt} {v:Value},ChainP W lo hi qs v->ChainP W lo' hi' qs v
 | [],_,h=>h
 | _::qs,_,h=>by
  obtain⟨g,nx,e,h1,h2,hc,ht⟩:=h;exact⟨g,nx,e,by omega,by omega,hc,ChainP.low hl (Nat.le_refl _) ht⟩
theorem ChainP.cons{W:World}{lo hi:Nat}{q:Pt}{qs:List Pt}{v:Value}(h:ChainP W lo hi (q::qs) v):∃(g:Nat) (nx:Option Addr),v=.pointer (some ⟨g,0,none⟩)/\lo<=g/\g<hi/\CellsAt W g [.int .i64 q.c,.int .i64 q.m,.pointer nx]/\ChainP W lo g qs (.pointer nx):=h
def HP(w:World)(qs:List Pt)(e:Ending)(w':World):Prop :=
 ∃ p,e=.returned (.pointer p)/\ChainP w' w.heap.size w'.heap.size qs (.pointer p)/\Below w.heap.size w w'
def SrcIn(r:Nat)(A:Option Addr)(n c:Nat)(bs:List In)(W:World):Prop :=
 r+1<W.heap.size/\W.cell? ⟨r+1,0,none⟩=some (.slice A n c)/\bs.length=n/\(0<n->∃ b off,A=some ⟨b,off,none⟩/\b<r/\∀ k,k<n->InAt W b (off+k*3) (bs.getD k iz))
theorem SrcIn.kp{r:Nat}{A:Option Addr}{n c:Nat}{bs:List In}{W W':World}(h:SrcIn r A n c bs W)(K:KpW (r+2) r W W'):SrcIn r A n c bs W' :=
 ⟨Nat.lt_of_lt_of_le h.1 K.size,(World.cell?_of_block (a:=⟨r+1,0,none⟩) (K.block (r+1) (by omega) h.1 (by omega))).trans h.2.1,h.2.2.1,fun hn=>by
  obtain⟨b,off,e,hb,hc⟩:=h.2.2.2 hn;exact⟨b,off,e,hb,fun k hk=>(hc k hk).of (K.block b (by omega) (by have:=h.1; omega) (by omega))⟩⟩
theorem MV(A:Option Addr)(n c:Nat)(w:World):Calls Tryz.prog 65 #[.slice A n c] w fun e w'=>e=.returned (.func (.func 93) #[] #[.pointer (some ⟨w.heap.size,0,none⟩)])/\w.alloc (.cells #[.slice A n c] 23)=w':=by
 have hmf:∀(fn:Fn) (first cap:Array Value) (w:World),(Instr.makeFunc fn first cap).run Tryz.prog w=.ok (.func fn first cap) w:=fun _ _ _ _=>rfl;go_enter Tryz.func65,Tryz.ntmps65;go_wp2;go_ret;exact⟨rfl,rfl⟩
def Be(bs:List In)(j:Nat):In:=bs.getD j iz
theorem JQ{bs:List In}{n:Nat}(h:bs.length=n):(dn n 0).reverse.map (Be bs)=bs:=by
 have e:(dn n 0).reverse=List.range n:=by
  apply List.ext_getElem
  . simp[dn]
  . intro i h1 h2;simp[dn] at h1 h2 ⊢;omega
 rw[e];apply List.ext_getElem
 . simp[h]
 . intro i h1 h2;simp[Be,List.getD_eq_getElem?_getD,List.getElem?_eq_getElem h2]
abbrev HQ(bs:List In)(j:Nat):Array Value:=#[.int .i64 j,.agg #[.int .i64 (Be bs j).s,.int .i64 (Be bs j).p,.bool (Be bs j).z]]
theorem FK(nn r:Nat)(hnn:1<=nn)(A:Option Addr)(n c:Nat)(bs:List In)(w:World)(hs:r+2<=w.heap.size)(hQ:SrcIn r A n c bs w)(hn:n<=281474976710656) :
 SeqStopsK Fence.wide nn Tryz.prog 93 #[.pointer (some ⟨r+1,0,none⟩)] (HQ bs) (KpW (r+2) r) (fun xs=>xs=dn n 0) (fun _=>True) n w:=fun l J Jx W hW hJ hJx hY h0=>by
 have hQW:=hQ.kp (KpW.below hW);have s1:=hQW.2.1;have s0:=hQW.1;refine callsIn_of_wp Tryz.func93 rfl trivial ?_ rfl;simp only[Tryz.ntmps93,List.size_toArray,List.length_cons,List.length_nil,Nat.reduceAdd,Nat.reduceSub,Array.replicate_succ,Array.replicate_zero,List.push_toArray,List.append_toArray,List.nil_append,List.cons_append]
 gi_wp2
 gi_loopw [3] (fun p wr=>∃ j:Nat,j<=n/\p=.int .i64 ((j:Int)-1)/\J (dn n j) wr/\SrcIn r A n c bs wr) (fun p _=>(RowKit.intOf p+1).toNat)
 case atStart=>exact⟨n,Nat.le_refl _,rfl,by rw[JN]; exact h0,hQW⟩
 case round =>
  obtain⟨j,hj,rfl,hJr,hS⟩:=hrel;clear s1 s0;have s1:=hS.2.1;have s0:=hS.1;by_cases hz:j=0
  . subst hz
    gi_wp2
    go_end0
    exact⟨⟨_,rfl⟩,.inl ⟨_,rfl,hJr⟩⟩
  obtain⟨i,rfl⟩:∃ i,j=i+1:=⟨j-1,by omega⟩;have ei:((i+1:Nat):Int)-1=(i:Int):=by omega
  rw[ei];obtain⟨b,off,rfl,hb,hcell⟩:=hS.2.2.2 (by omega);obtain⟨c0,c1,c2⟩:=hcell i (by omega);clear hcell ei;obtain⟨fn,tmps,assign,body,hy,hR⟩:=hY (dn n (i+1)) i wr hJr (by rw[JO]; omega);dsimp only[HQ] at hy;change wr.cell? _=some (.int .i64 (Be bs i).s) at c0;change wr.cell? _=some (.int .i64 (Be bs i).p) at c1;change wr.cell? _=some (.bool (Be bs i).z) at c2;generalize Be bs i=z at hy c0 c1 c2;obtain⟨vs,vp,vz⟩:=z;simp only at hy c0 c1 c2;have hi0:(0:Int)<=(i:Int):=by omega
  have hin:(i:Int)<(n:Int):=by omega
  gi_wp2
  refine hR.mono ?_;rintro e W3 (⟨rfl,hJ3,hk3⟩ | ⟨rfl,hJx3⟩)
  . gi_wp2
    go_roundw
    case rel=>exact⟨i,by omega,rfl,by rw[HK (by omega)]; exact hJ3,hS.kp hk3⟩
    case measure=>first | (simp[RowKit.intOf]; done) | (simp[RowKit.intOf]; omega)
  . gi_wp2
    refine bodyPost_ret (results_none rfl _ _ _) rfl ?_;exact⟨⟨_,rfl⟩,.inr ⟨_,trivial,hJx3⟩⟩
def HR(w:World)(bs:List In)(pre:List Nat)(W:World):Prop :=
 (∃ p,CellsAt W w.heap.size [.pointer p]/\ChainP W (w.heap.size+2) W.heap.size (Ba (An (pre.reverse.map (Be bs)))) (.pointer p))/\Below w.heap.size w W/\w.heap.size+2<=W.heap.size
theorem M.gd_valid{bs:List In}(ok:Dz bs=true)(x:Nat):Bm (Be bs x).s (Be bs x).p (Be bs x).z=true:=by
 unfold Be;rcases Nat.lt_or_ge x bs.length with h | h
 . have:=List.all_eq_true.1 (AO.1 ok).1 bs[x] (List.getElem_mem h);rw[List.getD_eq_getElem?_getD,List.getElem?_eq_getElem h];exact this
 . rw[List.getD_eq_getElem?_getD,List.getElem?_eq_none h];rfl
theorem M.pts_head{cs:List Int}{p:Pt}{ps:List Pt}(h:Ba cs=p::ps):1<=p.m/\p.m<=cs.length:=by
 have h1:=Bv (by rw[<- h]; exact EF cs);have h2:=CK cs;rw[h] at h2;have h3:p.m.toNat<=cs.length:=by rw[<- h2]; simp[Cp]
 omega
theorem Ha(A:Option Addr)(n c:Nat)(bs:List In)(w:World)(I:Inputs w A n bs)(ok:Dz bs=true) :
 Calls Tryz.prog 38 #[.slice A n c] w (HP w (Ba (An bs))):=by
 have hl:=I.1;have hn60:n<=60:=by have:=(AO.1 ok).2; omega
 have hn:n<=281474976710656:=by omega
 have gv:=hid (gd_valid ok);refine(callsIn_wide (n:=5)).1 ?_;have hf:Fence.wide.fn 65:=trivial;refine callsIn_of_wp_marks Tryz.func38 rfl trivial ?_ rfl;simp only[Tryz.ntmps38,List.size_toArray,List.length_cons,List.length_nil,Nat.reduceAdd,Nat.reduceSub,Array.replicate_succ,Array.replicate_zero,List.push_toArray,List.append_toArray,List.nil_append,List.cons_append]
 gi_wp2_with (gi_at_call 65; refine(callsIn_wide.2 (MV _ _ _ _)).mono ?_; rintro e w' ⟨rfl,rfl⟩)
 have F0:CellsAt ((w.alloc (.cells #[.pointer none] 74)).alloc (.cells #[.slice A n c] 23)) w.heap.size [.pointer none]:=(CellsAt.new w _ _ _ rfl).alloc _;have hB0:Below w.heap.size w ((w.alloc (.cells #[.pointer none] 74)).alloc (.cells #[.slice A n c] 23)):=Ab (Ab (Ac w) _) _;have hQ:SrcIn w.heap.size A n c bs ((w.alloc (.cells #[.pointer none] 74)).alloc (.cells #[.slice A n c] 23)):=by
  refine⟨by simp,by simp,hl,fun h0=>?_⟩;obtain⟨b,off,e,hb,hc⟩:=I.2 h0;exact⟨b,off,e,hb,fun k hk=>(hc k hk).of (hB0.block b hb)⟩
 refine wpIn_rangeFunc_ownH rfl (by omega) (gf:=93) (lb:=#[.pointer (some ⟨w.heap.size+1,0,none⟩)]) rfl trivial (enters_of Tryz.func93 (by kernel_rfl) rfl)
  (FK _ w.heap.size (by omega) A n c bs _ (by simp) hQ hn) KpW.trans (KpW.put (by simp)) (Below.refl _ _) (fun _=>rfl)
  (HR w bs) (fun _ _ _=>False)
  (fun s X Y row hs hg hr=>⟨by
   obtain⟨p,hF,hC⟩:=hs.1;exact⟨p,hF.own hg (fun r e=>(hr r e).2),ChainP.low (Nat.le_refl _) hg.size (hC.own hg (fun r e=>(hr r e).2))⟩,ownFrom_below (Nat.le_refl _) (by simp; omega) () X Y row hs.2.1 hg hr,Nat.le_trans hs.2.2 hg.size⟩)
  (fun c s X Y row hs hg hr=>hs)
  ⟨⟨none,F0,rfl⟩,hB0,by simp⟩
  (fun x a' W=>∃ Bx,w.heap.size+1<Bx/\CellsAt W Bx [.int .i64 (Be bs x).s,.int .i64 (Be bs x).p,.bool (Be bs x).z]/\a'={ tmps:=#[.slice A n c,undef,.pointer none,.pointer (some ⟨w.heap.size,0,none⟩),undef,.pointer (some ⟨Bx,0,none⟩),undef,.slice A n c,.func (.func 93) #[] #[.pointer (some ⟨w.heap.size+1,0,none⟩)],.int .i64 x,.agg #[.int .i64 (Be bs x).s,.int .i64 (Be bs x).p,.bool (Be bs x).z],undef,undef,undef,undef,undef,undef,undef,undef,undef,undef,undef,undef,undef,undef,undef,undef,undef,undef,undef,undef,undef,undef,undef,undef,undef,undef,undef,undef],defers:=[] })
  (fun x a' _ X Y row hs hg hr=>by
   obtain⟨Bx,h1,h2,h3⟩:=hs;exact⟨Bx,h1,h2.own hg (fun r e=>(hr r e).2),h3⟩) ?assign ?body ?done ?stop
 case assign =>
  rintro l pre x W K ⟨⟨p,hF,hC⟩,hB,hsz⟩ hK
  gi_wp2
  exact hK _ _ ((KeepsOthers.alloc _ _).from _) (KpW.below (Ab (Ac W) _)) ⟨⟨p,hF.alloc _,ChainP.low (Nat.le_refl _) (by simp) (hC.alloc _)⟩,Ab hB _,by simp; omega⟩ ⟨W.heap.size,by omega,CellsAt.new _ _ _ _ rfl,rfl⟩
 case body =>
  rintro l pre x a' W hl ⟨rr,hr⟩ ⟨⟨p,hF,hC⟩,hB,hsz⟩ ⟨Bx,hBx,hx,rfl⟩ hlt;have hv:=gv.out x;have ex:An ((pre++[x]).reverse.map (Be bs))=Jl (Be bs x).s (Be bs x).p (Be bs x).z::An (pre.reverse.map (Be bs)):=by simp[An,IZ]
  have hlen:(An (pre.reverse.map (Be bs))).length<=60:=by simp[An]; omega
  generalize hz:Be bs x=z at *;have hz:=hid hz;obtain⟨vs,vp,vz⟩:=z;simp only at hv ex;have C:=fun W=>IL vs vp vz W;rw[JM hv] at C;generalize Jl vs vp vz=cd at *;have hh:=fun(q:Pt) (qs:List Pt) h=>pts_head (cs:=An (pre.reverse.map (Be bs))) (p:=q) (ps:=qs) h;have hnew:=fun h=>Mg (c:=cd) (cs:=An (pre.reverse.map (Be bs))) h;have hold:=fun m (qs:List Pt) h=>Mh (c:=cd) (m:=m) (cs:=An (pre.reverse.map (Be bs))) (ps:=qs) h
  have hI:∀(W':World) (p':Option Addr),CellsAt W' w.heap.size [.pointer p']->ChainP W' (w.heap.size+2) W'.heap.size (Ba (cd::An (pre.reverse.map (Be bs)))) (.pointer p')->Below w.heap.size w W'->w.heap.size+2<=W'.heap.size->HR w bs (pre++[x]) W':=fun W' p' a1 a2 a3 a4=>⟨⟨p',a1,by rw[ex]; exact a2⟩,a3,a4⟩;generalize An (pre.reverse.map (Be bs))=cs at *;obtain⟨x0,x1,x2⟩:=BL hx;simp only at x0 x1 x2;replace hC:=hid hC;replace hB:=hid hB;replace hI:=hid hI;replace hh:=hid hh;replace hnew:=hid hnew;replace hold:=hid hold;replace ex:=hid ex;replace C:=hid C;have hfc:Fence.wide.fn 66:=trivial
  gi_wp2_with (gi_at_call 66; fail)
  refine(callsIn_wide.2 (C.out _)).mono ?_;rintro e w3 ⟨rfl,B3⟩;have F3:=hF.step B3;have f0:=F3.cell 0 _ rfl;have f1:=F3.fr 0;have f2:=F3.lt;replace hC:=hid (ChainP.low (Nat.le_refl _) B3.size (ChainP.step B3 hC.out));have HB:=hid B3;have hsz3:=Nat.le_trans hsz B3.size;clear B3 x0 x1 x2 hx C hF;generalize hP:Ba cs=P at *;have hP:=hid hP;cases P with
  | nil =>
   obtain rfl:p=none:=by have:=hC.out; simpa[ChainP] using this
   gi_wp2
   exact⟨(((Cr HB.out).trans (KeepsOthers.setCell _ _ _)).trans (KeepsOthers.alloc _ _)).from _,((KpW.below HB.out).set _ _).trans (KpW.below (Ab (Ac _) _)),hI.out _ _ ((F3.set 0 (by simp) _).alloc _) (by rw[hnew.out rfl]; exact⟨w3.heap.size,none,rfl,by omega,by simp,CellsAt.new _ _ _ _ (by simp),rfl⟩) (Ab (Ar (Aa hB.out HB.out) _ _ _ (Nat.le_refl _)) _) (by simp; omega)⟩
  | cons q qs =>
   obtain⟨g,nx,e1,hg1,hg2,hG,hT⟩:=ChainP.cons hC.out;cases e1
   obtain⟨qc,qm⟩:=q;simp only at hG;obtain⟨m1,m2⟩:=hh.out _ _ rfl;simp only at m1 m2;have g0:=hG.cell 0 _ rfl;have g1:=hG.cell 1 _ rfl;have g2:=hG.fr 1;have g3:=hG.lt;have hw:IntKind.i64.wrap (qm+1)=qm+1:=IntWalk.i64_in _ (by omega);replace hG:=hid hG;replace hT:=hid hT;by_cases hcc:qc=cd
   . subst hcc;clear hnew
     gi_wp2
     exact⟨((Cr HB.out).trans (KeepsOthers.setCell _ _ _)).from _,(KpW.below HB.out).setHi _ _ (by omega),hI.out _ _ (F3.far (by omega) _ _) (by rw[hold.out qm qs rfl]; exact⟨g,nx,rfl,hg1,by simpa using hg2,hG.out.set 1 (by simp) _,ChainP.far _ _ (.inr (Nat.le_refl _)) hT.out⟩) (Ar (Aa hB.out HB.out) _ _ _ (by omega)) (by simp; omega)⟩
   . have hne:(qc != cd)=true:=by simpa using hcc
     have hn0:=hid (hnew.out (by simpa[Fg] using hcc));clear hold hnew
     gi_wp2
     exact⟨(((Cr HB.out).trans (KeepsOthers.setCell _ _ _)).trans (KeepsOthers.alloc _ _)).from _,((KpW.below HB.out).set _ _).trans (KpW.below (Ab (Ac _) _)),hI.out _ _ ((F3.set 0 (by simp) _).alloc _) (by rw[hn0.out]; exact⟨w3.heap.size,some ⟨g,0,none⟩,rfl,by omega,by simp,CellsAt.new _ _ _ _ (by simp),(ChainP.far _ _ (.inl (by omega)) hC.out).alloc _⟩) (Ab (Ar (Aa hB.out HB.out) _ _ _ (Nat.le_refl _)) _) (by simp; omega)⟩
 case done =>
  rintro D xs W hD rfl ⟨⟨p,hF,hC⟩,hB,hsz⟩ hK;rw[JQ hl] at hC;have f0:=hF.cell 0 _ rfl;replace hC:=hid hC;replace hB:=hid hB
  gi_wp2
  refine⟨by simp,.inl ⟨_,_,rfl,run_takeDeferred hK,?_⟩⟩;refine⟨.pointer p,?_,p,rfl,ChainP.low (by omega) (by simp) (ChainP.own (grownBy_putObj' _ D (.deferred none)) (fun r e=>by cases e; exact⟨_,hK,rfl⟩) hC.out),hB.out.trans (belowK_b (w:=w) (Nat.le_refl _) W D _ _ (by simp at hD; omega) hK rfl rfl)⟩;simp[results,Tryz.f38,go_sem]
 case stop =>
  rintro D c pre W hD _ hx hK;exact hx.elim
end Go.Proofs.YtgbiagonfbnooaaGreatDoor
