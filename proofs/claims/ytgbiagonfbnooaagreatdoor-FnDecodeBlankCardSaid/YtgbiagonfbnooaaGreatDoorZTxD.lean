import Derived.Test.YtgbiagonfbnooaaGreatDoorZTabs
set_option linter.all false
set_option maxRecDepth 100000
set_option maxHeartbeats 8000000
namespace Go.Proofs.YtgbiagonfbnooaaGreatDoor
open Go.RowKit
open M
theorem Jb:(Tryz.prog.info? 24).map (fun i=>(i.zero,i.size,i.bytes))=some (some (.slice none 0 0),1,24):=by kernel_rfl
theorem Ho(w:World){ops:Array Oper}{rest:List Oper}{o:Oper}{a:Act}{Q:Exit->Act->World->Prop}(hgd:o.guard=Option.none)(s x:Operand)
 (ho:o.op=.call { callee:=.builtin .append,args:=#[s,x],argTypes:=#[41,41] }) (base:Nat) (v:Value) (n:Nat) (xs:List Value) (hs:a.eval s=v) (hown:w.ownsRow base 24 1 v n xs)
 (b:Nat) (y:Value) (hx:a.eval x=.slice (some ⟨b,0,none⟩) 1 1) (hy:w.cell? ⟨b,0,none⟩=some y) (h1:y.oneCell'=true) (hn:n+1<=8000000) (hb:base<=w.heap.size)
 (h:∀ v' w',w'.ownsRow base 24 1 v' (n+1) (xs++[y])->w.grownBy w' v.ownBlock->(v'.ownBlock=v.ownBlock\/v'.ownBlock=some w.heap.size)->wpList Tryz.prog ops Q rest (a.put o.dst v') w') :
 wpList Tryz.prog ops Q (o::rest) a w:=by
 refine wpList_plain hgd fun K hK=>?_;obtain⟨i0,hi,hz0,hz1,hz2⟩:=info_parts Jb;obtain⟨v',w',hr,h2,h3,_,h5⟩:=run_append_own_at (P:=Tryz.prog) w base 41 o.type 24 i0 (.slice none 0 0) 1 24 Tryz.underlying41 hi hz0 hz1 hz2 rfl (by decide) v n _ hown ⟨b,0,none⟩ 1 1 [y] rfl (fun j u hj=>by
  match j,hj with
  | 0,hj=>cases hj; rw[Addr.add_lit]; exact hy) (fun u hu=>by rw[List.mem_singleton.1 hu]; exact h1) (by unfold maxLen; omega) (by omega) hb
 unfold Oper.wp execOp;simp only[ho,resolve,invoke,builtin,Sem.run_bind,Sem.run_pure,Result.andThen_ok,List.map_toArray,List.map_cons,List.map_nil,hs,hx,hr];exact hK _ _ (h v' w' (by simpa using h2) h3 h5)
def M.keyW:Nat->Tx
 | 0=>kR
 | 1=>kI
 | 2=>kH
 | _=>kT
def M.lnsP(ws:List Tx):Nat->Option (List (List Int))
 | 0=>some []
 | k+1=>match lnsP ws k with
  | some ls=>(BE (ws.getD k []) (keyW k)).map (ls++[·])
  | none=>none
theorem M.lnsP_len{ws:List Tx}:∀{k:Nat} {ls:List (List Int)},lnsP ws k=some ls->ls.length=k
 | 0,ls,h=>by cases h; rfl
 | k+1,ls,h=>by
  rw[lnsP] at h;split at h
  . next l e =>
    obtain⟨x,_,rfl⟩:=Option.map_eq_some_iff.1 h;rw[List.length_append,lnsP_len e]; rfl
  . cases h
theorem M.lnsP_no{ws:List Tx}{k:Nat}(h:lnsP ws k=none):∀ j,lnsP ws (k+j)=none
 | 0=>h
 | j+1=>by rw[<- Nat.add_assoc,lnsP,lnsP_no h j]
def M.linesP(s:Tx):Option (List (List Int)):=if (FU s).length=5/\(FU s).getD 4 []=[] then lnsP (FU s) 4 else none
def M.repP:List (List Int)->Option Rep
 | [h,l,hs,t]=>if decide (h.length=3)&&decide (t.length=1) then
  if decide (l.length % 2=0) then
   match AH (C6 l) with
   | some xs=>if Bq ⟨h.getD 0 0,h.getD 1 0,h.getD 2 0,xs,hs,t.getD 0 0⟩ then some ⟨h.getD 0 0,h.getD 1 0,h.getD 2 0,xs,hs,t.getD 0 0⟩ else none
   | none=>none
  else none
  else none
 | _=>none
theorem M.dcd_lines(s:Tx):Nh s=(linesP s).bind repP:=by
 rw[<- KL];unfold Nk linesP;generalize FU s=ws;split
 . next a b c d e =>
   by_cases he:e=[]
   . rw[if_pos he,if_pos (by simp[he])];simp only[lnsP,List.getD_cons_zero,List.getD_cons_succ,keyW,GC];cases BE a kR<;>simp only[Option.map_none,Option.map_some,Option.bind_none]
     cases BE b kI<;>simp only[Option.map_none,Option.map_some,Option.bind_none]
     cases BE c kH<;>simp only[Option.map_none,Option.map_some,Option.bind_none]
     cases BE d kT<;>simp only[Option.map_none,Option.map_some,Option.bind_none]
     rfl
   . rw[if_neg he,if_neg (by simp[he])]; rfl
 . next h =>
   rw[if_neg]
   . rfl
   . rintro⟨h5,_⟩
     match ws,h5 with
     | [a,b,c,d,e],_=>exact h a b c d e rfl
open Go.RowKit
open M
theorem KT(s:ByteArray)(w:World)(T:TabsD w)(hs:s.size<=2097152) :
 Calls Tryz.prog 45 #[.string s,.string ⟨#[10]⟩,.int .i64 5] w fun e w'=>∃ c,e=.returned (.slice (some ⟨w.heap.size,0,none⟩) (FU (tx s)).length c)/\Strs w' (some ⟨w.heap.size,0,none⟩) (FU (tx s)).length ((FU (tx s)).map str)/\Below w.heap.size w w':=by
 obtain⟨m,hm⟩:=T.mx;refine(Dq s ⟨#[10]⟩ 5 m w (by omega) hm (by decide) (by decide) (by decide)).mono ?_;rintro e w' ⟨rfl,rfl⟩;have hd:=Lib.splitB_data ⟨#[10]⟩ 0 (min 5 (s.size+1)-1) s;have hp:Go.Lib.splitK [10] 0 (min 5 (s.size+1)-1) (tx s)=FU (tx s):=by rw[FU,BV]
 have hd2:(Go.Lib.splitB ⟨#[10]⟩ 0 (min 5 (s.size+1)-1) s).map tx=FU (tx s):=hd.trans hp;generalize Go.Lib.splitB ⟨#[10]⟩ 0 (min 5 (s.size+1)-1) s=L at *;have hL:(FU (tx s)).map str=L:=by
  rw[<- hd2,List.map_map]
  conv=>rhs; rw[<- List.map_id L]
  exact List.map_congr_left fun x _=>Nn x
 have hlen:(FU (tx s)).length=L.length:=by rw[<- hd2,List.length_map]
 rw[hL,hlen];refine⟨_,rfl,⟨rfl,fun hn=>⟨w.heap.size,0,rfl,by simp,fun k hk=>?_⟩⟩,Ab (Ac w) _⟩;rw[Nat.zero_add,List.getD_eq_getElem?_getD,List.getElem?_eq_getElem hk,Option.getD_some];have:(Go.Lib.cellsOf L (min 5 (s.size+1)))[k]?=some (.string L[k]):=by
  rw[Go.Lib.cellsOf,List.getElem?_toArray,List.getElem?_append_left (by simpa using hk),List.getElem?_map,List.getElem?_eq_getElem hk];rfl
 rw[<- this];generalize Go.Lib.cellsOf L (min 5 (s.size+1))=arr;simp
theorem Ints.grown'{W w':World}{A:Option Addr}{n:Nat}{xs:List Int}{row:Option Nat}(h:Ints W A n xs)(hg:W.grownBy w' row)(hr:∀ k off,A=some ⟨k,off,none⟩->row≠some k):Ints w' A n xs :=
 ⟨h.1,fun hn=>by
  obtain⟨b,off,e,hb,hc⟩:=h.2 hn;exact⟨b,off,e,Nat.lt_of_lt_of_le hb hg.size,fun k hk=>(World.cell?_of_block (a:=⟨b,off+k,none⟩) (hg.block b hb (fun e'=>hr b off e e'.symm))).trans (hc k hk)⟩⟩
theorem Strs.grown'{W w':World}{A:Option Addr}{n:Nat}{xs:List ByteArray}{row:Option Nat}(h:Strs W A n xs)(hg:W.grownBy w' row)(hr:∀ k off,A=some ⟨k,off,none⟩->row≠some k):Strs w' A n xs :=
 ⟨h.1,fun hn=>by
  obtain⟨b,off,e,hb,hc⟩:=h.2 hn;exact⟨b,off,e,Nat.lt_of_lt_of_le hb hg.size,fun k hk=>(World.cell?_of_block (a:=⟨b,off+k,none⟩) (hg.block b hb (fun e'=>hr b off e e'.symm))).trans (hc k hk)⟩⟩
theorem Ints.of_own'{w:World}{base:Nat}{e:TypeId}{v:Value}{n:Nat}{xs:List Int}(h:w.ownsRow base e 1 v n (xs.map (Value.int .i64))):∃ A cap,v=.slice A n cap/\Ints w A n xs/\∀ g off,A=some ⟨g,off,none⟩->base<=g/\g<w.heap.size:=by
 have h0:=h;rcases h0.2 with⟨rfl,rfl⟩ | ⟨g,cap,cur,rfl,_,hh,_⟩
 . obtain⟨A,c,e1,I⟩:=Ints.of_own h;cases e1
   exact⟨_,_,rfl,I,fun g off e=>by cases e⟩
 . obtain⟨A,c,e1,I⟩:=Ints.of_own h;cases e1
   exact⟨_,_,rfl,I,fun g' off e=>by cases e; exact h.lt g rfl⟩
def RowsAt(lo:Nat)(W:World)(o:Option Nat)(vs:List Value)(ls:List (List Int)):Prop :=
 vs.length=ls.length/\∀ i,i<ls.length->∃ A c,vs[i]?=some (.slice A (ls.getD i []).length c)/\Ints W A (ls.getD i []).length (ls.getD i [])/\((ls.getD i []).length<=c/\(∀ g off,A=some ⟨g,off,none⟩->lo<=g))/\∀ g off,A=some ⟨g,off,none⟩->g<W.heap.size/\o≠some g
theorem RowsAt.step{lo:Nat}{W W':World}{o:Option Nat}{vs:List Value}{ls:List (List Int)}(h:RowsAt lo W o vs ls)(B:Below W.heap.size W W'):RowsAt lo W' o vs ls :=
 ⟨h.1,fun i hi=>by
  obtain⟨A,c,e,I,hcp,hg⟩:=h.2 i hi;exact⟨A,c,e,I.step B,hcp,fun g off x=>⟨Nat.lt_of_lt_of_le (hg g off x).1 B.size,(hg g off x).2⟩⟩⟩
theorem RowsAt.next{lo:Nat}{W W':World}{o o':Option Nat}{vs:List Value}{ls:List (List Int)}{A:Option Addr}{c:Nat}{l:List Int}(h:RowsAt lo W o vs ls)(hcp:l.length<=c/\(∀ g off,A=some ⟨g,off,none⟩->lo<=g))(I:Ints W A l.length l)(hA:∀ g off,A=some ⟨g,off,none⟩->g<W.heap.size/\o≠some g)(G:W.grownBy W' o)(ho:o'=o\/∃ z,o'=some z/\W.heap.size<=z) :
 RowsAt lo W' o' (vs++[.slice A l.length c]) (ls++[l]):=by
 have key:∀(A:Option Addr),(∀ g off,A=some ⟨g,off,none⟩->g<W.heap.size/\o≠some g)->∀ g off,A=some ⟨g,off,none⟩->g<W'.heap.size/\o'≠some g:=fun A hA g off e=>by
  obtain⟨h1,h2⟩:=hA g off e;refine⟨Nat.lt_of_lt_of_le h1 G.size,?_⟩;rcases ho with rfl | ⟨z,rfl,hz⟩
  . exact h2
  . intro x; cases x; omega
 refine⟨by simp[h.1],fun i hi=>?_⟩;rw[List.length_append,List.length_singleton] at hi;by_cases hlt:i<ls.length
 . obtain⟨A',c',e,I',hcp',hg⟩:=h.2 i hlt;have e1:(ls++[l]).getD i []=ls.getD i []:=by rw[List.getD_eq_getElem?_getD,List.getD_eq_getElem?_getD,List.getElem?_append_left hlt]
   rw[e1];exact⟨A',c',by rw[List.getElem?_append_left (by rw[h.1]; exact hlt)]; exact e,I'.grown' G fun g off x=>(hg g off x).2,hcp',key A' hg⟩
 . obtain rfl:i=ls.length:=by omega
   have e1:(ls++[l]).getD ls.length []=l:=by rw[List.getD_eq_getElem?_getD,List.getElem?_append_right (Nat.le_refl _),Nat.sub_self]; rfl
   rw[e1];exact⟨A,c,by rw[List.getElem?_append_right (by rw[h.1]; exact Nat.le_refl _),h.1,Nat.sub_self]; rfl,I.grown' G fun g off x=>(hA g off x).2,hcp,key A hA⟩
theorem KU{W:World}{base:Nat}{e:TypeId}{sz:Nat}{A:Option Addr}{n c m:Nat}{xs:List Value}(h:W.ownsRow base e sz (.slice A n c) m xs):m<=c:=by
 rcases h.2 with⟨e1,rfl⟩ | ⟨g,cap,cur,e1,_,_,hnc,_⟩
 . omega
 . cases e1
   exact hnc
theorem Jc{w:World}{base:Nat}{e:TypeId}{sz:Nat}{v:Value}{n:Nat}{xs:List Value}(h:w.ownsRow base e sz v n xs):∃ A c,v=.slice A n c:=by
 rcases h.2 with⟨rfl,rfl⟩ | ⟨g,cap,cur,rfl,_⟩
 . exact⟨_,_,rfl⟩
 . exact⟨_,_,rfl⟩
def Jd(w:World)(o:Option (List (List Int)))(e:Ending)(w':World):Prop :=
 ∃ v,e=.returned (.tuple #[v,.bool o.isSome])/\(∀ ls,o=some ls->∃(base:Nat) (vs:List Value),w'.ownsRow base 24 1 v ls.length vs/\RowsAt w.heap.size w' v.ownBlock vs ls)/\Below w.heap.size w w'
end Go.Proofs.YtgbiagonfbnooaaGreatDoor
