import Derived.Test.YtgbiagonfbnooaaGreatDoorZRepC
set_option linter.all false
set_option maxRecDepth 100000
set_option maxHeartbeats 8000000
open Go.Lib
namespace Go.Proofs.YtgbiagonfbnooaaGreatDoor
open Go.RowKit
open M
theorem Ox(s:ByteArray)(k:Nat)(h:k<s.size):s.data.toList.take (k+1)=s.data.toList.take k++[s[k]]:=by
 rw[List.take_succ_eq_append_getElem (by simpa using h)]; rfl
theorem M.val_lt:∀(w:Tx),w.all CY=true->CR w<10 ^ w.length:=by
 have key:∀(w:Tx) (a:Nat),w.all CY=true->w.foldl CZ a<(a+1)*10 ^ w.length:=by
  intro w
  induction w with
  | nil=>intro a _; simp
  | cons b w ih =>
   intro a h;simp only[List.all_cons,Bool.and_eq_true] at h;have hb:=(Ik h.1).2;have:=ih (CZ a b) h.2;simp only[List.foldl_cons,List.length_cons];refine Nat.lt_of_lt_of_le this ?_;rw[Nat.pow_succ,Nat.mul_comm (10 ^ w.length) 10,<- Nat.mul_assoc];apply Nat.mul_le_mul_right;simp only[CZ];omega
 intro w h;simpa[CR] using key w 0 h
theorem M.num_bad{w:Tx}(h:w.all CY=false):num w=-1:=by
 rw[num,if_neg];simp[h]
theorem M.num_len{w:Tx}(h:¬ (1<=w.length/\w.length<=7)):num w=-1:=by
 rw[num,if_neg];simp only[Bool.and_eq_true,decide_eq_true_eq];intro x;exact h x.1.1
theorem M.num_zero{w:Tx}(h1:1<w.length)(h:w.headD 0=48):num w=-1:=by
 rw[num,if_neg];simp only[Bool.and_eq_true,decide_eq_true_eq,Bool.not_eq_true',Bool.and_eq_false_iff,decide_eq_false_iff_not];rintro⟨⟨_,h3 | h3⟩,_⟩
 . exact h3 h1
 . exact h3 h
theorem M.num_good{w:Tx}(h:1<=w.length/\w.length<=7)(hz:¬ (1<w.length/\w.headD 0=48))(ha:w.all CY=true):num w=CR w:=by
 rw[num,if_pos];simp only[Bool.and_eq_true,decide_eq_true_eq,Bool.not_eq_true',Bool.and_eq_false_iff,decide_eq_false_iff_not];refine⟨⟨h,?_⟩,ha⟩;by_cases h1:1<w.length
 . exact .inr fun x=>hz ⟨h1,x⟩
 . exact .inl h1
theorem M.val_le{w:Tx}(h:w.all CY=true)(hl:w.length<=6):CR w<=999999:=by
 have:=val_lt w h;have h2:10 ^ w.length<=10 ^ 6:=Nat.pow_le_pow_right (by decide) hl;omega
theorem OZ(s:ByteArray)(w:World)(hs:s.size<=2097152) :
 Calls Tryz.prog 91 #[.string s] w fun e w'=>e=.returned (.int .i64 (num (tx s)))/\w=w':=by
 by_cases h0:1<=s.size/\s.size<=7
 rotate_left
 . have hb:Ax (s.size:Int) 1 7=false:=by simp only[Ax,decide_eq_false_iff_not]; omega
   have e:=hid (num_len (w:=tx s) (by rw[BV]; exact h0));replace hb:=hid hb;clear h0;go_enter Tryz.func91,Tryz.ntmps91;go_wp2_with fail;refine(Ak (s.size:Int) 1 7 false _ hb.out).mono ?_;rintro e w1 ⟨rfl,rfl⟩;go_wp2;go_ret;exact⟨AN e.out.symm,rfl⟩
 have hb:Ax (s.size:Int) 1 7=true:=by simp only[Ax,decide_eq_true_eq]; omega
 replace hb:=hid hb;by_cases hz:1<(tx s).length/\(tx s).headD 0=48
 . obtain⟨h1,h2⟩:=hz;have e:=hid (num_zero h1 h2);rw[BV] at h1;rw[OJ s (by omega)] at h2;have q:((s[0].toNat:Int)==48)=true:=by rw[h2]; rfl
   clear h2;have g1:decide ((s.size:Int)>1)=true:=decide_eq_true (by omega);go_enter Tryz.func91,Tryz.ntmps91;go_wp2_with fail;refine(Ak (s.size:Int) 1 7 true _ hb.out).mono ?_;rintro e w1 ⟨rfl,rfl⟩;go_wp2;go_ret;exact⟨AN e.out.symm,rfl⟩
 have G:(tx s).all CY=true->num (tx s)=CR (tx s):=num_good (by rw[BV]; exact h0) hz;have g1:(decide ((s.size:Int)>1)=false)\/(decide ((s.size:Int)>1)=true/\((s[0]'(by omega)).toNat==(48:Int))=false):=by
  by_cases h1:1<s.size
  . refine .inr ⟨decide_eq_true (by omega),?_⟩;have h2:s[0]'(by omega)≠48:=fun x=>hz ⟨by rw[BV]; exact h1,by rw[OJ s (by omega)]; exact x⟩;have h3:(s[0]'(by omega)).toNat≠48:=fun x=>h2 (UInt8.toNat_inj.1 x);simp only[beq_eq_false_iff_ne,ne_eq];omega
  . exact .inl (decide_eq_false (by omega))
 replace G:=hid G;clear hz;rcases g1 with g1 | ⟨g1,q⟩
 all_goals
  go_enter Tryz.func91,Tryz.ntmps91;go_wp2_with fail;refine(Ak (s.size:Int) 1 7 true _ hb.out).mono ?_;rintro e w1 ⟨rfl,rfl⟩;go_wp2
  go_loop [3,4] (fun a i=>∃ k:Nat,k<=s.size/\i=.int .i64 k/\a=.int .i64 (CR ((tx s).take k))/\((tx s).take k).all CY=true) (fun _ i=>s.size-(RowKit.intOf i).toNat)
  case atStart=>exact⟨0,Nat.zero_le _,rfl,rfl,rfl⟩
  case round =>
   obtain⟨k,hk,rfl,rfl,ha⟩:=hrel;by_cases hlt:k<s.size
   . have et:=Ox s k hlt;have hl:((tx s).take k).length=k:=by rw[List.length_take,BV]; omega
     have bd:=val_le ha (by omega);have ev:CR ((tx s).take (k+1))=10*CR ((tx s).take k)+(s[k].toNat-48):=by rw[show(tx s).take (k+1)=(tx s).take k++[s[k]] from et,Gr]
     have ea:((tx s).take (k+1)).all CY=CY s[k]:=by rw[show(tx s).take (k+1)=(tx s).take k++[s[k]] from et,List.all_append,ha]; simp
     have hbad:CY s[k]=false->num (tx s)=-1:=fun h=>num_bad (by
      rw[List.all_eq_false];exact⟨s[k],by rw[<- List.take_append_drop (k+1) (tx s)]; exact List.mem_append_left _ (by rw[show(tx s).take (k+1)=(tx s).take k++[s[k]] from et]; simp),by simp[h]⟩)
     have hub:s[k].toNat<=255:=by have:=s[k].toNat_lt; omega
     have hd:CY s[k]=(decide (48<=s[k].toNat)&&decide (s[k].toNat<=57)):=rfl;generalize CR ((tx s).take k)=v at *;clear et hl ha;replace ev:=hid ev;replace ea:=hid ea;replace hbad:=hid hbad;replace hd:=hid hd;by_cases b1:s[k].toNat<48
     . have e:=hid (hbad.out (by rw[hd.out]; simp; omega));have q1:decide ((s[k].toNat:Int)<48)=true:=decide_eq_true (by omega);clear hbad;go_wp2;go_ret;exact⟨AN e.out.symm,rfl⟩
     have q1:decide ((s[k].toNat:Int)<48)=false:=decide_eq_false (by omega);by_cases b2:57<s[k].toNat
     . have e:=hid (hbad.out (by rw[hd.out]; simp; omega));have q2:decide ((s[k].toNat:Int)>57)=true:=decide_eq_true (by omega);clear hbad;go_wp2;go_ret;exact⟨AN e.out.symm,rfl⟩
     have q2:decide ((s[k].toNat:Int)>57)=false:=decide_eq_false (by omega);have ea2:((tx s).take (k+1)).all CY=true:=ea.out.trans (by rw[hd.out]; simp; omega);replace ea2:=hid ea2;have hw:IntKind.u8.wrap ((s[k].toNat:Int)-48)=(s[k].toNat:Int)-48:=by rw[IntKind.wrap_u8]; omega
     have ev2:(CR ((tx s).take (k+1)):Int)=10*(v:Int)+((s[k].toNat:Int)-48):=by rw[ev.out]; omega
     replace ev2:=hid ev2;clear hbad ev ea;go_wp2
     go_round
     case rel=>exact⟨k+1,by omega,by go_num,by rw[ev2.out],ea2.out⟩
     case measure=>simp[RowKit.intOf]; omega
   . obtain rfl:k=s.size:=by omega
     have ex:(tx s).take s.size=tx s:=List.take_of_length_le (by rw[BV]; omega);rw[ex] at ha;have e:=hid (G.out ha);rw[ex];clear ha ex;go_wp2;go_ret;exact⟨AN e.out.symm,rfl⟩
open Go.RowKit
open M
def Pb(w:World)(s:ByteArray)(a:UInt8)(ov fv iv:Value)(W:World):Prop :=
 ∃(k f:Nat) (ws:List Tx),k<=s.size/\f<=k/\ws.length<=k/\iv=.int .i64 k/\fv=.int .i64 f/\cut a ((tx s).take k)=ws++[((tx s).take k).drop f]/\W.ownsRow w.heap.size 9 1 ov ws.length ((ws.map str).map Value.string)/\Below w.heap.size w W
def OQ(w:World)(ws:List ByteArray)(e:Ending)(w':World):Prop:=∃ v,e=.returned v/\w'.ownsRow w.heap.size 9 1 v ws.length (ws.map Value.string)/\Below w.heap.size w w'
theorem OK(s:ByteArray)(a:UInt8)(c:Int)(hc:c=(a.toNat:Int))(w:World)(hs:s.size<=2097152) :
 Calls Tryz.prog 35 #[.string s,.int .u8 c] w (OQ w ((cut a (tx s)).map str)):=by
 have O:(w.alloc (.cells #[] 9)).ownsRow w.heap.size 9 1 (.slice (some ⟨w.heap.size,0,none⟩) 0 0) ([]:List Tx).length ((([]:List Tx).map str).map Value.string):=World.ownsRow_lit w #[] 0 (Nat.le_refl _) (Nat.zero_le _) rfl;have B:=Ab (Ac w) (.cells #[] 9);replace hc:=hid hc;go_enter Tryz.func35,Tryz.ntmps35;go_wp2
 go_loopw [5,6,7] (Pb w s a) (fun _ _ i _=>s.size-(RowKit.intOf i).toNat)
 case atStart=>exact⟨0,0,[],Nat.zero_le _,Nat.le_refl _,Nat.le_refl _,rfl,rfl,by simp[cut],O,B⟩
 case round =>
  clear O B;obtain⟨k,f,ws,hk,hf,hw,rfl,rfl,ec,O,B⟩:=hrel;obtain⟨A1,ca,hv1,_⟩:=Strs.of_own O;subst hv1;have hz:=B.size;by_cases hlt:k<s.size
  . have et:=Ox s k hlt;have ecs:=Gq a s[k] ((tx s).take k);rw[<- show(tx s).take (k+1)=(tx s).take k++[s[k]] from et,ec] at ecs;have hl:((tx s).take k).length=k:=by rw[List.length_take,BV]; omega
    by_cases hb:s[k]=a
    . have q:((s[k].toNat:Int)==c)=true:=by rw[hc.out,hb]; simp
      rw[if_pos hb] at ecs;have e2:cut a ((tx s).take (k+1))=(ws++[((tx s).take k).drop f])++[((tx s).take (k+1)).drop (k+1)]:=by
       have e0:((tx s).take (k+1)).drop (k+1)=[]:=List.drop_of_length_le (List.length_take_le _ _);rw[ecs,e0]
      replace e2:=hid e2;have ex:=hid (Hs s f k);replace O:=hid O;replace B:=hid B;clear ecs ec et hb hl;go_wp2_with (at_builtin; refine Om _ rfl (.tmp 20) (.tmp 25) rfl w.heap.size (Value.slice A1 ws.length ca) ws.length (ws.map str) rfl (O.out.alloc _) (some ⟨wr.heap.size,0,none⟩) 1 1 [s.extract f k] rfl (Strs.one wr _ _) (by omega) (by simp; omega) ?_);intro v' w9 O9 G9 hB9;have B9:=(Ab B.out _).grown G9 (by simp; omega) (fun g' e=>(O.out.lt g' e).1);have O9:=(show w9.ownsRow w.heap.size 9 1 v' (ws++[((tx s).take k).drop f]).length (((ws++[((tx s).take k).drop f]).map str).map Value.string) from by
       rw[List.length_append,List.map_append,List.map_singleton,<- ex.out]; simpa using O9)
      replace O9:=hid O9;replace B9:=hid B9;clear G9 O B hB9 q;go_wp2
      go_roundw
      case rel=>exact⟨k+1,k+1,_,by omega,Nat.le_refl _,by simp; omega,by go_num,by go_num,e2.out,O9.out,B9.out⟩
      case measure=>simp[RowKit.intOf]; omega
    . have q:((s[k].toNat:Int)==c)=false:=by
       rw[hc.out];simp only[beq_eq_false_iff_ne,ne_eq];intro x;exact hb (UInt8.toNat_inj.1 (by omega))
      rw[if_neg hb] at ecs;have e2:cut a ((tx s).take (k+1))=ws++[((tx s).take (k+1)).drop f]:=by
       rw[ecs,show(tx s).take (k+1)=(tx s).take k++[s[k]] from et,List.drop_append_of_le_length (by omega)];simp
      replace e2:=hid e2;replace O:=hid O;replace B:=hid B;clear ecs ec et hb hl;go_wp2
      go_roundw
      case rel=>exact⟨k+1,f,ws,by omega,by omega,by omega,by go_num,rfl,e2.out,O.out,B.out⟩
      case measure=>simp[RowKit.intOf]; omega
  . obtain rfl:k=s.size:=by omega
    have ex:(tx s).take s.size=tx s:=List.take_of_length_le (by rw[BV]; omega);rw[ex] at ec;have e3:=Hs s f s.size;rw[ex] at e3;replace e3:=hid e3;replace ec:=hid ec;replace O:=hid O;replace B:=hid B;clear ex;go_wp2_with (at_builtin; refine Om _ rfl (.tmp 29) (.tmp 33) rfl w.heap.size (Value.slice A1 ws.length ca) ws.length (ws.map str) rfl (O.out.alloc _) (some ⟨wr.heap.size,0,none⟩) 1 1 [s.extract f s.size] rfl (Strs.one wr _ _) (by omega) (by simp; omega) ?_);intro v' w9 O9 G9 hB9;have B9:=(Ab B.out _).grown G9 (by simp; omega) (fun g' e=>(O.out.lt g' e).1)
    have O9:=(show w9.ownsRow w.heap.size 9 1 v' ((cut a (tx s)).map str).length (((cut a (tx s)).map str).map Value.string) from by
     rw[ec.out,List.length_map,List.length_append,List.map_append,List.map_singleton,<- e3.out]; simpa using O9)
    replace O9:=hid O9;replace B9:=hid B9;clear G9 O B hB9;go_wp2;go_ret;exact⟨_,rfl,O9.out,B9.out⟩
open Go.RowKit
open M
theorem Strs.grown{W w':World}{A:Option Addr}{n:Nat}{xs:List ByteArray}{row:Option Nat}(h:Strs W A n xs)(hg:W.grownBy w' row)(hr:0<n->∀ k off,A=some ⟨k,off,none⟩->row≠some k):Strs w' A n xs :=
 ⟨h.1,fun hn=>by
  obtain⟨b,off,e,hb,hc⟩:=h.2 hn;exact⟨b,off,e,Nat.lt_of_lt_of_le hb hg.size,fun k hk=>(World.cell?_of_block (a:=⟨b,off+k,none⟩) (hg.block b hb (fun e'=>hr hn b off e e'.symm))).trans (hc k hk)⟩⟩
theorem Strs.lt{w:World}{A:Option Addr}{n:Nat}{xs:List ByteArray}(h:Strs w A n xs)(hn:0<n):∀ k off,A=some ⟨k,off,none⟩->k<w.heap.size:=fun k off e=>by
 obtain⟨b,off',e',hb,_⟩:=h.2 hn;rw[e'] at e;cases e
 exact hb
theorem M.cut_le(a:UInt8):∀ s:Tx,∀ w∈cut a s,w.length<=s.length
 | [],w,h=>by simp[cut] at h; simp[h]
 | b::s,w,h=>by
  have ih:=cut_le a s;have ne:=Bw a s;have h0:=ih ((cut a s).headD []) (by rw[ne]; simp);by_cases h2:b=a
  . rw[cut,if_pos h2] at h;rcases List.mem_cons.1 h with rfl | h
    . simp
    . have:=ih w h; simp only[List.length_cons]; omega
  . rw[cut,if_neg h2] at h;rcases List.mem_cons.1 h with rfl | h
    . simp only[List.length_cons]; omega
    . have:=ih w (by rw[ne]; exact List.mem_cons_of_mem _ h); simp only[List.length_cons]; omega
def M.lnT(ws:List Tx)(k:Nat):List Int:=(ws.take k).tail.map num
theorem M.lnT_next{ws:List Tx}{k:Nat}(h1:1<=k)(h:k<ws.length):lnT ws (k+1)=lnT ws k++[num (ws.getD k [])]:=by
 unfold lnT;rw[List.take_succ_eq_append_getElem h,List.tail_append_of_ne_nil (by intro e; have:=congrArg List.length e; rw[List.length_take,List.length_nil] at this; omega),List.map_append,List.getD_eq_getElem?_getD,List.getElem?_eq_getElem h];rfl
theorem M.line_bad{s w0:Tx}{k:Nat}(h1:1<=k)(h:k<(cut 32 s).length)(hn:num ((cut 32 s).getD k [])<0):BF s w0=none:=by
 unfold BF;rw[if_neg];intro hc;simp only[Bool.and_eq_true,List.all_eq_true,decide_eq_true_eq] at hc;have:=hc.2 ((cut 32 s).getD k []) (by
  rw[List.getD_eq_getElem?_getD,List.getElem?_eq_getElem h];obtain⟨k',rfl⟩:∃ k',k=k'+1:=⟨k-1,by omega⟩;have:(cut 32 s)[k'+1]=(cut 32 s).tail[k']'(by rw[List.length_tail]; omega):=by rw[List.getElem_tail]
  simp only[Option.getD_some,this];exact List.getElem_mem _)
 omega
def Pd(w w1:World)(A:Option Addr)(n:Nat)(ws:List Tx)(ov iv:Value)(W:World):Prop :=
 ∃ k:Nat,1<=k/\k<=n/\iv=.int .i64 k/\(∀ x∈lnT ws k,0<=x)/\W.ownsRow w1.heap.size 3 1 ov (lnT ws k).length ((lnT ws k).map (Value.int .i64))/\Strs W A n (ws.map str)/\w1.heap.size<=W.heap.size/\Below w.heap.size w W
def Of(w:World)(o:Option (List Int))(e:Ending)(w':World):Prop :=
 ∃ v ns,e=.returned (.tuple #[v,.bool o.isSome])/\w'.ownsRow w.heap.size 3 1 v ns.length (ns.map (Value.int .i64))/\(∀ l,o=some l->ns=l)/\Below w.heap.size w w'
theorem Og(s t:ByteArray)(w:World)(hs:s.size<=2097152) :
 Calls Tryz.prog 62 #[.string s,.string t] w (Of w (BF (tx s) (tx t))):=by
 go_enter Tryz.func62,Tryz.ntmps62;go_wp2_with fail;refine(OK s 32 32 rfl _ hs).mono ?_;rintro e w1 ⟨v,rfl,O1,B⟩;obtain⟨A,ca,rfl,S⟩:=Strs.of_own O1;rw[List.length_map] at S;obtain⟨ws,hws⟩:∃ ws,cut 32 (tx s)=ws:=⟨_,rfl⟩;have hne:1<=ws.length:=by rw[<- hws,FQ]; omega
 rw[hws] at S;have hlen:ws.length<=s.size+1:=by rw[<- hws,FQ,<- BV]; have:=List.count_le_length (a:=(10:UInt8)) (l:=tx s); have:=List.count_le_length (a:=(32:UInt8)) (l:=tx s); omega
 have hA:∀ k off,A=some ⟨k,off,none⟩->k<w1.heap.size:=S.lt (by omega);have hwl:(ws.map str).length=ws.length:=List.length_map ..;rw[hws,hwl];obtain⟨n,hn⟩:∃ n,ws.length=n:=⟨_,rfl⟩;rw[hn] at S hne hlen ⊢;replace hws:=hid hws;replace hn:=hid hn;have O:(w1.alloc (.cells #[] 3)).ownsRow w1.heap.size 3 1 (.slice (some ⟨w1.heap.size,0,none⟩) 0 0) (lnT ws 1).length ((lnT ws 1).map (Value.int .i64)):=by
  have e:lnT ws 1=[]:=by
   unfold lnT;cases ws<;>simp
  rw[e];exact World.ownsRow_lit w1 #[] 0 (Nat.le_refl _) (Nat.zero_le _) rfl
 have S1:=S.alloc (.cells #[] 3);have B1:=Ab B (.cells #[] 3);have hB:=B.size;clear S B O1 hwl;go_wp2
 go_loopw [7,8] (Pd w w1 A n ws) (fun _ i _=>n-(RowKit.intOf i).toNat)
 case atStart=>exact⟨1,Nat.le_refl _,hne,rfl,by intro x hx; exfalso; revert hx; unfold lnT; cases ws<;>simp,O,S1,by simp,B1⟩
 case round =>
  clear O S1 B1;obtain⟨k,h1,hk,rfl,ha,O,S,hW,B⟩:=hrel;have S0:=hid S;replace O:=hid O;replace B:=hid B;by_cases hlt:k<n
  . obtain⟨b,off,rfl,hb,hc⟩:=S.2 (by omega);have cc:=hc k hlt;have hkl:k<ws.length:=by have:=hn.out; omega
    have ew:(ws.map str).getD k ByteArray.empty=str (ws.getD k []):=by
     rw[List.getD_eq_getElem?_getD,List.getD_eq_getElem?_getD,List.getElem?_map,List.getElem?_eq_getElem hkl]; rfl
    rw[ew] at cc;have en:=lnT_next h1 hkl;have bad:num (ws.getD k [])<0->BF (tx s) (tx t)=none:=fun h=>line_bad h1 (by rw[hws.out]; exact hkl) (by rw[hws.out]; exact h);have rng:=IY (ws.getD k []);have hsz:(str (ws.getD k [])).size<=2097152:=by
     have hm:ws.getD k []∈cut 32 (tx s):=by
      rw[hws.out,List.getD_eq_getElem?_getD,List.getElem?_eq_getElem hkl];exact List.getElem_mem hkl
     have:=cut_le 32 (tx s) _ hm;rw[BV] at this;rw[<- BV,Cz];omega
    clear hc ew S;have C:=OZ (str (ws.getD k []));rw[Cz] at C;generalize ws.getD k []=u at *;replace bad:=hid bad;replace en:=hid en;generalize num u=z at *;go_wp2_with fail;refine(C _ hsz).mono ?_;rintro e w2 ⟨rfl,rfl⟩;clear C;by_cases hz:z<0
    . have e:=hid (bad.out hz);clear bad en cc;go_wp2;refine bodyPost_ret (v:=.tuple #[_,.bool false]) (by simp[results,Tryz.results62,go_sem]; rfl) rfl ⟨_,lnT ws k,by rw[e.out]; rfl,Ds O.out hB,by rw[e.out]; simp,B.out⟩
    have hz2:decide (z<0)=false:=decide_eq_false hz;have hz3:0<=z:=by omega
    replace ha:=hid ha;obtain⟨A2,ca2,hv2,_⟩:=Ints.of_own O.out;subst hv2;have hsz2:=B.out.size;have hlk:(lnT ws k).length<=k:=by unfold lnT; simp; omega
    clear bad cc;go_wp2_with (at_builtin; refine AP _ rfl (.tmp 27) (.tmp 29) rfl w1.heap.size (Value.slice A2 (lnT ws k).length ca2) (lnT ws k).length (lnT ws k) rfl (O.out.alloc _) (some ⟨wr.heap.size,0,none⟩) 1 1 [z] rfl (Ints.one wr z _) (by omega) (by simp; omega) ?_);intro v' w9 O9 G9 hB9;have B9:=(Ab B.out _).grown G9 (by simp; omega) (fun g' e=>by have:=(O.out.lt g' e).1; omega);have S9:=(S0.out.alloc _).grown G9 (fun hn' g off e e2=>by have:=(O.out.lt _ e2).1; have:=hA g off e; omega);have O9:=(show w9.ownsRow w1.heap.size 3 1 v' (lnT ws (k+1)).length ((lnT ws (k+1)).map (Value.int .i64)) from by
     rw[en.out,List.length_append]; simpa using O9)
    have ha9:∀ x∈lnT ws (k+1),0<=x:=by
     rw[en.out];intro x hx;rcases List.mem_append.1 hx with h | h
     . exact ha.out x h
     . rw[List.mem_singleton.1 h]; exact hz3
    have hW9:w1.heap.size<=w9.heap.size:=by have:=G9.size; simp at this; omega
    replace O9:=hid O9;replace B9:=hid B9;replace S9:=hid S9;replace ha9:=hid ha9;clear G9 O B S0 hB9 ha;go_wp2
    go_roundw
    case rel=>exact⟨k+1,by omega,by omega,by go_num,ha9.out,O9.out,S9.out,hW9,B9.out⟩
    case measure=>simp[RowKit.intOf]; omega
  . obtain rfl:k=n:=by omega
    obtain⟨b,off,rfl,hb,hc⟩:=S.2 (by omega);have cc:=hc 0 (by omega);rw[Nat.add_zero] at cc;clear hc S;have h0:0<ws.length:=by have:=hn.out; omega
    have ew:(ws.map str).getD 0 ByteArray.empty=str (ws.headD []):=by
     cases ws<;>simp at h0 ⊢
    rw[ew] at cc;have hk0:0<k:=by omega
    have ew2:ws.headD []=(cut 32 (tx s)).headD []:=by rw[hws.out]
    have etail:lnT ws k=(cut 32 (tx s)).tail.map num:=by
     unfold lnT;rw[List.take_of_length_le (by rw[hn.out]; omega),hws.out]
    have eline:BF (tx s) (tx t)=if tx (str (ws.headD []))=tx t then some (lnT ws k) else none:=by
     have hall:((cut 32 (tx s)).tail.all fun v=>decide (0<=num v))=true:=by
      rw[List.all_eq_true];intro v hv;rw[decide_eq_true_eq];exact ha _ (by rw[etail]; exact List.mem_map_of_mem hv)
     rw[BF,hall,Bool.and_true,Cz,ew2,etail];by_cases h:(cut 32 (tx s)).headD []=tx t
     . rw[if_pos h,if_pos (by simpa using h)]
     . rw[if_neg h,if_neg (by simpa using h)]
    have hL:∀ nq:Nat,Of w (BF (tx s) (tx t)) (.returned (.tuple #[u7,.bool ((str (ws.headD [])).toList==t.toList)])) (wr.drewN nq):=by
     intro nq;have hbb:((str (ws.headD [])).toList==t.toList)=decide (tx (str (ws.headD []))=tx t):=by
      rw[ByteArray.toList_eq,ByteArray.toList_eq];by_cases h:tx (str (ws.headD []))=tx t
      . rw[decide_eq_true h,beq_iff_eq]; exact h
      . rw[decide_eq_false h,beq_eq_false_iff_ne]; exact h
     refine⟨u7,lnT ws k,?_,Ds O.out hB,fun l hl=>?_,AY B.out nq⟩
     . rw[hbb,eline];by_cases h:tx (str (ws.headD []))=tx t
       . rw[if_pos h,decide_eq_true h]; rfl
       . rw[if_neg h,decide_eq_false h]; rfl
     . rw[eline] at hl;split at hl
       . exact Option.some.inj hl
       . cases hl
    replace hL:=hid hL;clear eline ew ew2 etail ha O B S0;generalize str (ws.headD [])=u0 at *;go_upto_region 10 with fail
    go_quiet (fail)
    go_wp2;exact bodyPost_ret (v:=.tuple #[u7,.bool (u0.toList==t.toList)]) (by simp[results,Tryz.results62,go_sem]) rfl (hL.out nq)
end Go.Proofs.YtgbiagonfbnooaaGreatDoor
