import Derived.Test.YtgbiagonfbnooaaGreatDoorZLvT
import Derived.Test.YtgbiagonfbnooaaGreatDoorZRepI
import Derived.Deep.CutBlock
import Derived.Deep.LoopGhost
set_option linter.all false
set_option maxRecDepth 100000
set_option maxHeartbeats 8000000
open Go.Lib
namespace Go.Proofs.YtgbiagonfbnooaaGreatDoor
open Go.RowKit
open M
def Gd(B r:Nat)(k:Int)(w:World)(e:Ending)(w':World):Prop :=
 ∃(l p s:Int) (A:Option Addr) (n c:Nat) (H:Option Addr) (m d:Nat) (t:Int) (xs:List In) (hs:List Int),e=.returned (CH l p s A n c H m d t)/\(n<=61/\m<=1001)/\Inputs w' A n xs/\Ints w' H m hs/\AK w.heap.size A/\AK w.heap.size H/\RdU B w' r (k+10)/\Kept r w w'
structure LiO(B r:Nat)(w:World)(vs:List Value)(VA:Value)(n:Nat)(xs:List In)(VH:Value)(m:Nat)(hs:List Int)(k:Int)(W:World):Prop where
 X:CellsAt W w.heap.size vs
 D:CellsAt W (w.heap.size+1) Bp
 O:W.ownsRow (w.heap.size+1+1) 89 3 VA n (AZ xs)
 P:W.ownsRow (w.heap.size+1+1) 3 1 VH m (hs.map (Value.int .i64))
 ne:∀ g,VA.ownBlock=some g->VH.ownBlock≠some g
 R:RdU B W r k
 K:Kept r w W
 bw:B<=w.heap.size
 rB:r<B
theorem LiO.kept{B r:Nat}{w:World}{vs:List Value}{VA:Value}{n:Nat}{xs:List In}{VH:Value}{m:Nat}{hs:List Int}{k:Int}{W:World}{k':Int}{W':World}(h:LiO B r w vs VA n xs VH m hs k W)(K:Kept r W W')(R:RdU B W' r k'):LiO B r w vs VA n xs VH m hs k' W':=by
 have h2:=h.bw; have h3:=h.rB;exact⟨h.X.kept K (by omega),h.D.kept K (by omega),h.O.kept K.grows (.inr fun he=>by have:=(h.O.lt r he).1; omega),h.P.kept K.grows (.inr fun he=>by have:=(h.P.lt r he).1; omega),h.ne,R,h.K.trans K,h2,h3⟩
theorem LiO.step{B r:Nat}{w:World}{vs:List Value}{VA:Value}{n:Nat}{xs:List In}{VH:Value}{m:Nat}{hs:List Int}{k:Int}{W:World}{W':World}(h:LiO B r w vs VA n xs VH m hs k W)(S:Below W.heap.size W W'):LiO B r w vs VA n xs VH m hs k W':=h.kept (Kept.of_below S) (h.R.below (S.mono (Nat.le_trans h.bw h.K.size)))
theorem LiO.set{B r:Nat}{w:World}{vs:List Value}{VA:Value}{n:Nat}{xs:List In}{VH:Value}{m:Nat}{hs:List Int}{k:Int}{W:World}(h:LiO B r w vs VA n xs VH m hs k W)(o:Nat)(ho:o<vs.length)(v:Value):LiO B r w (vs.set o v) VA n xs VH m hs k (W.setCell ⟨w.heap.size,o,none⟩ v):=by
 have h2:=h.bw; have h3:=h.rB;exact⟨h.X.set o ho v,h.D.far (by omega) _ _,ownsRow_setCell_other h.O (show VA.ownBlock≠some w.heap.size from fun e=>by have:=(h.O.lt _ e).1; omega) _,ownsRow_setCell_other h.P (show VH.ownBlock≠some w.heap.size from fun e=>by have:=(h.P.lt _ e).1; omega) _,h.ne,h.R.set _ _ _ (by omega),h.K.set _ _ _ (by omega),h2,h3⟩
structure LiW(B r:Nat)(w:World)(k:Int)(W:World):Prop where
 ex:∃(l p s:Int) (A:Option Addr) (n c:Nat) (H:Option Addr) (m d:Nat) (t:Int) (xs:List In) (hs:List Int),(n<=61/\m<=1001)/\CellsAt W w.heap.size (AR l p s A n c H m d t)/\Inputs W A n xs/\Ints W H m hs/\AK (w.heap.size+1+1) A/\AK (w.heap.size+1+1) H
 D:CellsAt W (w.heap.size+1) Bp
 R:RdU B W r (k+6)
 K:Kept r w W
theorem LiO.weak{B r:Nat}{w:World}{l p s:Int}{A:Option Addr}{n c:Nat}{H:Option Addr}{m d:Nat}{t:Int}{xs:List In}{hs:List Int}{k k':Int}{W:World}(h:LiO B r w (AR l p s A n c H m d t) (.slice A n c) n xs (.slice H m d) m hs k' W)(hk:k'<=k+6)(hn:n<=61)(hm:m<=1001):LiW B r w k W:=by
 refine⟨⟨l,p,s,A,n,c,H,m,d,t,xs,hs,⟨hn,hm⟩,h.X,?_,?_,?_,Ints.mine h.P⟩,h.D,h.R.mono hk,h.K⟩
 . obtain⟨A',c',e,I,_⟩:=Inputs.of_own h.O;cases e; exact I
 . obtain⟨A',c',e,I⟩:=Ints.of_own h.P;cases e; exact I
 . obtain⟨A',c',e,_,I⟩:=Inputs.of_own h.O;cases e; exact I
theorem LiO.weakH{B r:Nat}{w:World}{l p s:Int}{A:Option Addr}{n c:Nat}{VH:Value}{m:Nat}{t:Int}{xs:List In}{hs ys:List Int}{k k':Int}{W:World}{H:Option Addr}{m3 d:Nat}{H0:Option Addr}{m0 d0:Nat}(h:LiO B r w (AR l p s A n c H0 m0 d0 t) (.slice A n c) n xs VH m hs k' W)(I:Ints W H m3 ys)(M:AK (w.heap.size+1+1) H)(hk:k'<=k+6)(hn:n<=61)(hm:m3<=1001):LiW B r w k (W.setCell ⟨w.heap.size,4,none⟩ (.slice H m3 d)):=by
 have g:=h.set 4 (by simp) (.slice H m3 d);refine⟨⟨l,p,s,A,n,c,H,m3,d,t,xs,ys,⟨hn,hm⟩,g.X,?_,Ints.keptX I (Gb (Kept.refl w.heap.size W) 4 _) (fun _ q off e=>by have:=M q off e; omega),?_,M⟩,g.D,g.R.mono hk,g.K⟩
 . obtain⟨A',c',e,I,_⟩:=Inputs.of_own g.O;cases e; exact I
 . obtain⟨A',c',e,_,I⟩:=Inputs.of_own g.O;cases e; exact I
theorem Kept.over{r b:Nat}{w W W':World}(K:Kept r w W)(K2:Kept b W W')(hb:w.heap.size<=b):Kept r w W' :=
 ⟨K2.os.trans K.os,K2.tape.trans K.tape,K2.output.trans K.output,Nat.le_trans K.size K2.size,fun j hj hr=>(K2.block j (by have:=K.size; omega) (by omega)).trans (K.block j hj hr)⟩
theorem Eb{B r:Nat}{k k':Int}{w W W':World}{l p s:Int}{A:Option Addr}{n c:Nat}{H:Option Addr}{m d:Nat}{t:Int}{xs:List In}{hs:List Int}(K:Kept r w W)(K2:Kept (w.heap.size+1) W W')(R:RdU B W r k')(hk:k'<=k+10)(hB:B<=w.heap.size)(Y:Inputs W A n xs)(Z:Ints W H m hs)(MA:AK (w.heap.size+1+1) A)(MH:AK (w.heap.size+1+1) H)(hnm:n<=61/\m<=1001):Gd B r k w (.returned (CH l p s A n c H m d t)) W' :=
 ⟨l,p,s,A,n,c,H,m,d,t,xs,hs,rfl,hnm,Y.kept K2 (fun _ g off e=>by have:=MA g off e; omega),Ints.keptX Z K2 (fun _ g off e=>by have:=MH g off e; omega),fun g off e=>by have:=MA g off e; omega,fun g off e=>by have:=MH g off e; omega,(R.mono hk).below (K2.below (Nat.le_trans hB K.size) (by omega)),K.over K2 (by omega)⟩
theorem LiO.row{B r:Nat}{w:World}{vs:List Value}{gb n c:Nat}{xs:List In}{VH:Value}{m:Nat}{hs:List Int}{k:Int}{W:World}(h:LiO B r w vs (.slice (some ⟨gb,0,none⟩) n c) n xs VH m hs k W)(i:Nat)(hi:i<n)(a q:Int)(z:Bool):LiO B r w vs (.slice (some ⟨gb,0,none⟩) n c) n (xs.set i ⟨a,q,z⟩) VH m hs k (((W.setCell ⟨gb,i*3,none⟩ (.int .i64 a)).setCell ⟨gb,i*3+1,none⟩ (.int .i64 q)).setCell ⟨gb,i*3+2,none⟩ (.bool z)):=by
 have h2:=h.bw; have h3:=h.rB;have gB:=(h.O.lt gb rfl).1;have hl:xs.length=n:=by have:=h.O.1; rw[AV] at this; omega
 have hp:=h.ne gb rfl;refine⟨((h.X.far (by omega) _ _).far (by omega) _ _).far (by omega) _ _,((h.D.far (by omega) _ _).far (by omega) _ _).far (by omega) _ _,?_,ownsRow_setCell_other (ownsRow_setCell_other (ownsRow_setCell_other h.P hp _) hp _) hp _,h.ne,((h.R.set _ _ _ (by omega)).set _ _ _ (by omega)).set _ _ _ (by omega),((h.K.set _ _ _ (by omega)).set _ _ _ (by omega)).set _ _ _ (by omega),h2,h3⟩;rw[<- Ib xs i ⟨a,q,z⟩ (by omega)];exact(((h.O.stored (i*3) _).1.stored (i*3+1) _).1.stored (i*3+2) _).1
theorem LiO.more{B r:Nat}{w:World}{vs:List Value}{VA:Value}{n:Nat}{xs:List In}{VH:Value}{m:Nat}{hs:List Int}{k:Int}{W:World}{W':World}{v:Value}{n':Nat}{ys:List In}(h:LiO B r w vs VA n xs VH m hs k W)(O:W'.ownsRow (w.heap.size+1+1) 89 3 v n' (AZ ys))(G:W.grownBy W' VA.ownBlock)(h9:v.ownBlock=VA.ownBlock\/v.ownBlock=some W.heap.size):LiO B r w vs v n' ys VH m hs k W':=by
 have h2:=h.bw; have h3:=h.rB;refine⟨h.X.grown G (fun e=>by have:=(h.O.lt _ e).1; omega),h.D.grown G (fun e=>by have:=(h.O.lt _ e).1; omega),O,h.P.kept G ?_,?_,h.R.grown G (fun g e=>by have:=(h.O.lt _ e).1; omega),h.K.grown G (fun g e=>by have:=(h.O.lt _ e).1; omega),h2,h3⟩
 . cases h':VH.ownBlock with
   | none=>exact .inl rfl
   | some g=>exact .inr (fun e=>h.ne g e.symm h')
 . intro g e e2;rcases h9 with q | q
   . exact h.ne g (q.symm.trans e) e2
   . have:=(h.P.lt g e2).2;have h4:W.heap.size=g:=Option.some.inj (q.symm.trans e);omega
theorem LiO.moreH{B r:Nat}{w:World}{vs:List Value}{VA:Value}{n:Nat}{xs:List In}{VH:Value}{m:Nat}{hs:List Int}{k:Int}{W:World}{W':World}{v:Value}{n':Nat}{ys:List Int}(h:LiO B r w vs VA n xs VH m hs k W)(P:W'.ownsRow (w.heap.size+1+1) 3 1 v n' (ys.map (Value.int .i64)))(G:W.grownBy W' VH.ownBlock)(h9:v.ownBlock=VH.ownBlock\/v.ownBlock=some W.heap.size):LiO B r w vs VA n xs v n' ys k W':=by
 have h2:=h.bw; have h3:=h.rB;refine⟨h.X.grown G (fun e=>by have:=(h.P.lt _ e).1; omega),h.D.grown G (fun e=>by have:=(h.P.lt _ e).1; omega),h.O.kept G ?_,P,?_,h.R.grown G (fun g e=>by have:=(h.P.lt _ e).1; omega),h.K.grown G (fun g e=>by have:=(h.P.lt _ e).1; omega),h2,h3⟩
 . cases h':VA.ownBlock with
   | none=>exact .inl rfl
   | some g=>exact .inr (fun e=>h.ne g h' e.symm)
 . intro g e e2;rcases h9 with q | q
   . exact h.ne g e (q.symm.trans e2)
   . have:=(h.O.lt g e).2;have h4:W.heap.size=g:=Option.some.inj (q.symm.trans e2);omega
theorem ID{B:Nat}(r:Nat)(k key l p s t:Int)(A:Option Addr)(n c:Nat)(H:Option Addr)(m d:Nat)(xs:List In)(hs:List Int)(w:World)(R:RdU B w r k)(hk:k<=80000)(Y:Inputs w A n xs)(Z:Ints w H m hs)(hn:n<=60)(hm:m<=100) :
 Calls Tryz.prog 33 #[.pointer (some ⟨r,0,none⟩),.int .i64 key,CH l p s A n c H m d t] w (Gd B r k w):=by
 have hr:=R.here;have hB:=R.base;have X:CellsAt ((w.alloc (.cells #[.int .i64 l,.int .i64 p,.int .i64 s,.slice A n c,.slice H m d,.int .i64 t] 26)).alloc (.cells #[.int .i64 0,.int .i64 0,.int .i64 0,.slice none 0 0,.slice none 0 0,.int .i64 0] 26)) w.heap.size (AR l p s A n c H m d t):=(CellsAt.new w _ _ _ rfl).alloc _;have D:CellsAt ((w.alloc (.cells #[.int .i64 l,.int .i64 p,.int .i64 s,.slice A n c,.slice H m d,.int .i64 t] 26)).alloc (.cells #[.int .i64 0,.int .i64 0,.int .i64 0,.slice none 0 0,.slice none 0 0,.int .i64 0] 26)) (w.heap.size+1) Bp:=CellsAt.new _ _ _ _ (by simp)
 have K:Kept r w ((w.alloc (.cells #[.int .i64 l,.int .i64 p,.int .i64 s,.slice A n c,.slice H m d,.int .i64 t] 26)).alloc (.cells #[.int .i64 0,.int .i64 0,.int .i64 0,.slice none 0 0,.slice none 0 0,.int .i64 0] 26)):=((Kept.refl r w).alloc _).alloc _;replace R:RdU B ((w.alloc (.cells #[.int .i64 l,.int .i64 p,.int .i64 s,.slice A n c,.slice H m d,.int .i64 t] 26)).alloc (.cells #[.int .i64 0,.int .i64 0,.int .i64 0,.slice none 0 0,.slice none 0 0,.int .i64 0] 26)) r k:=(R.alloc _).alloc _;have hH:0<m->∀ g off,H=some ⟨g,off,none⟩->g<w.heap.size:=fun h g off e=>by
  obtain⟨b,f,e2,h2,_⟩:=Z.2 h;rw[e2] at e; cases e; exact h2
 replace Y:Inputs ((w.alloc (.cells #[.int .i64 l,.int .i64 p,.int .i64 s,.slice A n c,.slice H m d,.int .i64 t] 26)).alloc (.cells #[.int .i64 0,.int .i64 0,.int .i64 0,.slice none 0 0,.slice none 0 0,.int .i64 0] 26)) A n xs:=(Y.alloc _).alloc _;replace Z:Ints ((w.alloc (.cells #[.int .i64 l,.int .i64 p,.int .i64 s,.slice A n c,.slice H m d,.int .i64 t] 26)).alloc (.cells #[.int .i64 0,.int .i64 0,.int .i64 0,.slice none 0 0,.slice none 0 0,.int .i64 0] 26)) H m hs:=(Z.step (Ab (Ac w) _)).step (Ab (Ac _) _)
 have hz:((w.alloc (.cells #[.int .i64 l,.int .i64 p,.int .i64 s,.slice A n c,.slice H m d,.int .i64 t] 26)).alloc (.cells #[.int .i64 0,.int .i64 0,.int .i64 0,.slice none 0 0,.slice none 0 0,.int .i64 0] 26)).heap.size=w.heap.size+1+1:=by simp
 go_enter Tryz.func33,Tryz.ntmps33;go_upto_region 1 with fail;generalize (w.alloc (.cells #[.int .i64 l,.int .i64 p,.int .i64 s,.slice A n c,.slice H m d,.int .i64 t] 26)).alloc (.cells #[.int .i64 0,.int .i64 0,.int .i64 0,.slice none 0 0,.slice none 0 0,.int .i64 0] 26)=w0 at *;have c0:=X.cell 0 _ rfl;have f0:=X.fr 0;have c1:=X.cell 1 _ rfl;have f1:=X.fr 1;have c2:=X.cell 2 _ rfl;have f2:=X.fr 2;have c3:=X.cell 3 _ rfl;have f3:=X.fr 3;have c4:=X.cell 4 _ rfl;have f4:=X.fr 4;have c5:=X.cell 5 _ rfl;have f5:=X.fr 5;have Xl:=X.lt;replace hz:=hid hz
 go_wp2_with (at_builtin; refine CS _ rfl (.tmp 7) (.tmp 9) rfl w0.heap.size (.slice (some ⟨w0.heap.size,0,none⟩) 0 0) 0 [] rfl (Bl w0 _ _ rfl (Nat.le_refl _)) A n c xs rfl (Y.alloc _) (by omega) (by simp) ?_);intro v1 w1 O G _;have S1:Below w0.heap.size w0 w1:=(Ab (Ac w0) _).grown G (by simp) (fun g e=>by have h:w0.heap.size=g:=Option.some.inj e; omega);have hz1:w.heap.size+1+1<=w1.heap.size:=by have:=hz.out; have:=S1.size; omega
 replace O:=hid (Ds (show w1.ownsRow w0.heap.size 89 3 v1 n (AZ xs) from by simpa using O) (show w.heap.size+1+1<=w0.heap.size by have:=hz.out; omega));have hA1:v1.ownBlock≠some w.heap.size:=fun e=>by have:=(O.out.lt _ e).1; omega
 obtain⟨A1,ca,hv,_,_⟩:=Inputs.of_own O.out;subst hv;replace X:=X.step S1;replace D:=hid (D.step S1);replace Z:=hid (Z.step S1);replace R:=hid (R.below (S1.mono (Nat.le_trans hB K.size)));replace K:=hid (K.trans (Kept.of_below S1));clear G S1 Y c0 f0 c1 f1 c2 f2 c3 f3 c4 f4 c5 f5 Xl;have c0:=X.cell 0 _ rfl;have f0:=X.fr 0;have c1:=X.cell 1 _ rfl;have f1:=X.fr 1;have c2:=X.cell 2 _ rfl;have f2:=X.fr 2;have c3:=X.cell 3 _ rfl;have f3:=X.fr 3;have c4:=X.cell 4 _ rfl;have f4:=X.fr 4;have c5:=X.cell 5 _ rfl;have f5:=X.fr 5;have Xl:=X.lt;replace X:=hid X;go_upto_region 2 with fail
 refine BR (fun W=>CellsAt W w.heap.size (AR l p s A1 n ca H m d t)/\CellsAt W (w.heap.size+1) Bp/\W.ownsRow (w.heap.size+1+1) 89 3 (.slice A1 n ca) n (AZ xs)/\Ints W H m hs/\RdU B W r k/\Kept r w W) ⟨X.out.set 3 (by simp) _,D.out.far (by omega) _ _,ownsRow_setCell_other O.out hA1 _,Ints.keptX Z.out (Gb (Kept.refl w.heap.size w1) 3 _) (fun h g off e=>by have:=hH h g off e; omega),R.out.set _ _ _ (by omega),K.out.set _ _ _ (by omega)⟩ ?_;clear X D O Z R K c0 f0 c1 f1 c2 f2 c3 f3 c4 f4 c5 f5 Xl hz1 hz;rintro w2 ⟨X,D,O,Z,R,K⟩;have hz2:w.heap.size+1+1<=w2.heap.size:=by have:=D.lt; omega
 have c0:=X.cell 0 _ rfl;have f0:=X.fr 0;have c1:=X.cell 1 _ rfl;have f1:=X.fr 1;have c2:=X.cell 2 _ rfl;have f2:=X.fr 2;have c3:=X.cell 3 _ rfl;have f3:=X.fr 3;have c4:=X.cell 4 _ rfl;have f4:=X.fr 4;have c5:=X.cell 5 _ rfl;have f5:=X.fr 5;have Xl:=X.lt;replace X:=hid X;replace D:=hid D;replace O:=hid O;replace R:=hid R;replace K:=hid K;go_wp2_with (at_builtin; refine AP _ rfl (.tmp 12) (.tmp 14) rfl w2.heap.size (.slice (some ⟨w2.heap.size,0,none⟩) 0 0) 0 [] rfl (World.ownsRow_lit w2 #[] 0 (Nat.le_refl _) (Nat.zero_le _) rfl) H m d hs rfl (Z.step (Ab (Ac w2) _)) (by omega) (by simp) ?_);intro v2 w3 P G h9
 have S1:Below w2.heap.size w2 w3:=(Ab (Ac w2) _).grown G (by simp) (fun g e=>by have h:w2.heap.size=g:=Option.some.inj e; omega);have hne:∀ g,(Value.slice A1 n ca).ownBlock=some g->v2.ownBlock≠some g:=fun g e e2=>by
  have h1:=(O.out.lt g e).2;rcases h9 with h9 | h9
  . rw[h9] at e2;have h:w2.heap.size=g:=Option.some.inj e2;omega
  . rw[h9] at e2;have h:w2.heap.size+1=g:=by simpa using e2
    omega
 replace P:=hid (Ds (show w3.ownsRow w2.heap.size 3 1 v2 m (hs.map (Value.int .i64)) from by simpa using P) hz2);have hA2:v2.ownBlock≠some w.heap.size:=fun e=>by have:=(P.out.lt _ e).1; omega
 obtain⟨H2,cb,hv,_⟩:=Ints.of_own P.out;subst hv;have L0:LiO B r w (AR l p s A1 n ca H m d t) (.slice A1 n ca) n xs (.slice H2 m cb) m hs k w3:=⟨X.out.step S1,D.out.step S1,As O.out S1,P.out,hne,R.out.below (S1.mono (Nat.le_trans hB K.out.size)),K.out.trans (Kept.of_below S1),hB,hr⟩;clear G S1 Z X D O P R K hne h9 c0 f0 c1 f1 c2 f2 c3 f3 c4 f4 c5 f5 Xl;have c0:=L0.X.cell 0 _ rfl;have f0:=L0.X.fr 0;have c1:=L0.X.cell 1 _ rfl;have f1:=L0.X.fr 1;have c2:=L0.X.cell 2 _ rfl;have f2:=L0.X.fr 2;have c3:=L0.X.cell 3 _ rfl;have f3:=L0.X.fr 3;have c4:=L0.X.cell 4 _ rfl;have f4:=L0.X.fr 4;have c5:=L0.X.cell 5 _ rfl;have f5:=L0.X.fr 5;have Xl:=L0.X.lt
 replace L0:=hid L0;go_upto_region 3 with fail;refine BR (LiO B r w (AR l p s A1 n ca H2 m cb t) (.slice A1 n ca) n xs (.slice H2 m cb) m hs k) (L0.out.set 4 (by simp) _) ?_;clear L0 c0 f0 c1 f1 c2 f2 c3 f3 c4 f4 c5 f5 Xl hz2 hA1 hA2 hH;intro w4 L;have L:=hid L;go_wp2_with fail;refine(Aj r 9 _ _ L.out.R (by omega) (by omega) (by omega)).mono ?_;rintro e w5 ⟨c0,⟨c00,c01⟩,rfl,R1,K1⟩;replace L:=hid (L.out.kept K1 R1);clear K1 R1
 go_upto_block 0 with fail
 go_cut [5] from 19 to 88 (fun v W=>v=.pointer (some ⟨w.heap.size,0,none⟩)/\LiW B r w k W)
 case first =>
  by_cases e0:c0=0
  . subst e0;go_wp2_with fail;refine(Aj r 63 _ _ L.out.R (by omega) (by omega) (by omega)).mono ?_;rintro e w6 ⟨v,⟨v0,v1⟩,rfl,R1,K1⟩;replace L:=hid (L.out.kept K1 R1);clear K1 R1;have c2:=L.out.X.cell 2 _ rfl;have f2:=L.out.X.fr 2;have Xl:=L.out.X.lt;go_wp2
    go_meet
    case rel=>exact⟨rfl,(show LiO B r w (AR l p (v-1) A1 n ca H2 m cb t) _ n xs _ m hs _ _ from L.out.set 2 (by simp) _).weak (by omega) (by omega) (by omega)⟩
  by_cases e1:c0=1
  . subst e1;obtain⟨H',c',eh,Z⟩:=Ints.of_own L.out.P;cases eh
    have MH:=hid (Ints.mine L.out.P);have MB:AK B H2:=fun g off e=>by have:=MH.out g off e; omega
    have hR:=hid L.out.R;replace Z:=hid Z;replace MB:=hid MB;have c4:=L.out.X.cell 4 _ rfl;have f4:=L.out.X.fr 4;have Xl:=L.out.X.lt;go_wp2_with fail;refine(FI r _ H2 m cb hs _ hR.out (by omega) Z.out MB.out (by omega)).mono ?_;rintro e w6 ⟨H3,m3,d3,ys,rfl,⟨hm3,_⟩,I3,M3,R3,K3⟩;replace M3:AK (w.heap.size+1+1) H3:=fun g off e=>by have:=M3 g off e; have:=L.out.D.lt; omega
    replace L:=hid (L.out.kept K3 R3);replace M3:=hid M3;replace I3:=hid I3;clear R3 K3 c4 f4 Xl hR Z MB MH;have c4:=L.out.X.cell 4 _ rfl;have f4:=L.out.X.fr 4;have Xl:=L.out.X.lt;go_wp2
    go_meet
    case rel=>exact⟨rfl,L.out.weakH I3.out M3.out (by omega) (by omega) hm3⟩
  by_cases e2:c0=2
  . subst e2;by_cases h0:n=0
    . subst h0;have c3:=L.out.X.cell 3 _ rfl;have f3:=L.out.X.fr 3;have Xl:=L.out.X.lt;go_wp2
      go_meet
      case rel=>exact⟨rfl,L.out.weak (by omega) (by omega) (by omega)⟩
    have hpos:(0:Int)<(n:Int):=by omega
    obtain⟨gb,rfl⟩:∃ gb,A1=some ⟨gb,0,none⟩:=by
     rcases L.out.O.2 with⟨_,h⟩ | ⟨g,cap,cur,h,_⟩
     . omega
     . cases h
       exact⟨g,rfl⟩
    have c3:=L.out.X.cell 3 _ rfl;have f3:=L.out.X.fr 3;have Xl:=L.out.X.lt;go_upto_region 10 with fail;clear c3 f3 Xl;refine wp_region_held_drew (S:=fun w'=>CellsAt w' w.heap.size (AR l p s (some ⟨gb,0,none⟩) n ca H2 m cb t)) (by kernel_rfl) L.out.X.drew (fun hHeld=>?_);replace L:=hid (L.out.step (Ac _).drew);generalize w5.drew=w6 at *;refine tl 0 ?_ ?_ hHeld ?_;rotate_left
    . intro w hSw
      try dsimp only at hSw
      go_simp
      all_goals with_reducible rfl
    try simp only[Act.put,sx]
    refine tl 1 ?_ ?_ hHeld ?_;rotate_left
    . intro w hSw;have cj:=hSw.cell 3 _ rfl;go_simp
      all_goals with_reducible rfl
    try simp only[Act.put,sx]
    refine tl 2 ?_ ?_ hHeld ?_;rotate_left
    . intro w hSw
      try dsimp only at hSw
      go_simp
      all_goals with_reducible rfl
    try simp only[Act.put,sx]
    refine tl 3 ?_ ?_ hHeld ?_;rotate_left
    . intro w hSw
      try dsimp only at hSw
      go_simp
      all_goals with_reducible rfl
    try simp only[Act.put,sx]
    refine tl 4 ?_ ?_ hHeld ?_;rotate_left
    . intro w hSw;have cj:=hSw.cell 3 _ rfl;go_simp
      all_goals with_reducible rfl
    try simp only[Act.put,sx]
    refine tl 5 ?_ ?_ hHeld ?_;rotate_left
    . intro w hSw
      try dsimp only at hSw
      go_simp
      all_goals with_reducible rfl
    try simp only[Act.put,sx]
    refine tl 7 ?_ ?_ hHeld ?_;rotate_left
    . intro w hSw
      try dsimp only at hSw
      go_simp
      all_goals with_reducible rfl
    try simp only[Act.put,sx]
    refine wpAnyH_ready (rs:=[6]) (by kernel_rfl) (by simp) ?_;apply AllReadyH.cons rfl ?_ AllReadyH.nil;intro K hK;go_simp
    go_at_call 32
    refine(Aj r n _ _ L.out.R (by omega) (by omega) (by omega)).mono ?_;rintro e w7 ⟨ix,⟨ix0,ix1⟩,rfl,R1,K1⟩;replace L:=hid (L.out.kept K1 R1);obtain⟨ix,rfl⟩:=Int.eq_ofNat_of_zero_le ix0;have hix:ix<n:=by omega
    clear R1 K1;clear hHeld;go_wp2_with fail;refine hK.out _ _ L.out.X (fun hHeld=>?_);clear hK K
    try simp only[Act.put,sx]
    refine wpAnyH_ready (rs:=[8]) (by kernel_rfl) (by simp) ?_;apply AllReadyH.cons rfl ?_ AllReadyH.nil;intro K hK;go_simp
    go_at_call 58
    refine(F9 r _ _ L.out.R (by omega)).mono ?_;rintro e w8 ⟨a,q,z,_,rfl,R1,K1⟩;replace L:=hid (L.out.kept K1 R1);clear R1 K1;clear hHeld;go_wp2_with fail;refine hK.out _ _ L.out.X (fun hHeld=>?_);clear hK K
    try simp only[Act.put,sx]
    refine tl 9 ?_ ?_ hHeld ?_;rotate_left
    . intro w hSw
      try dsimp only at hSw
      go_simp
      all_goals with_reducible rfl
    try simp only[Act.put,sx]
    have hl:xs.length=n:=by have:=L.out.O.1; rw[AV] at this; omega
    have ci0:=L.out.O.cellAt (ix*3) (by omega);have ci1:=L.out.O.cellAt (ix*3+1) (by omega);have ci2:=L.out.O.cellAt (ix*3+2) (by omega);have j0:=CU xs ix 0 (by omega) (by omega);rw[Nat.add_zero] at j0;rw[j0] at ci0;rw[CU xs ix 1 (by omega) (by omega)] at ci1;rw[CU xs ix 2 (by omega) (by omega)] at ci2;have fi0:=L.out.O.frozenAt (ix*3);have fi1:=L.out.O.frozenAt (ix*3+1);have fi2:=L.out.O.frozenAt (ix*3+2);have gl:=(L.out.O.lt gb rfl).2;clear j0;replace L:=hid (L.out.row ix hix a q z);generalize DK (xs.getD ix iz) 0=q0 at *;generalize DK (xs.getD ix iz) 1=q1 at *;generalize DK (xs.getD ix iz) 2=q2 at *;clear hHeld
    refine wpAnyH_ready (rs:=[10]) (by kernel_rfl) (by simp) ?_;apply AllReadyH.cons rfl ?_ AllReadyH.nil;intro K hK;go_simp;refine hK.out _ _ L.out.X (fun hHeld=>?_);clear hK K
    try simp only[Act.put,sx]
    refine wpAnyH_done (by kernel_rfl) ?_ _;clear ci0 ci1 ci2 fi0 fi1 fi2 gl;go_wp2
    go_meet
    case rel=>exact⟨rfl,L.out.weak (by omega) (by omega) (by omega)⟩
  by_cases e3:c0=3
  . subst e3;go_wp2_with fail;refine(Aj r 101 _ _ L.out.R (by omega) (by omega) (by omega)).mono ?_;rintro e w6 ⟨v,⟨v0,v1⟩,rfl,R1,K1⟩;replace L:=hid (L.out.kept K1 R1);clear K1 R1;have c0:=L.out.X.cell 0 _ rfl;have f0:=L.out.X.fr 0;have Xl:=L.out.X.lt;go_wp2
    go_meet
    case rel=>exact⟨rfl,(show LiO B r w (AR v p s A1 n ca H2 m cb t) _ n xs _ m hs _ _ from L.out.set 0 (by simp) _).weak (by omega) (by omega) (by omega)⟩
  by_cases e4:c0=4
  . subst e4;go_wp2_with fail;refine(Aj r 12 _ _ L.out.R (by omega) (by omega) (by omega)).mono ?_;rintro e w6 ⟨v,⟨v0,v1⟩,rfl,R1,K1⟩;replace L:=hid (L.out.kept K1 R1);clear K1 R1;have c1:=L.out.X.cell 1 _ rfl;have f1:=L.out.X.fr 1;have Xl:=L.out.X.lt;go_wp2
    go_meet
    case rel=>exact⟨rfl,(show LiO B r w (AR l (v-1) s A1 n ca H2 m cb t) _ n xs _ m hs _ _ from L.out.set 1 (by simp) _).weak (by omega) (by omega) (by omega)⟩
  by_cases e5:c0=5
  . subst e5;go_wp2_with fail;refine(Aj r 100 _ _ L.out.R (by omega) (by omega) (by omega)).mono ?_;rintro e w6 ⟨v,⟨v0,v1⟩,rfl,R1,K1⟩;replace L:=hid (L.out.kept K1 R1);clear K1 R1;go_wp2_with fail;refine(Aj r 100 _ _ L.out.R (by omega) (by omega) (by omega)).mono ?_;rintro e w7 ⟨v2,⟨v20,v21⟩,rfl,R1,K1⟩;replace L:=hid (L.out.kept K1 R1);clear K1 R1;have c5:=L.out.X.cell 5 _ rfl;have f5:=L.out.X.fr 5;have Xl:=L.out.X.lt;go_wp2
    go_meet
    case rel=>exact⟨rfl,(show LiO B r w (AR l p s A1 n ca H2 m cb (10000*v+v2)) _ n xs _ m hs _ _ from L.out.set 5 (by simp) _).weak (by omega) (by omega) (by omega)⟩
  by_cases e6:c0=6
  . subst e6;have c3:=L.out.X.cell 3 _ rfl;have f3:=L.out.X.fr 3;have Xl:=L.out.X.lt;go_wp2_with (at_builtin; refine CS _ rfl (.tmp 71) (.tmp 73) rfl (w.heap.size+1+1) (.slice A1 n ca) n xs rfl (L.out.O.alloc _) (some ⟨w5.heap.size,0,none⟩) 1 1 [⟨0,1,false⟩] rfl (Inputs.one w5 w5.heap.size 0 1 false _ rfl) (by omega) (by have:=L.out.D.lt; simp; omega) ?_);intro v9 w9 O9 G9 h9;obtain⟨A9,c9,hv,_,_⟩:=Inputs.of_own O9;subst hv;have L9:=hid ((L.out.step (Ab (Ac w5) _)).more O9 G9 (h9.imp id fun e=>e.trans (by simp)));clear O9 G9 h9 L c3 f3 Xl;have c3:=L9.out.X.cell 3 _ rfl;have f3:=L9.out.X.fr 3;have Xl:=L9.out.X.lt;go_wp2;clear c3 f3 Xl
    go_loopg [] ((n+1) / 5-m) (fun g wr=>∃(H':Option Addr) (m' cb':Nat) (hs':List Int),g=(n+1) / 5-m'/\m'<=100/\LiO B r w (AR l p s A9 (n+1) c9 H' m' cb' t) (.slice A9 (n+1) c9) (n+1) (xs++[⟨0,1,false⟩]) (.slice H' m' cb') m' hs' (k+1) wr)
    case atStart=>exact⟨H2,m,cb,hs,rfl,hm,L9.out.set 3 (by simp) _⟩
    case round =>
     clear L9;obtain⟨H',m',cb',hs',hg,hm',L⟩:=hrel;have L:=hid L;have hg:=hid hg;have c3:=L.out.X.cell 3 _ rfl;have f3:=L.out.X.fr 3;have c4:=L.out.X.cell 4 _ rfl;have f4:=L.out.X.fr 4;have Xl:=L.out.X.lt;by_cases hlt:m'<(n+1) / 5
     . have hi:(m':Int)<((n:Int)+1) / 5:=by omega
       go_wp2_with (at_builtin; refine AP _ rfl (.tmp 85) (.tmp 86) rfl (w.heap.size+1+1) (.slice H' m' cb') m' hs' rfl (L.out.P.alloc _) (some ⟨wr.heap.size,0,none⟩) 1 1 [5] rfl (Ints.one wr 5 _) (by omega) (by have:=L.out.D.lt; simp; omega) ?_);intro v10 w10 P10 G10 h10;replace P10:w10.ownsRow (w.heap.size+1+1) 3 1 v10 (m'+1) ((hs'++[5]).map (Value.int .i64)):=by rw[List.map_append]; exact P10
       obtain⟨H10,c10,hv,_⟩:=Ints.of_own P10;subst hv;have L10:=hid ((L.out.step (Ab (Ac wr) _)).moreH P10 G10 (h10.imp id fun e=>e.trans (by simp)));clear P10 G10 h10 L c3 f3 c4 f4 Xl;have c4:=L10.out.X.cell 4 _ rfl;have f4:=L10.out.X.fr 4;have Xl:=L10.out.X.lt;go_wp2
       go_roundg ((n+1) / 5-(m'+1))
       case measure=>rw[hg.out]; omega
       case rel=>exact⟨H10,m'+1,c10,hs'++[5],rfl,by omega,L10.out.set 4 (by simp) _⟩
     . have hi:((n:Int)+1) / 5<=(m':Int):=by omega
       go_wp2
       go_meet
       case rel=>exact⟨rfl,L.out.weak (by omega) (by omega) (by omega)⟩
  have d0:(c0==0)=false:=beq_eq_false_iff_ne.2 e0;have d1:(c0==1)=false:=beq_eq_false_iff_ne.2 e1;have d2:(c0==2)=false:=beq_eq_false_iff_ne.2 e2;have d3:(c0==3)=false:=beq_eq_false_iff_ne.2 e3;have d4:(c0==4)=false:=beq_eq_false_iff_ne.2 e4;have d5:(c0==5)=false:=beq_eq_false_iff_ne.2 e5;have d6:(c0==6)=false:=beq_eq_false_iff_ne.2 e6;clear e0 e1 e2 e3 e4 e5 e6;go_wp2
  go_meet
  case rel=>exact⟨rfl,L.out.weak (by omega) (by omega) (by omega)⟩
 case rest =>
  obtain⟨hu,⟨l,p,s,A,n,c,H,m,d,t,xs,hs,hnm,X,Y,Z,MA,MH⟩,D,R,K⟩:=hcut;subst hu;replace R:=hid R;replace K:=hid K;replace D:=hid D;replace Y:=hid Y;replace Z:=hid Z;replace MA:=hid MA;replace MH:=hid MH;clear L;replace X:=hid X;go_wp2_with fail;refine(Aj r 2 _ _ R.out (by omega) (by omega) (by omega)).mono ?_;rintro e wd ⟨v,⟨v0,v1⟩,rfl,R1,K1⟩;have hDl:=D.out.lt;replace X:=X.out.kept K1 (by omega);replace D:=hid (D.out.kept K1 (by omega));replace Y:=hid (Y.out.kept K1 (fun _ g off e=>by have:=MA.out g off e; omega));replace Z:=hid (Ints.keptX Z.out K1 (fun _ g off e=>by have:=MH.out g off e; omega))
  replace K:=hid (K.out.trans K1);replace R:=hid R1;clear R1 K1;by_cases ev:v=0
  . subst ev;have c0:=X.cell 0 _ rfl;have f0:=X.fr 0;have c1:=X.cell 1 _ rfl;have f1:=X.fr 1;have c2:=X.cell 2 _ rfl;have f2:=X.fr 2;have c3:=X.cell 3 _ rfl;have f3:=X.fr 3;have c4:=X.cell 4 _ rfl;have f4:=X.fr 4;have c5:=X.cell 5 _ rfl;have f5:=X.fr 5;have Xl:=X.lt;replace X:=hid X;go_wp2_with fail;refine(Ic l p s A n c H m d t xs hs _ Y.out Z.out (by omega) (by omega)).mono ?_;rintro e we ⟨rfl,S⟩;replace X:=X.out.step S;replace D:=hid (D.out.step S);replace Y:=hid (Y.out.step S);replace Z:=hid (Z.out.step S);replace R:=hid (R.out.below (S.mono (Nat.le_trans hB K.out.size)));replace K:=hid (K.out.trans (Kept.of_below S))
    clear S c0 f0 c1 f1 c2 f2 c3 f3 c4 f4 c5 f5 Xl;cases ok:Bq ⟨l,p,s,xs,hs,t⟩
    . replace ok:=hid ok;replace X:=hid X;go_upto_region 23 with fail;refine wp_region_lit ?_;refine Ag rfl 26 (.tmp 5) rfl w.heap.size rfl (AR l p s A n c H m d t) X.out Tryz.underlying26 rfl Ae ?_;refine Av rfl 26 (.tmp 6) (.tmp 105) rfl (w.heap.size+1) rfl (AR l p s A n c H m d t) rfl Bp D.out (by simp) Ae rfl ?_;go_wp2;exact bodyPost_ret (v:=CH l p s A n c H m d t) (Ai rfl (w.heap.size+1) rfl (AR l p s A n c H m d t) (D.out.all (AR l p s A n c H m d t) (by simp)) Tryz.underlying26 rfl Ae) rfl (Eb K.out (Cq _ 0 (Kept.refl (w.heap.size+1) _)) R.out (by omega) hB Y.out Z.out MA.out MH.out hnm)
    have hx:=hid (DC ok).2.2.2.2.1;have hm2:m<=1000:=by have:=(DC ok).2.2.2.2.2.1; have:=(AO.1 hx.out).2; have:=Z.out.1; simp only at *; omega
    replace ok:=hid ok;replace X:=hid X;cases hkey:Ax key 1 9999
    . replace hkey:=hid hkey;go_wp2_with fail;refine(Ak key 1 9999 false _ hkey.out).mono ?_;rintro e w' ⟨rfl,rfl⟩;go_upto_region 23 with fail;refine wp_region_lit ?_;refine Ag rfl 26 (.tmp 5) rfl w.heap.size rfl (AR l p s A n c H m d t) X.out Tryz.underlying26 rfl Ae ?_;refine Av rfl 26 (.tmp 6) (.tmp 105) rfl (w.heap.size+1) rfl (AR l p s A n c H m d t) rfl Bp D.out (by simp) Ae rfl ?_;go_wp2
      exact bodyPost_ret (v:=CH l p s A n c H m d t) (Ai rfl (w.heap.size+1) rfl (AR l p s A n c H m d t) (D.out.all (AR l p s A n c H m d t) (by simp)) Tryz.underlying26 rfl Ae) rfl (Eb K.out (Cq _ 0 (Kept.refl (w.heap.size+1) _)) R.out (by omega) hB Y.out Z.out MA.out MH.out hnm)
    replace hkey:=hid hkey;go_wp2_with fail;refine(Ak key 1 9999 true _ hkey.out).mono ?_;rintro e w' ⟨rfl,rfl⟩;replace X:=X.out;have c0:=X.cell 0 _ rfl;have f0:=X.fr 0;have c1:=X.cell 1 _ rfl;have f1:=X.fr 1;have c2:=X.cell 2 _ rfl;have f2:=X.fr 2;have c3:=X.cell 3 _ rfl;have f3:=X.fr 3;have c4:=X.cell 4 _ rfl;have f4:=X.fr 4;have c5:=X.cell 5 _ rfl;have f5:=X.fr 5;have Xl:=X.lt;replace X:=hid X;go_wp2_with fail;refine(Kj l p s A n c H m d t xs hs _ Y.out Z.out hx.out hm2).mono ?_;rintro e wf ⟨v9,rfl,O,S⟩;obtain⟨A7,c7,rfl,I7⟩:=Ints.of_own O;replace X:=X.out.step S;replace D:=hid (D.out.step S);replace Y:=hid (Y.out.step S)
    replace Z:=hid (Z.out.step S);replace R:=hid (R.out.below (S.mono (Nat.le_trans hB K.out.size)));replace K:=hid (K.out.trans (Kept.of_below S));have T:=Js key A7 (repL ⟨l,p,s,xs,hs,t⟩).length c7 (repL ⟨l,p,s,xs,hs,t⟩) wf I7 (by have:=Z.out.1; have:=Y.out.1; simp only[repL,List.length_append,List.length_cons,List.length_nil,An,List.length_map]; omega);generalize tg key (repL ⟨l,p,s,xs,hs,t⟩)=tt at *;replace T:=hid T;clear O S I7 c0 f0 c1 f1 c2 f2 c3 f3 c4 f4 c5 f5 Xl;have c0:=X.cell 0 _ rfl;have f0:=X.fr 0;have c1:=X.cell 1 _ rfl;have f1:=X.fr 1;have c2:=X.cell 2 _ rfl;have f2:=X.fr 2;have c3:=X.cell 3 _ rfl;have f3:=X.fr 3
    have c4:=X.cell 4 _ rfl;have f4:=X.fr 4;have c5:=X.cell 5 _ rfl;have f5:=X.fr 5;have Xl:=X.lt;replace X:=hid X;go_wp2_with fail;refine T.out.mono ?_;rintro e w' ⟨rfl,rfl⟩;go_upto_region 23 with fail
    refine BR (fun W=>CellsAt W w.heap.size (AR l p s A n c H m d tt)/\CellsAt W (w.heap.size+1) Bp/\Inputs W A n xs/\Ints W H m hs/\RdU B W r (k+7)/\Kept r w W) ⟨X.out.set 5 (by simp) _,D.out.far (by omega) _ _,Y.out.kept (Gb (Kept.refl w.heap.size _) 5 _) (fun _ g off e=>by have:=MA.out g off e; omega),Ints.keptX Z.out (Gb (Kept.refl w.heap.size _) 5 _) (fun _ g off e=>by have:=MH.out g off e; omega),(R.out.set _ _ _ (by omega)).mono (by omega),K.out.set _ _ _ (by omega)⟩ ?_;clear X D Y Z R K T c0 f0 c1 f1 c2 f2 c3 f3 c4 f4 c5 f5 Xl hDl;rintro wg ⟨X,D,Y,Z,R,K⟩;replace X:=hid X;replace D:=hid D;replace Y:=hid Y;replace Z:=hid Z
    replace R:=hid R;replace K:=hid K;go_upto_region 23 with fail;refine wp_region_lit ?_;refine Ag rfl 26 (.tmp 5) rfl w.heap.size rfl (AR l p s A n c H m d tt) X.out Tryz.underlying26 rfl Ae ?_;refine Av rfl 26 (.tmp 6) (.tmp 105) rfl (w.heap.size+1) rfl (AR l p s A n c H m d tt) rfl Bp D.out (by simp) Ae rfl ?_;go_wp2;exact bodyPost_ret (v:=CH l p s A n c H m d tt) (Ai rfl (w.heap.size+1) rfl (AR l p s A n c H m d tt) (D.out.all (AR l p s A n c H m d tt) (by simp)) Tryz.underlying26 rfl Ae) rfl (Eb K.out (Cq _ 0 (Kept.refl (w.heap.size+1) _)) R.out (by omega) hB Y.out Z.out MA.out MH.out hnm)
  . have evb:(v==0)=false:=beq_eq_false_iff_ne.2 ev;replace X:=hid X;go_upto_region 23 with fail;refine wp_region_lit ?_;refine Ag rfl 26 (.tmp 5) rfl w.heap.size rfl (AR l p s A n c H m d t) X.out Tryz.underlying26 rfl Ae ?_;refine Av rfl 26 (.tmp 6) (.tmp 105) rfl (w.heap.size+1) rfl (AR l p s A n c H m d t) rfl Bp D.out (by simp) Ae rfl ?_;go_wp2
    exact bodyPost_ret (v:=CH l p s A n c H m d t) (Ai rfl (w.heap.size+1) rfl (AR l p s A n c H m d t) (D.out.all (AR l p s A n c H m d t) (by simp)) Tryz.underlying26 rfl Ae) rfl (Eb K.out (Cq _ 0 (Kept.refl (w.heap.size+1) _)) R.out (by omega) hB Y.out Z.out MA.out MH.out hnm)
end Go.Proofs.YtgbiagonfbnooaaGreatDoor
