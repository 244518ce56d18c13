import Derived.Test.YtaemcekcancpdaaGreatDoorZRunScM
set_option linter.all false
set_option maxRecDepth 100000
set_option maxHeartbeats 8000000
open Go.Lib
namespace Go.Proofs.YtaemcekcancpdaaGreatDoor.fnScoreLongerW
open Go.RowKit
open M
open Ren
open Go.Conc
noncomputable abbrev kB:Code:=Dr Tryz.f7
noncomputable def c0:Code:=cA kB
noncomputable def cX:Code:=cA (cB kB)
noncomputable def c3:Code:=cA (cB (cB kB))
noncomputable def c4:Code:=cA (cB (cB (cB kB)))
noncomputable def cR:Code:=cB (cB (cB (cB kB)))
noncomputable def c5:Code:=cA cR
noncomputable def c6:Code:=cA (cB cR)
noncomputable def cQ:Code:=cB (cB cR)
theorem kB_eq:kB=.seq c0 (.seq cX (.seq c3 (.seq c4 cR))):=rfl
theorem kR_eq:cR=.seq c5 (.seq c6 cQ):=rfl
abbrev fV:FuncId:=7
theorem fV_at:PP.funcs[fV]?=some Tryz.f7:=Tryz.func7
theorem k0:XR.C c0:=by show AH PP Ck Cn c0=true; kernel_rfl
theorem kX:XR.C cX:=by show AH PP Ck Cn cX=true; kernel_rfl
theorem k3:XR.C c3:=by show AH PP Ck Cn c3=true; kernel_rfl
theorem k5:XR.C c5:=by show AH PP Ck Cn c5=true; kernel_rfl
theorem k6:XR.C c6:=by show AH PP Ck Cn c6=true; kernel_rfl
theorem o4:∀ i∈[0,1],∀ o,(cO c4)[i]?=some o->OpOk XR gR o.op:=Bz (by kernel_rfl)
theorem o4b:∀ i∈[3],∀ o,(cO c4)[i]?=some o->OpOk XR gR o.op:=Bz (by kernel_rfl)
abbrev TV(J:Nat->Value):Array Value:=#[J 0,J 1,J 2,J 3,J 4,J 5,J 6,J 7,J 8,J 9,J 10,J 11,J 12,J 13,J 14,J 15,J 16,J 17,J 18,J 19,J 20,J 21,J 22,J 23,J 24,J 25,J 26,J 27,J 28,J 29,J 30,J 31,J 32,J 33,J 34,J 35,J 36,J 37,J 38,J 39,J 40,J 41,J 42,J 43,J 44,J 45,J 46,J 47,J 48,J 49,J 50]
theorem tv_of{T:Array Value}(h:T.size=51):T=TV fun n=>T.getD n undef:=by
 refine Array.ext h fun i h1 h2=>?_;have e:∀ n (hn:n<T.size),T.getD n undef=T[n]:=fun n hn=>by simp[Array.getD,hn]
 simp only[TV];have:i<51:=h▸h1
 iterate 51 (rcases i with _ | i; · exact(e _ _).symm)
 omega
theorem tv_args(a:Value):#[a]++Array.replicate 50 undef=#[a,undef,undef,undef,undef,undef,undef,undef,undef,undef,undef,undef,undef,undef,undef,undef,undef,undef,undef,undef,undef,undef,undef,undef,undef,undef,undef,undef,undef,undef,undef,undef,undef,undef,undef,undef,undef,undef,undef,undef,undef,undef,undef,undef,undef,undef,undef,undef,undef,undef,undef]:=by kernel_rfl
noncomputable def cE:Code:=cA cQ
theorem kQ_eq:cQ=.seq cE .ret:=rfl
theorem Un:cE=.region 8 (cO cE) true:=rfl
abbrev oA:List (List Nat):=[[0,1,2,3],[0,2,1,3],[1,0,2,3],[1,2,0,3],[1,2,3,0],[2,0,1,3],[2,1,0,3],[2,1,3,0]]
abbrev oB:List (List Nat):=[[0,1,2,3,5],[0,1,2,5,3],[0,1,5,2,3],[0,2,1,3,5],[0,2,1,5,3],[0,2,5,1,3],[0,5,1,2,3],[0,5,2,1,3],[1,0,2,3,5],[1,0,2,5,3],[1,0,5,2,3],[1,2,0,3,5],[1,2,0,5,3],[1,2,3,0,5],[1,2,3,5,0],[1,2,5,0,3],[1,2,5,3,0],[1,5,0,2,3],[1,5,2,0,3],[1,5,2,3,0],[2,0,1,3,5],[2,0,1,5,3],[2,0,5,1,3],[2,1,0,3,5],[2,1,0,5,3],[2,1,3,0,5],[2,1,3,5,0],[2,1,5,0,3],[2,1,5,3,0],[2,5,0,1,3],[2,5,1,0,3],[2,5,1,3,0],[5,0,1,2,3],[5,0,2,1,3],[5,1,0,2,3],[5,1,2,0,3],[5,1,2,3,0],[5,2,0,1,3],[5,2,1,0,3],[5,2,1,3,0]]
abbrev oC:List (List Nat):=[[11,12,13,14,15],[11,13,12,14,15],[11,13,14,12,15],[12,11,13,14,15],[12,13,11,14,15],[12,13,14,11,15],[12,13,14,15,11],[13,11,12,14,15],[13,11,14,12,15],[13,12,11,14,15],[13,12,14,11,15],[13,12,14,15,11],[13,14,11,12,15],[13,14,12,11,15],[13,14,12,15,11]]
def D8(md:Region.Mode)(ops:Array Oper):Nat->Array Bool->List (List Nat × Array Bool)
 | 0,d=>[([],d)]
 | k+1,d=>if Region.ready md ops d=[] then [([],d)] else (Region.ready md ops d).flatMap fun i=>(D8 md ops k (d.setIfInBounds i true)).map fun p=>(i::p.1,p.2)
theorem ET(md:Region.Mode)(ops:Array Oper)(m:Nat):∀(k:Nat) (d:Array Bool) (l:List Nat),l∈Cc md ops (k+m) d->∃ p∈D8 md ops k d,∃ r∈Cc md ops m p.2,l=p.1++r
 | 0,d,l,h=>⟨([],d),by simp[D8],l,by simpa using h,rfl⟩
 | k+1,d,l,h=>by
  rw[show k+1+m=k+m+1 from by omega,Cc] at h;rw[D8];by_cases e:Region.ready md ops d=[]
  . rw[if_pos e] at h;rw[if_pos e];refine⟨([],d),List.mem_singleton.2 rfl,[],?_,by simpa using h⟩;cases m with
    | zero=>simp[Cc]
    | succ m=>simp[Cc,e]
  . rw[if_neg e] at h;rw[if_neg e];obtain⟨i,hi,h2⟩:=List.mem_flatMap.1 h;obtain⟨l2,h3,rfl⟩:=List.mem_map.1 h2;obtain⟨p,hp,r,hr,rfl⟩:=ET md ops m k _ l2 h3;exact⟨(i::p.1,p.2),List.mem_flatMap.2 ⟨i,hi,List.mem_map.2 ⟨p,hp,rfl⟩⟩,r,hr,rfl⟩
abbrev dn(n:Nat):List Bool:=List.replicate n true++List.replicate (21-n) false
theorem f1:(D8 .any (cO cE) 6 (Array.replicate 21 false)).all (fun p=>((oA.any fun x=>x++[4,5]==p.1)||(oB.any fun x=>x++[4]==p.1))&&p.2.toList==dn 6)=true:=by kernel_rfl
theorem f2:(D8 .any (cO cE) 5 (dn 6).toArray).all (fun p=>p.1==[6,7,8,9,10]&&p.2.toList==dn 11)=true:=by kernel_rfl
theorem f3:(D8 .any (cO cE) 5 (dn 11).toArray).all (fun p=>(oC.any fun x=>x==p.1)&&p.2.toList==dn 16)=true:=by kernel_rfl
theorem f4:(Cc .any (cO cE) 5 (dn 16).toArray).all (fun l=>l==[16,17,18,19,20])=true:=by kernel_rfl
theorem UW:(cO cE).size=21:=by kernel_rfl
theorem o8:∀ i∈[0,1,2,3,5,6,7,8,9,10,11,12,13,14,15,17,18,19,20],∀ o,(cO cE)[i]?=some o->OpOk XR gR o.op:=Bz (by kernel_rfl)
theorem Ua{l:List Nat}(h:∀ i∈l,i≠4/\i≠16/\i<=20):∀ i∈l,∀ o,(cO cE)[i]?=some o->OpOk XR gR o.op:=fun i hi=>o8 i (by
 obtain⟨h1,h2,h3⟩:=h i hi;simp only[List.mem_cons,List.not_mem_nil,or_false];omega)
theorem UX{L:List (List Nat)}(h:L.all (fun l=>l.all fun i=>decide (i≠4/\i≠16/\i<=20))=true){l:List Nat}(hl:l∈L):∀ i∈l,i≠4/\i≠16/\i<=20:=fun i hi=>of_decide_eq_true (List.all_eq_true.1 (List.all_eq_true.1 h l hl) i hi)
theorem KI(t:Nat):∃ l1 b l3,Region.linearise .any (cO cE) t=l1++(4::(b++([6,7,8,9,10]++(l3++(16::[17,18,19,20])))))/\(l1∈oA/\b=[5]\/l1∈oB/\b=[])/\l3∈oC:=by
 have h:=IE .any (cO cE) t;generalize Region.linearise .any (cO cE) t=l at *;rw[UW] at h;obtain⟨p,hp,r,hr,rfl⟩:=ET _ _ 15 6 _ _ h;have q:=List.all_eq_true.1 f1 _ hp;obtain⟨p1,d1⟩:=p;simp only[Bool.and_eq_true,Bool.or_eq_true,List.any_eq_true,beq_iff_eq] at q;obtain⟨q1,q2⟩:=q;obtain rfl:d1=(dn 6).toArray:=by rw[<- q2]
 replace hr:r∈Cc .any (cO cE) (5+10) (dn 6).toArray:=hr;obtain⟨p,hp,r2,hr2,rfl⟩:=ET .any (cO cE) 10 5 (dn 6).toArray _ hr;have q:=List.all_eq_true.1 f2 _ hp;obtain⟨p2,d2⟩:=p;simp only[Bool.and_eq_true,beq_iff_eq] at q;obtain⟨rfl,q2⟩:=q;obtain rfl:d2=(dn 11).toArray:=by rw[<- q2]
 replace hr2:r2∈Cc .any (cO cE) (5+5) (dn 11).toArray:=hr2;obtain⟨p,hp,r3,hr3,rfl⟩:=ET .any (cO cE) 5 5 (dn 11).toArray _ hr2;have q:=List.all_eq_true.1 f3 _ hp;obtain⟨p3,d3⟩:=p;simp only[Bool.and_eq_true,List.any_eq_true,beq_iff_eq] at q;obtain⟨⟨l3,h3,rfl⟩,q2⟩:=q;obtain rfl:d3=(dn 16).toArray:=by rw[<- q2]
 replace hr3:r3∈Cc .any (cO cE) 5 (dn 16).toArray:=hr3;have q:=List.all_eq_true.1 f4 _ hr3;simp only[beq_iff_eq] at q;subst q;rcases q1 with⟨l1,h6,h7⟩ | ⟨l1,h6,h7⟩
 . exact⟨l1,[5],l3,by rw[<- h7]; simp,.inl ⟨h6,rfl⟩,h3⟩
 . exact⟨l1,[],l3,by rw[<- h7]; simp,.inr ⟨h6,rfl⟩,h3⟩
theorem HP{L:Lv}{xs:List In}{n i:Nat}(hl:xs.length=n)(h:B8 L xs n (n:Int)=true)(hi:i<=n):L.score (xs.take i) i=Nx (L.at xs i) true:=by
 obtain⟨_,h2,h3⟩:=BZ.1 h;have hl2:(xs.take i).length=i:=by rw[List.length_take]; omega
 have hk:B8 L (xs.take i) i (i:Int)=true:=BZ.2 ⟨⟨by omega,by omega⟩,h2,JQ L.t L.b xs i 0 0 0 (by omega) h3⟩;rw[Lv.score,hk,fin_at hk];unfold Lv.at;rw[List.take_take,Nat.min_self]
section
variable {h0:Array Obj} {a:Option Addr} {len cap:Nat} {zs:List Int} {T:Array Value} {w:World} {L:Lv} {D:Option Addr} {N cc:Nat} {xs:List In} {v:Int} {b c:Nat} {s:St} {ok:Bool}
theorem a0{J:Nat->Value}(j0:J 0=.slice a len cap)(hr:IsRow .u8 w a len cap zs)(hq:Quarter w)(hp:Hp h0 w):c0.wp Tryz.prog (fun e t u=>e=.normal/\t.defers=[]/\Za h0 51 a len cap zs t.tmps u) ⟨TV J,[]⟩ w:=by
 rw[show c0=.region 0 _ false from rfl];go_wp;exact⟨rfl,rfl,rfl,rfl,hr,hq,hp⟩
theorem aX(H:Za h0 51 a len cap zs T w):cX.wp Tryz.prog (fun e t u=>t.defers=[]/\(e=.normal/\Za h0 51 a len cap zs t.tmps u\/e=.ret/\t.tmps.getD 2 undef=.bool true)) ⟨T,[]⟩ w:=by
 obtain⟨J,rfl⟩:∃ J,T=TV J:=⟨_,tv_of H.size⟩;have j0:J 0=.slice a len cap:=H.t0;rw[show cX=.seq (.region 1 _ false) (.cond (.tmp 9) (.seq (.region 2 _ false) .ret) .skip) from rfl];by_cases g9:1048576<len
 . have g1:(1048576:Int)<(len:Int):=by omega
   go_wp;exact⟨rfl,.inr ⟨rfl,rfl⟩⟩
 have g1:¬ (1048576:Int)<(len:Int):=by omega
 have g1d:decide ((1048576:Int)<(len:Int))=false:=decide_eq_false g1;have g2d:decide (1048576<len)=false:=decide_eq_false (by omega);go_wp;exact⟨rfl,.inl ⟨rfl,rfl,rfl,H.row,H.q,H.hp⟩⟩
theorem a3(H:Za h0 51 a len cap zs T w):c3.wp Tryz.prog (fun e t u=>e=.normal/\t.defers=[]/\∃ L D N cc xs b,Uh h0 51 L D N cc xs b t.tmps u) ⟨T,[]⟩ w:=by
 obtain⟨J,rfl⟩:∃ J,T=TV J:=⟨_,tv_of H.size⟩;have j0:J 0=.slice a len cap:=H.t0;rw[show c3=.region 3 _ false from rfl];go_wp;refine(Ej a len cap zs w H.row).mono ?_;rintro e w1 ⟨i,t,x,y,A,n,c,G,m,kk,fp,fq,fs,fz,b,ws,gs,D,N,cc,xs,rfl,⟨zA,zG,zD⟩,hn,hm,hN,I,G1,Y,_,B⟩;dsimp only
 iterate 13 go_step
 refine Ai rfl 29 (.tmp 3) (.tmp 13) rfl w1.heap.size rfl (AX i t x y A n c G m kk fp fq fs fz b) rfl _ (CellsAt.new w1 _ [_,_,_,_,_,_,_,_,_,_,_] 29 rfl) (Nat.le_refl _) Ad rfl ?_;intro w2 K P;go_wp;have rd:Ready ⟨i,t,x,y,A,n,c,G,m,kk,fp,fq,fs,fz,b,ws,gs⟩ D N cc xs w1:=⟨⟨I,G1,by show n<=_; omega,by show m<=_; omega,I.cel zA,G1.cel zG⟩,Y,zD,by omega,hN.2,H.q.step B⟩;have B2:=Aa (Ac w1) (.cells #[.int .i64 0,.int .i64 0,.int .i64 0,.int .i64 0,.slice none 0 0,.slice none 0 0,.int .i64 0,.int .i64 0,.int .i64 0,.int .i64 0,.int .i64 0] 29);have h1:=H.hp.size;have h2:=B.size;have h3:=H.q.lt
 exact⟨rfl,rfl,⟨i,t,x,y,A,n,c,G,m,kk,fp,fq,fs,fz,b,ws,gs⟩,D,N,cc,xs,w1.heap.size,rfl,rfl,rfl,P,(rd.step B2).keep rd.low K (Nat.le_refl _) (by omega),rd.low,((H.hp.step B).step B2).kept K (by omega),by omega,by omega,hN.1⟩
theorem a4(H:Uh h0 51 L D N cc xs b T w):wpOps Tryz.prog (cO c4) (fun e t u=>e=.normal/\t.defers=[]/\(Uh h0 51 L D N cc xs b t.tmps u/\t.tmps.getD 15 undef=L.val/\t.tmps.getD 16 undef=.slice D N cc)) [0,1] ⟨T,[]⟩ w:=by
 obtain⟨J,rfl⟩:∃ J,T=TV J:=⟨_,tv_of H.size⟩;have j3:J 3=AA b:=H.t3;have j4:J 4=.slice D N cc:=H.t4;have e:cO c4=#[_,_,_,_]:=rfl;rw[Ah (os:=[_,_]) rfl];simp only[e,List.getElem_toArray,List.getElem_cons_zero,List.getElem_cons_succ];refine Af rfl 29 (.tmp 3) rfl b j3 L.cs H.P Tryz.underlying29 rfl Ad ?_;go_wp;exact⟨rfl,rfl,⟨rfl,rfl,rfl,H.P,H.rd,H.lo,H.hp,H.lb,H.bp,H.sm⟩,rfl,rfl⟩
theorem a4b(H:Uh h0 51 L D N cc xs b T w)(h:T.getD 17 undef=.int .i64 v):wpOps Tryz.prog (cO c4) (fun e t u=>e=.normal/\t.defers=[]/\Uo h0 51 L D N cc xs b v t.tmps u) [3] ⟨T,[]⟩ w:=by
 obtain⟨J,rfl⟩:∃ J,T=TV J:=⟨_,tv_of H.size⟩;have j3:J 3=AA b:=H.t3;have j4:J 4=.slice D N cc:=H.t4;have jv:J 17=.int .i64 v:=h;have e:cO c4=#[_,_,_,_]:=rfl;rw[Ah (os:=[_]) rfl];simp only[e,List.getElem_toArray,List.getElem_cons_zero,List.getElem_cons_succ];go_wp;exact⟨rfl,rfl,⟨⟨rfl,rfl,rfl,H.P,H.rd,H.lo,H.hp,H.lb,H.bp,H.sm⟩,rfl⟩⟩
theorem a5(H:Uo h0 51 L D N cc xs b (L.score xs N) T w):c5.wp Tryz.prog (fun e t u=>e=.normal/\t.defers=[]/\Uo h0 51 L D N cc xs b (L.score xs N) t.tmps u/\t.tmps.getD 6 undef=.int .i64 (L.score xs N)) ⟨T,[]⟩ w:=by
 obtain⟨J,rfl⟩:∃ J,T=TV J:=⟨_,tv_of H.size⟩;have j3:J 3=AA b:=H.t3;have j4:J 4=.slice D N cc:=H.t4;have j5:J 5=.int .i64 (L.score xs N):=H.t5;rw[show c5=.region 5 _ false from rfl];have C:=hid (EX L D N cc xs w H.rd.lv.I H.rd.lv.J H.rd.lv.n H.rd.lv.m H.rd.ins (by have:=H.sm; omega));generalize L.score xs N=v at *;refine wp_region_lit ?_;refine Af rfl 29 (.tmp 3) rfl b j3 L.cs H.P Tryz.underlying29 rfl Ad ?_;go_wp;refine C.out.mono ?_;rintro e w1 ⟨rfl,B⟩;dsimp only;go_wp;exact⟨rfl,rfl,⟨⟨rfl,rfl,rfl,H.P.step B,H.rd.step B,H.lo,H.hp.step B,H.lb,H.bp,H.sm⟩,rfl⟩,rfl⟩
theorem a6(H:Uo h0 51 L D N cc xs b v T w)(h6:T.getD 6 undef=.int .i64 v):c6.wp Tryz.prog (fun e t u=>t.defers=[]/\(e=.normal/\(Uo h0 51 L D N cc xs b v t.tmps u/\0<=v)\/e=.ret/\t.tmps.getD 2 undef=.bool true)) ⟨T,[]⟩ w:=by
 obtain⟨J,rfl⟩:∃ J,T=TV J:=⟨_,tv_of H.size⟩;have j3:J 3=AA b:=H.t3;have j4:J 4=.slice D N cc:=H.t4;have j5:J 5=.int .i64 v:=H.t5;have j6:J 6=.int .i64 v:=h6;rw[show c6=.seq (.region 6 _ false) (.cond (.tmp 27) (.seq (.region 7 _ false) .ret) .skip) from rfl];by_cases hv:v<0
 . have hd:decide (v<0)=true:=decide_eq_true hv;go_wp;exact⟨rfl,.inr ⟨rfl,rfl⟩⟩
 . have hd:decide (v<0)=false:=decide_eq_false hv;go_wp;exact⟨rfl,.inl ⟨rfl,⟨⟨rfl,rfl,rfl,H.P,H.rd,H.lo,H.hp,H.lb,H.bp,H.sm⟩,rfl⟩,by omega⟩⟩
theorem aA{i:Nat}(H:Uo h0 51 L D N cc xs b (i:Int) T w)(hi:1<=i/\i<=N)(hc:N<=cc){l:List Nat}(hl:l∈oA):wpOps Tryz.prog (cO cE) (fun e t u=>e=.normal/\t.defers=[]/\(Uo h0 51 L D N cc xs b (i:Int) t.tmps u/\t.tmps.getD 31 undef=L.val/\t.tmps.getD 34 undef=.slice D i cc)) l ⟨T,[]⟩ w:=by
 obtain⟨J,rfl⟩:∃ J,T=TV J:=⟨_,tv_of H.size⟩;have j3:J 3=AA b:=H.t3;have j4:J 4=.slice D N cc:=H.t4;have j5:J 5=.int .i64 (i:Int):=H.t5;have hsm:=H.sm;have e:cO cE=#[_,_,_,_,_,_,_,_,_,_,_,_,_,_,_,_,_,_,_,_,_]:=rfl;simp only[oA,oB,oC,List.mem_cons,List.not_mem_nil,or_false] at hl;rcases hl with rfl | rfl | rfl | rfl | rfl | rfl | rfl | rfl
 . rw[Ah (os:=[_,_,_,_]) rfl];simp only[e,List.getElem_toArray,List.getElem_cons_zero,List.getElem_cons_succ];refine Af rfl 29 (.tmp 3) rfl b j3 L.cs H.P Tryz.underlying29 rfl Ad ?_;go_wp;exact⟨rfl,rfl,⟨⟨rfl,rfl,rfl,H.P,H.rd,H.lo,H.hp,H.lb,H.bp,H.sm⟩,rfl⟩,rfl,rfl⟩
 . rw[Ah (os:=[_,_,_,_]) rfl];simp only[e,List.getElem_toArray,List.getElem_cons_zero,List.getElem_cons_succ];refine Af rfl 29 (.tmp 3) rfl b j3 L.cs H.P Tryz.underlying29 rfl Ad ?_;go_wp;exact⟨rfl,rfl,⟨⟨rfl,rfl,rfl,H.P,H.rd,H.lo,H.hp,H.lb,H.bp,H.sm⟩,rfl⟩,rfl,rfl⟩
 . rw[Ah (os:=[_,_,_,_]) rfl];simp only[e,List.getElem_toArray,List.getElem_cons_zero,List.getElem_cons_succ]
   iterate 3 go_step
   refine Af rfl 29 (.tmp 3) rfl b rfl L.cs H.P Tryz.underlying29 rfl Ad ?_;go_wp;exact⟨rfl,rfl,⟨⟨rfl,rfl,rfl,H.P,H.rd,H.lo,H.hp,H.lb,H.bp,H.sm⟩,rfl⟩,rfl,rfl⟩
 . rw[Ah (os:=[_,_,_,_]) rfl];simp only[e,List.getElem_toArray,List.getElem_cons_zero,List.getElem_cons_succ]
   iterate 6 go_step
   refine Af rfl 29 (.tmp 3) rfl b rfl L.cs H.P Tryz.underlying29 rfl Ad ?_;go_wp;exact⟨rfl,rfl,⟨⟨rfl,rfl,rfl,H.P,H.rd,H.lo,H.hp,H.lb,H.bp,H.sm⟩,rfl⟩,rfl,rfl⟩
 . rw[Ah (os:=[_,_,_,_]) rfl];simp only[e,List.getElem_toArray,List.getElem_cons_zero,List.getElem_cons_succ]
   iterate 9 go_step
   refine Af rfl 29 (.tmp 3) rfl b rfl L.cs H.P Tryz.underlying29 rfl Ad ?_;exact⟨rfl,rfl,⟨⟨rfl,rfl,rfl,H.P,H.rd,H.lo,H.hp,H.lb,H.bp,H.sm⟩,rfl⟩,rfl,rfl⟩
 . rw[Ah (os:=[_,_,_,_]) rfl];simp only[e,List.getElem_toArray,List.getElem_cons_zero,List.getElem_cons_succ]
   iterate 3 go_step
   refine Af rfl 29 (.tmp 3) rfl b rfl L.cs H.P Tryz.underlying29 rfl Ad ?_;go_wp;exact⟨rfl,rfl,⟨⟨rfl,rfl,rfl,H.P,H.rd,H.lo,H.hp,H.lb,H.bp,H.sm⟩,rfl⟩,rfl,rfl⟩
 . rw[Ah (os:=[_,_,_,_]) rfl];simp only[e,List.getElem_toArray,List.getElem_cons_zero,List.getElem_cons_succ]
   iterate 6 go_step
   refine Af rfl 29 (.tmp 3) rfl b rfl L.cs H.P Tryz.underlying29 rfl Ad ?_;go_wp;exact⟨rfl,rfl,⟨⟨rfl,rfl,rfl,H.P,H.rd,H.lo,H.hp,H.lb,H.bp,H.sm⟩,rfl⟩,rfl,rfl⟩
 . rw[Ah (os:=[_,_,_,_]) rfl];simp only[e,List.getElem_toArray,List.getElem_cons_zero,List.getElem_cons_succ]
   iterate 9 go_step
   refine Af rfl 29 (.tmp 3) rfl b rfl L.cs H.P Tryz.underlying29 rfl Ad ?_;exact⟨rfl,rfl,⟨⟨rfl,rfl,rfl,H.P,H.rd,H.lo,H.hp,H.lb,H.bp,H.sm⟩,rfl⟩,rfl,rfl⟩
theorem aB{i:Nat}(H:Uo h0 51 L D N cc xs b (i:Int) T w)(hi:1<=i/\i<=N)(hc:N<=cc){l:List Nat}(hl:l∈oB):wpOps Tryz.prog (cO cE) (fun e t u=>e=.normal/\t.defers=[]/\(Uo h0 51 L D N cc xs b (i:Int) t.tmps u/\t.tmps.getD 31 undef=L.val/\t.tmps.getD 34 undef=.slice D i cc/\t.tmps.getD 36 undef=.int .i64 (i:Int))) l ⟨T,[]⟩ w:=by
 obtain⟨J,rfl⟩:∃ J,T=TV J:=⟨_,tv_of H.size⟩;have j3:J 3=AA b:=H.t3;have j4:J 4=.slice D N cc:=H.t4;have j5:J 5=.int .i64 (i:Int):=H.t5;have hsm:=H.sm;have e:cO cE=#[_,_,_,_,_,_,_,_,_,_,_,_,_,_,_,_,_,_,_,_,_]:=rfl;simp only[oA,oB,oC,List.mem_cons,List.not_mem_nil,or_false] at hl;rcases hl with rfl | rfl | rfl | rfl | rfl | rfl | rfl | rfl | rfl | rfl | rfl | rfl | rfl | rfl | rfl | rfl | rfl | rfl | rfl | rfl | rfl | rfl | rfl | rfl | rfl | rfl | rfl | rfl | rfl | rfl | rfl | rfl | rfl | rfl | rfl | rfl | rfl | rfl | rfl | rfl
 . rw[Ah (os:=[_,_,_,_,_]) rfl];simp only[e,List.getElem_toArray,List.getElem_cons_zero,List.getElem_cons_succ];refine Af rfl 29 (.tmp 3) rfl b j3 L.cs H.P Tryz.underlying29 rfl Ad ?_;go_wp;exact⟨rfl,rfl,⟨⟨rfl,rfl,rfl,H.P,H.rd,H.lo,H.hp,H.lb,H.bp,H.sm⟩,rfl⟩,rfl,rfl,rfl⟩
 . rw[Ah (os:=[_,_,_,_,_]) rfl];simp only[e,List.getElem_toArray,List.getElem_cons_zero,List.getElem_cons_succ];refine Af rfl 29 (.tmp 3) rfl b j3 L.cs H.P Tryz.underlying29 rfl Ad ?_;go_wp;exact⟨rfl,rfl,⟨⟨rfl,rfl,rfl,H.P,H.rd,H.lo,H.hp,H.lb,H.bp,H.sm⟩,rfl⟩,rfl,rfl,rfl⟩
 . rw[Ah (os:=[_,_,_,_,_]) rfl];simp only[e,List.getElem_toArray,List.getElem_cons_zero,List.getElem_cons_succ];refine Af rfl 29 (.tmp 3) rfl b j3 L.cs H.P Tryz.underlying29 rfl Ad ?_;go_wp;exact⟨rfl,rfl,⟨⟨rfl,rfl,rfl,H.P,H.rd,H.lo,H.hp,H.lb,H.bp,H.sm⟩,rfl⟩,rfl,rfl,rfl⟩
 . rw[Ah (os:=[_,_,_,_,_]) rfl];simp only[e,List.getElem_toArray,List.getElem_cons_zero,List.getElem_cons_succ];refine Af rfl 29 (.tmp 3) rfl b j3 L.cs H.P Tryz.underlying29 rfl Ad ?_;go_wp;exact⟨rfl,rfl,⟨⟨rfl,rfl,rfl,H.P,H.rd,H.lo,H.hp,H.lb,H.bp,H.sm⟩,rfl⟩,rfl,rfl,rfl⟩
 . rw[Ah (os:=[_,_,_,_,_]) rfl];simp only[e,List.getElem_toArray,List.getElem_cons_zero,List.getElem_cons_succ];refine Af rfl 29 (.tmp 3) rfl b j3 L.cs H.P Tryz.underlying29 rfl Ad ?_;go_wp;exact⟨rfl,rfl,⟨⟨rfl,rfl,rfl,H.P,H.rd,H.lo,H.hp,H.lb,H.bp,H.sm⟩,rfl⟩,rfl,rfl,rfl⟩
 . rw[Ah (os:=[_,_,_,_,_]) rfl];simp only[e,List.getElem_toArray,List.getElem_cons_zero,List.getElem_cons_succ];refine Af rfl 29 (.tmp 3) rfl b j3 L.cs H.P Tryz.underlying29 rfl Ad ?_;go_wp;exact⟨rfl,rfl,⟨⟨rfl,rfl,rfl,H.P,H.rd,H.lo,H.hp,H.lb,H.bp,H.sm⟩,rfl⟩,rfl,rfl,rfl⟩
 . rw[Ah (os:=[_,_,_,_,_]) rfl];simp only[e,List.getElem_toArray,List.getElem_cons_zero,List.getElem_cons_succ];refine Af rfl 29 (.tmp 3) rfl b j3 L.cs H.P Tryz.underlying29 rfl Ad ?_;go_wp;exact⟨rfl,rfl,⟨⟨rfl,rfl,rfl,H.P,H.rd,H.lo,H.hp,H.lb,H.bp,H.sm⟩,rfl⟩,rfl,rfl,rfl⟩
 . rw[Ah (os:=[_,_,_,_,_]) rfl];simp only[e,List.getElem_toArray,List.getElem_cons_zero,List.getElem_cons_succ];refine Af rfl 29 (.tmp 3) rfl b j3 L.cs H.P Tryz.underlying29 rfl Ad ?_;go_wp;exact⟨rfl,rfl,⟨⟨rfl,rfl,rfl,H.P,H.rd,H.lo,H.hp,H.lb,H.bp,H.sm⟩,rfl⟩,rfl,rfl,rfl⟩
 . rw[Ah (os:=[_,_,_,_,_]) rfl];simp only[e,List.getElem_toArray,List.getElem_cons_zero,List.getElem_cons_succ]
   iterate 3 go_step
   refine Af rfl 29 (.tmp 3) rfl b rfl L.cs H.P Tryz.underlying29 rfl Ad ?_;go_wp;exact⟨rfl,rfl,⟨⟨rfl,rfl,rfl,H.P,H.rd,H.lo,H.hp,H.lb,H.bp,H.sm⟩,rfl⟩,rfl,rfl,rfl⟩
 . rw[Ah (os:=[_,_,_,_,_]) rfl];simp only[e,List.getElem_toArray,List.getElem_cons_zero,List.getElem_cons_succ]
   iterate 3 go_step
   refine Af rfl 29 (.tmp 3) rfl b rfl L.cs H.P Tryz.underlying29 rfl Ad ?_;go_wp;exact⟨rfl,rfl,⟨⟨rfl,rfl,rfl,H.P,H.rd,H.lo,H.hp,H.lb,H.bp,H.sm⟩,rfl⟩,rfl,rfl,rfl⟩
 . rw[Ah (os:=[_,_,_,_,_]) rfl];simp only[e,List.getElem_toArray,List.getElem_cons_zero,List.getElem_cons_succ]
   iterate 3 go_step
   refine Af rfl 29 (.tmp 3) rfl b rfl L.cs H.P Tryz.underlying29 rfl Ad ?_;go_wp;exact⟨rfl,rfl,⟨⟨rfl,rfl,rfl,H.P,H.rd,H.lo,H.hp,H.lb,H.bp,H.sm⟩,rfl⟩,rfl,rfl,rfl⟩
 . rw[Ah (os:=[_,_,_,_,_]) rfl];simp only[e,List.getElem_toArray,List.getElem_cons_zero,List.getElem_cons_succ]
   iterate 6 go_step
   refine Af rfl 29 (.tmp 3) rfl b rfl L.cs H.P Tryz.underlying29 rfl Ad ?_;go_wp;exact⟨rfl,rfl,⟨⟨rfl,rfl,rfl,H.P,H.rd,H.lo,H.hp,H.lb,H.bp,H.sm⟩,rfl⟩,rfl,rfl,rfl⟩
 . rw[Ah (os:=[_,_,_,_,_]) rfl];simp only[e,List.getElem_toArray,List.getElem_cons_zero,List.getElem_cons_succ]
   iterate 6 go_step
   refine Af rfl 29 (.tmp 3) rfl b rfl L.cs H.P Tryz.underlying29 rfl Ad ?_;go_wp;exact⟨rfl,rfl,⟨⟨rfl,rfl,rfl,H.P,H.rd,H.lo,H.hp,H.lb,H.bp,H.sm⟩,rfl⟩,rfl,rfl,rfl⟩
 . rw[Ah (os:=[_,_,_,_,_]) rfl];simp only[e,List.getElem_toArray,List.getElem_cons_zero,List.getElem_cons_succ]
   iterate 9 go_step
   refine Af rfl 29 (.tmp 3) rfl b rfl L.cs H.P Tryz.underlying29 rfl Ad ?_;go_wp;exact⟨rfl,rfl,⟨⟨rfl,rfl,rfl,H.P,H.rd,H.lo,H.hp,H.lb,H.bp,H.sm⟩,rfl⟩,rfl,rfl,rfl⟩
 . rw[Ah (os:=[_,_,_,_,_]) rfl];simp only[e,List.getElem_toArray,List.getElem_cons_zero,List.getElem_cons_succ]
   iterate 12 go_step
   refine Af rfl 29 (.tmp 3) rfl b rfl L.cs H.P Tryz.underlying29 rfl Ad ?_;exact⟨rfl,rfl,⟨⟨rfl,rfl,rfl,H.P,H.rd,H.lo,H.hp,H.lb,H.bp,H.sm⟩,rfl⟩,rfl,rfl,rfl⟩
 . rw[Ah (os:=[_,_,_,_,_]) rfl];simp only[e,List.getElem_toArray,List.getElem_cons_zero,List.getElem_cons_succ]
   iterate 9 go_step
   refine Af rfl 29 (.tmp 3) rfl b rfl L.cs H.P Tryz.underlying29 rfl Ad ?_;go_wp;exact⟨rfl,rfl,⟨⟨rfl,rfl,rfl,H.P,H.rd,H.lo,H.hp,H.lb,H.bp,H.sm⟩,rfl⟩,rfl,rfl,rfl⟩
 . rw[Ah (os:=[_,_,_,_,_]) rfl];simp only[e,List.getElem_toArray,List.getElem_cons_zero,List.getElem_cons_succ]
   iterate 12 go_step
   refine Af rfl 29 (.tmp 3) rfl b rfl L.cs H.P Tryz.underlying29 rfl Ad ?_;exact⟨rfl,rfl,⟨⟨rfl,rfl,rfl,H.P,H.rd,H.lo,H.hp,H.lb,H.bp,H.sm⟩,rfl⟩,rfl,rfl,rfl⟩
 . rw[Ah (os:=[_,_,_,_,_]) rfl];simp only[e,List.getElem_toArray,List.getElem_cons_zero,List.getElem_cons_succ]
   iterate 6 go_step
   refine Af rfl 29 (.tmp 3) rfl b rfl L.cs H.P Tryz.underlying29 rfl Ad ?_;go_wp;exact⟨rfl,rfl,⟨⟨rfl,rfl,rfl,H.P,H.rd,H.lo,H.hp,H.lb,H.bp,H.sm⟩,rfl⟩,rfl,rfl,rfl⟩
 . rw[Ah (os:=[_,_,_,_,_]) rfl];simp only[e,List.getElem_toArray,List.getElem_cons_zero,List.getElem_cons_succ]
   iterate 9 go_step
   refine Af rfl 29 (.tmp 3) rfl b rfl L.cs H.P Tryz.underlying29 rfl Ad ?_;go_wp;exact⟨rfl,rfl,⟨⟨rfl,rfl,rfl,H.P,H.rd,H.lo,H.hp,H.lb,H.bp,H.sm⟩,rfl⟩,rfl,rfl,rfl⟩
 . rw[Ah (os:=[_,_,_,_,_]) rfl];simp only[e,List.getElem_toArray,List.getElem_cons_zero,List.getElem_cons_succ]
   iterate 12 go_step
   refine Af rfl 29 (.tmp 3) rfl b rfl L.cs H.P Tryz.underlying29 rfl Ad ?_;exact⟨rfl,rfl,⟨⟨rfl,rfl,rfl,H.P,H.rd,H.lo,H.hp,H.lb,H.bp,H.sm⟩,rfl⟩,rfl,rfl,rfl⟩
 . rw[Ah (os:=[_,_,_,_,_]) rfl];simp only[e,List.getElem_toArray,List.getElem_cons_zero,List.getElem_cons_succ]
   iterate 3 go_step
   refine Af rfl 29 (.tmp 3) rfl b rfl L.cs H.P Tryz.underlying29 rfl Ad ?_;go_wp;exact⟨rfl,rfl,⟨⟨rfl,rfl,rfl,H.P,H.rd,H.lo,H.hp,H.lb,H.bp,H.sm⟩,rfl⟩,rfl,rfl,rfl⟩
 . rw[Ah (os:=[_,_,_,_,_]) rfl];simp only[e,List.getElem_toArray,List.getElem_cons_zero,List.getElem_cons_succ]
   iterate 3 go_step
   refine Af rfl 29 (.tmp 3) rfl b rfl L.cs H.P Tryz.underlying29 rfl Ad ?_;go_wp;exact⟨rfl,rfl,⟨⟨rfl,rfl,rfl,H.P,H.rd,H.lo,H.hp,H.lb,H.bp,H.sm⟩,rfl⟩,rfl,rfl,rfl⟩
 . rw[Ah (os:=[_,_,_,_,_]) rfl];simp only[e,List.getElem_toArray,List.getElem_cons_zero,List.getElem_cons_succ]
   iterate 3 go_step
   refine Af rfl 29 (.tmp 3) rfl b rfl L.cs H.P Tryz.underlying29 rfl Ad ?_;go_wp;exact⟨rfl,rfl,⟨⟨rfl,rfl,rfl,H.P,H.rd,H.lo,H.hp,H.lb,H.bp,H.sm⟩,rfl⟩,rfl,rfl,rfl⟩
 . rw[Ah (os:=[_,_,_,_,_]) rfl];simp only[e,List.getElem_toArray,List.getElem_cons_zero,List.getElem_cons_succ]
   iterate 6 go_step
   refine Af rfl 29 (.tmp 3) rfl b rfl L.cs H.P Tryz.underlying29 rfl Ad ?_;go_wp;exact⟨rfl,rfl,⟨⟨rfl,rfl,rfl,H.P,H.rd,H.lo,H.hp,H.lb,H.bp,H.sm⟩,rfl⟩,rfl,rfl,rfl⟩
 . rw[Ah (os:=[_,_,_,_,_]) rfl];simp only[e,List.getElem_toArray,List.getElem_cons_zero,List.getElem_cons_succ]
   iterate 6 go_step
   refine Af rfl 29 (.tmp 3) rfl b rfl L.cs H.P Tryz.underlying29 rfl Ad ?_;go_wp;exact⟨rfl,rfl,⟨⟨rfl,rfl,rfl,H.P,H.rd,H.lo,H.hp,H.lb,H.bp,H.sm⟩,rfl⟩,rfl,rfl,rfl⟩
 . rw[Ah (os:=[_,_,_,_,_]) rfl];simp only[e,List.getElem_toArray,List.getElem_cons_zero,List.getElem_cons_succ]
   iterate 9 go_step
   refine Af rfl 29 (.tmp 3) rfl b rfl L.cs H.P Tryz.underlying29 rfl Ad ?_;go_wp;exact⟨rfl,rfl,⟨⟨rfl,rfl,rfl,H.P,H.rd,H.lo,H.hp,H.lb,H.bp,H.sm⟩,rfl⟩,rfl,rfl,rfl⟩
 . rw[Ah (os:=[_,_,_,_,_]) rfl];simp only[e,List.getElem_toArray,List.getElem_cons_zero,List.getElem_cons_succ]
   iterate 12 go_step
   refine Af rfl 29 (.tmp 3) rfl b rfl L.cs H.P Tryz.underlying29 rfl Ad ?_;exact⟨rfl,rfl,⟨⟨rfl,rfl,rfl,H.P,H.rd,H.lo,H.hp,H.lb,H.bp,H.sm⟩,rfl⟩,rfl,rfl,rfl⟩
 . rw[Ah (os:=[_,_,_,_,_]) rfl];simp only[e,List.getElem_toArray,List.getElem_cons_zero,List.getElem_cons_succ]
   iterate 9 go_step
   refine Af rfl 29 (.tmp 3) rfl b rfl L.cs H.P Tryz.underlying29 rfl Ad ?_;go_wp;exact⟨rfl,rfl,⟨⟨rfl,rfl,rfl,H.P,H.rd,H.lo,H.hp,H.lb,H.bp,H.sm⟩,rfl⟩,rfl,rfl,rfl⟩
 . rw[Ah (os:=[_,_,_,_,_]) rfl];simp only[e,List.getElem_toArray,List.getElem_cons_zero,List.getElem_cons_succ]
   iterate 12 go_step
   refine Af rfl 29 (.tmp 3) rfl b rfl L.cs H.P Tryz.underlying29 rfl Ad ?_;exact⟨rfl,rfl,⟨⟨rfl,rfl,rfl,H.P,H.rd,H.lo,H.hp,H.lb,H.bp,H.sm⟩,rfl⟩,rfl,rfl,rfl⟩
 . rw[Ah (os:=[_,_,_,_,_]) rfl];simp only[e,List.getElem_toArray,List.getElem_cons_zero,List.getElem_cons_succ]
   iterate 6 go_step
   refine Af rfl 29 (.tmp 3) rfl b rfl L.cs H.P Tryz.underlying29 rfl Ad ?_;go_wp;exact⟨rfl,rfl,⟨⟨rfl,rfl,rfl,H.P,H.rd,H.lo,H.hp,H.lb,H.bp,H.sm⟩,rfl⟩,rfl,rfl,rfl⟩
 . rw[Ah (os:=[_,_,_,_,_]) rfl];simp only[e,List.getElem_toArray,List.getElem_cons_zero,List.getElem_cons_succ]
   iterate 9 go_step
   refine Af rfl 29 (.tmp 3) rfl b rfl L.cs H.P Tryz.underlying29 rfl Ad ?_;go_wp;exact⟨rfl,rfl,⟨⟨rfl,rfl,rfl,H.P,H.rd,H.lo,H.hp,H.lb,H.bp,H.sm⟩,rfl⟩,rfl,rfl,rfl⟩
 . rw[Ah (os:=[_,_,_,_,_]) rfl];simp only[e,List.getElem_toArray,List.getElem_cons_zero,List.getElem_cons_succ]
   iterate 12 go_step
   refine Af rfl 29 (.tmp 3) rfl b rfl L.cs H.P Tryz.underlying29 rfl Ad ?_;exact⟨rfl,rfl,⟨⟨rfl,rfl,rfl,H.P,H.rd,H.lo,H.hp,H.lb,H.bp,H.sm⟩,rfl⟩,rfl,rfl,rfl⟩
 . rw[Ah (os:=[_,_,_,_,_]) rfl];simp only[e,List.getElem_toArray,List.getElem_cons_zero,List.getElem_cons_succ]
   iterate 3 go_step
   refine Af rfl 29 (.tmp 3) rfl b rfl L.cs H.P Tryz.underlying29 rfl Ad ?_;go_wp;exact⟨rfl,rfl,⟨⟨rfl,rfl,rfl,H.P,H.rd,H.lo,H.hp,H.lb,H.bp,H.sm⟩,rfl⟩,rfl,rfl,rfl⟩
 . rw[Ah (os:=[_,_,_,_,_]) rfl];simp only[e,List.getElem_toArray,List.getElem_cons_zero,List.getElem_cons_succ]
   iterate 3 go_step
   refine Af rfl 29 (.tmp 3) rfl b rfl L.cs H.P Tryz.underlying29 rfl Ad ?_;go_wp;exact⟨rfl,rfl,⟨⟨rfl,rfl,rfl,H.P,H.rd,H.lo,H.hp,H.lb,H.bp,H.sm⟩,rfl⟩,rfl,rfl,rfl⟩
 . rw[Ah (os:=[_,_,_,_,_]) rfl];simp only[e,List.getElem_toArray,List.getElem_cons_zero,List.getElem_cons_succ]
   iterate 6 go_step
   refine Af rfl 29 (.tmp 3) rfl b rfl L.cs H.P Tryz.underlying29 rfl Ad ?_;go_wp;exact⟨rfl,rfl,⟨⟨rfl,rfl,rfl,H.P,H.rd,H.lo,H.hp,H.lb,H.bp,H.sm⟩,rfl⟩,rfl,rfl,rfl⟩
 . rw[Ah (os:=[_,_,_,_,_]) rfl];simp only[e,List.getElem_toArray,List.getElem_cons_zero,List.getElem_cons_succ]
   iterate 9 go_step
   refine Af rfl 29 (.tmp 3) rfl b rfl L.cs H.P Tryz.underlying29 rfl Ad ?_;go_wp;exact⟨rfl,rfl,⟨⟨rfl,rfl,rfl,H.P,H.rd,H.lo,H.hp,H.lb,H.bp,H.sm⟩,rfl⟩,rfl,rfl,rfl⟩
 . rw[Ah (os:=[_,_,_,_,_]) rfl];simp only[e,List.getElem_toArray,List.getElem_cons_zero,List.getElem_cons_succ]
   iterate 12 go_step
   refine Af rfl 29 (.tmp 3) rfl b rfl L.cs H.P Tryz.underlying29 rfl Ad ?_;exact⟨rfl,rfl,⟨⟨rfl,rfl,rfl,H.P,H.rd,H.lo,H.hp,H.lb,H.bp,H.sm⟩,rfl⟩,rfl,rfl,rfl⟩
 . rw[Ah (os:=[_,_,_,_,_]) rfl];simp only[e,List.getElem_toArray,List.getElem_cons_zero,List.getElem_cons_succ]
   iterate 6 go_step
   refine Af rfl 29 (.tmp 3) rfl b rfl L.cs H.P Tryz.underlying29 rfl Ad ?_;go_wp;exact⟨rfl,rfl,⟨⟨rfl,rfl,rfl,H.P,H.rd,H.lo,H.hp,H.lb,H.bp,H.sm⟩,rfl⟩,rfl,rfl,rfl⟩
 . rw[Ah (os:=[_,_,_,_,_]) rfl];simp only[e,List.getElem_toArray,List.getElem_cons_zero,List.getElem_cons_succ]
   iterate 9 go_step
   refine Af rfl 29 (.tmp 3) rfl b rfl L.cs H.P Tryz.underlying29 rfl Ad ?_;go_wp;exact⟨rfl,rfl,⟨⟨rfl,rfl,rfl,H.P,H.rd,H.lo,H.hp,H.lb,H.bp,H.sm⟩,rfl⟩,rfl,rfl,rfl⟩
 . rw[Ah (os:=[_,_,_,_,_]) rfl];simp only[e,List.getElem_toArray,List.getElem_cons_zero,List.getElem_cons_succ]
   iterate 12 go_step
   refine Af rfl 29 (.tmp 3) rfl b rfl L.cs H.P Tryz.underlying29 rfl Ad ?_;exact⟨rfl,rfl,⟨⟨rfl,rfl,rfl,H.P,H.rd,H.lo,H.hp,H.lb,H.bp,H.sm⟩,rfl⟩,rfl,rfl,rfl⟩
theorem Vi{i:Nat}(H:Uo h0 51 L D N cc xs b (i:Int) T w)(hi:1<=i/\i<=1000)(h35:T.getD 35 undef=.int .i64 (i:Int)):wpOps Tryz.prog (cO cE) (fun e t u=>e=.normal/\t.defers=[]/\((Uo h0 51 L D N cc xs b (i:Int) t.tmps u/\t.tmps.getD 35 undef=.int .i64 (i:Int))/\t.tmps.getD 36 undef=.int .i64 (i:Int))) [5] ⟨T,[]⟩ w:=by
 obtain⟨J,rfl⟩:∃ J,T=TV J:=⟨_,tv_of H.size⟩;have j3:J 3=AA b:=H.t3;have j4:J 4=.slice D N cc:=H.t4;have j5:J 5=.int .i64 (i:Int):=H.t5;have j35:J 35=.int .i64 (i:Int):=h35;have e:cO cE=#[_,_,_,_,_,_,_,_,_,_,_,_,_,_,_,_,_,_,_,_,_]:=rfl;rw[Ah (os:=[_]) rfl];simp only[e,List.getElem_toArray,List.getElem_cons_zero,List.getElem_cons_succ];go_wp;exact⟨rfl,rfl,⟨⟨⟨rfl,rfl,rfl,H.P,H.rd,H.lo,H.hp,H.lb,H.bp,H.sm⟩,rfl⟩,rfl⟩,rfl⟩
theorem aM{i:Nat}(H:Uo h0 51 L D N cc xs b (i:Int) T w)(hi:1<=i/\i<=1000)(h35:T.getD 35 undef=.int .i64 (i:Int))(h36:T.getD 36 undef=.int .i64 (i:Int)):wpOps Tryz.prog (cO cE) (fun e t u=>e=.normal/\t.defers=[]/\(Uo h0 51 L D N cc xs b (i:Int) t.tmps u/\t.tmps.getD 38 undef=.bool true/\t.tmps.getD 41 undef=.bool false)) [6,7,8,9,10] ⟨T,[]⟩ w:=by
 obtain⟨J,rfl⟩:∃ J,T=TV J:=⟨_,tv_of H.size⟩;have j3:J 3=AA b:=H.t3;have j4:J 4=.slice D N cc:=H.t4;have j5:J 5=.int .i64 (i:Int):=H.t5;have j35:J 35=.int .i64 (i:Int):=h35;have j36:J 36=.int .i64 (i:Int):=h36;have hne:((i:Int)==0)=false:=by simp; omega
 have hne2:¬ i=0:=by omega
 have hne3:¬ (i:Int)=0:=by omega
 have e:cO cE=#[_,_,_,_,_,_,_,_,_,_,_,_,_,_,_,_,_,_,_,_,_]:=rfl;rw[Ah (os:=[_,_,_,_,_]) rfl];simp only[e,List.getElem_toArray,List.getElem_cons_zero,List.getElem_cons_succ];go_wp;exact⟨rfl,rfl,⟨⟨rfl,rfl,rfl,H.P,H.rd,H.lo,H.hp,H.lb,H.bp,H.sm⟩,rfl⟩,rfl,rfl⟩
theorem aC{i:Nat}(H:Uo h0 51 L D N cc xs b (i:Int) T w)(hi:1<=i/\i<=N)(hc:N<=cc)(h38:T.getD 38 undef=.bool true)(h41:T.getD 41 undef=.bool false){l:List Nat}(hl:l∈oC):wpOps Tryz.prog (cO cE) (fun e t u=>e=.normal/\t.defers=[]/\(Uo h0 51 L D N cc xs b (i:Int) t.tmps u/\t.tmps.getD 38 undef=.bool true/\t.tmps.getD 41 undef=.bool false/\t.tmps.getD 42 undef=L.val/\t.tmps.getD 46 undef=.slice D (i-1) cc)) l ⟨T,[]⟩ w:=by
 obtain⟨J,rfl⟩:∃ J,T=TV J:=⟨_,tv_of H.size⟩;have j3:J 3=AA b:=H.t3;have j4:J 4=.slice D N cc:=H.t4;have j5:J 5=.int .i64 (i:Int):=H.t5;have j38:J 38=.bool true:=h38;have j41:J 41=.bool false:=h41;have hsm:=H.sm;obtain⟨i,rfl⟩:∃ k,i=k+1:=⟨i-1,by omega⟩;have hw:IntKind.i64.wrap (((i+1:Nat):Int)-1)=(i:Int):=by rw[IntWalk.i64_in _ (by omega)]; omega
 have hw3:IntKind.i64.wrap ((i:Int)+1-1)=(i:Int):=by rw[IntWalk.i64_in _ (by omega)]; omega
 have e:cO cE=#[_,_,_,_,_,_,_,_,_,_,_,_,_,_,_,_,_,_,_,_,_]:=rfl;simp only[oC,List.mem_cons,List.not_mem_nil,or_false] at hl;rcases hl with rfl | rfl | rfl | rfl | rfl | rfl | rfl | rfl | rfl | rfl | rfl | rfl | rfl | rfl | rfl
 . rw[Ah (os:=[_,_,_,_,_]) rfl];simp only[e,List.getElem_toArray,List.getElem_cons_zero,List.getElem_cons_succ];refine Az (by simp[Region.wanted,yielded,Act.put,j41]) 29 (.tmp 3) rfl b j3 L.cs H.P Tryz.underlying29 rfl Ad ?_;go_wp;exact⟨rfl,rfl,⟨⟨rfl,rfl,rfl,H.P,H.rd,H.lo,H.hp,H.lb,H.bp,H.sm⟩,rfl⟩,rfl,rfl,rfl,rfl⟩
 . rw[Ah (os:=[_,_,_,_,_]) rfl];simp only[e,List.getElem_toArray,List.getElem_cons_zero,List.getElem_cons_succ];refine Az (by simp[Region.wanted,yielded,Act.put,j41]) 29 (.tmp 3) rfl b j3 L.cs H.P Tryz.underlying29 rfl Ad ?_;go_wp;exact⟨rfl,rfl,⟨⟨rfl,rfl,rfl,H.P,H.rd,H.lo,H.hp,H.lb,H.bp,H.sm⟩,rfl⟩,rfl,rfl,rfl,rfl⟩
 . rw[Ah (os:=[_,_,_,_,_]) rfl];simp only[e,List.getElem_toArray,List.getElem_cons_zero,List.getElem_cons_succ];refine Az (by simp[Region.wanted,yielded,Act.put,j41]) 29 (.tmp 3) rfl b j3 L.cs H.P Tryz.underlying29 rfl Ad ?_;go_wp;exact⟨rfl,rfl,⟨⟨rfl,rfl,rfl,H.P,H.rd,H.lo,H.hp,H.lb,H.bp,H.sm⟩,rfl⟩,rfl,rfl,rfl,rfl⟩
 . rw[Ah (os:=[_,_,_,_,_]) rfl];simp only[e,List.getElem_toArray,List.getElem_cons_zero,List.getElem_cons_succ]
   iterate 2 go_step
   refine Az (by simp[Region.wanted,yielded,Act.put,j41]) 29 (.tmp 3) rfl b rfl L.cs H.P Tryz.underlying29 rfl Ad ?_;go_wp;exact⟨rfl,rfl,⟨⟨rfl,rfl,rfl,H.P,H.rd,H.lo,H.hp,H.lb,H.bp,H.sm⟩,rfl⟩,rfl,rfl,rfl,rfl⟩
 . rw[Ah (os:=[_,_,_,_,_]) rfl];simp only[e,List.getElem_toArray,List.getElem_cons_zero,List.getElem_cons_succ]
   iterate 4 go_step
   refine Az (by simp[Region.wanted,yielded,Act.put,j41]) 29 (.tmp 3) rfl b rfl L.cs H.P Tryz.underlying29 rfl Ad ?_;go_wp;exact⟨rfl,rfl,⟨⟨rfl,rfl,rfl,H.P,H.rd,H.lo,H.hp,H.lb,H.bp,H.sm⟩,rfl⟩,rfl,rfl,rfl,rfl⟩
 . rw[Ah (os:=[_,_,_,_,_]) rfl];simp only[e,List.getElem_toArray,List.getElem_cons_zero,List.getElem_cons_succ]
   iterate 6 go_step
   refine Az (by simp[Region.wanted,yielded,Act.put,j41]) 29 (.tmp 3) rfl b rfl L.cs H.P Tryz.underlying29 rfl Ad ?_;go_wp;exact⟨rfl,rfl,⟨⟨rfl,rfl,rfl,H.P,H.rd,H.lo,H.hp,H.lb,H.bp,H.sm⟩,rfl⟩,rfl,rfl,rfl,rfl⟩
 . rw[Ah (os:=[_,_,_,_,_]) rfl];simp only[e,List.getElem_toArray,List.getElem_cons_zero,List.getElem_cons_succ]
   iterate 10 go_step
   refine Az (by simp[Region.wanted,yielded,Act.put,j41]) 29 (.tmp 3) rfl b rfl L.cs H.P Tryz.underlying29 rfl Ad ?_;exact⟨rfl,rfl,⟨⟨rfl,rfl,rfl,H.P,H.rd,H.lo,H.hp,H.lb,H.bp,H.sm⟩,rfl⟩,rfl,rfl,rfl,rfl⟩
 . rw[Ah (os:=[_,_,_,_,_]) rfl];simp only[e,List.getElem_toArray,List.getElem_cons_zero,List.getElem_cons_succ]
   iterate 2 go_step
   refine Az (by simp[Region.wanted,yielded,Act.put,j41]) 29 (.tmp 3) rfl b rfl L.cs H.P Tryz.underlying29 rfl Ad ?_;go_wp;exact⟨rfl,rfl,⟨⟨rfl,rfl,rfl,H.P,H.rd,H.lo,H.hp,H.lb,H.bp,H.sm⟩,rfl⟩,rfl,rfl,rfl,rfl⟩
 . rw[Ah (os:=[_,_,_,_,_]) rfl];simp only[e,List.getElem_toArray,List.getElem_cons_zero,List.getElem_cons_succ]
   iterate 2 go_step
   refine Az (by simp[Region.wanted,yielded,Act.put,j41]) 29 (.tmp 3) rfl b rfl L.cs H.P Tryz.underlying29 rfl Ad ?_;go_wp;exact⟨rfl,rfl,⟨⟨rfl,rfl,rfl,H.P,H.rd,H.lo,H.hp,H.lb,H.bp,H.sm⟩,rfl⟩,rfl,rfl,rfl,rfl⟩
 . rw[Ah (os:=[_,_,_,_,_]) rfl];simp only[e,List.getElem_toArray,List.getElem_cons_zero,List.getElem_cons_succ]
   iterate 4 go_step
   refine Az (by simp[Region.wanted,yielded,Act.put,j41]) 29 (.tmp 3) rfl b rfl L.cs H.P Tryz.underlying29 rfl Ad ?_;go_wp;exact⟨rfl,rfl,⟨⟨rfl,rfl,rfl,H.P,H.rd,H.lo,H.hp,H.lb,H.bp,H.sm⟩,rfl⟩,rfl,rfl,rfl,rfl⟩
 . rw[Ah (os:=[_,_,_,_,_]) rfl];simp only[e,List.getElem_toArray,List.getElem_cons_zero,List.getElem_cons_succ]
   iterate 6 go_step
   refine Az (by simp[Region.wanted,yielded,Act.put,j41]) 29 (.tmp 3) rfl b rfl L.cs H.P Tryz.underlying29 rfl Ad ?_;go_wp;exact⟨rfl,rfl,⟨⟨rfl,rfl,rfl,H.P,H.rd,H.lo,H.hp,H.lb,H.bp,H.sm⟩,rfl⟩,rfl,rfl,rfl,rfl⟩
 . rw[Ah (os:=[_,_,_,_,_]) rfl];simp only[e,List.getElem_toArray,List.getElem_cons_zero,List.getElem_cons_succ]
   iterate 10 go_step
   refine Az (by simp[Region.wanted,yielded,Act.put,j41]) 29 (.tmp 3) rfl b rfl L.cs H.P Tryz.underlying29 rfl Ad ?_;exact⟨rfl,rfl,⟨⟨rfl,rfl,rfl,H.P,H.rd,H.lo,H.hp,H.lb,H.bp,H.sm⟩,rfl⟩,rfl,rfl,rfl,rfl⟩
 . rw[Ah (os:=[_,_,_,_,_]) rfl];simp only[e,List.getElem_toArray,List.getElem_cons_zero,List.getElem_cons_succ]
   iterate 4 go_step
   refine Az (by simp[Region.wanted,yielded,Act.put,j41]) 29 (.tmp 3) rfl b rfl L.cs H.P Tryz.underlying29 rfl Ad ?_;go_wp;exact⟨rfl,rfl,⟨⟨rfl,rfl,rfl,H.P,H.rd,H.lo,H.hp,H.lb,H.bp,H.sm⟩,rfl⟩,rfl,rfl,rfl,rfl⟩
 . rw[Ah (os:=[_,_,_,_,_]) rfl];simp only[e,List.getElem_toArray,List.getElem_cons_zero,List.getElem_cons_succ]
   iterate 6 go_step
   refine Az (by simp[Region.wanted,yielded,Act.put,j41]) 29 (.tmp 3) rfl b rfl L.cs H.P Tryz.underlying29 rfl Ad ?_;go_wp;exact⟨rfl,rfl,⟨⟨rfl,rfl,rfl,H.P,H.rd,H.lo,H.hp,H.lb,H.bp,H.sm⟩,rfl⟩,rfl,rfl,rfl,rfl⟩
 . rw[Ah (os:=[_,_,_,_,_]) rfl];simp only[e,List.getElem_toArray,List.getElem_cons_zero,List.getElem_cons_succ]
   iterate 10 go_step
   refine Az (by simp[Region.wanted,yielded,Act.put,j41]) 29 (.tmp 3) rfl b rfl L.cs H.P Tryz.underlying29 rfl Ad ?_;exact⟨rfl,rfl,⟨⟨rfl,rfl,rfl,H.P,H.rd,H.lo,H.hp,H.lb,H.bp,H.sm⟩,rfl⟩,rfl,rfl,rfl,rfl⟩
theorem aE{i:Nat}(H:Uo h0 51 L D N cc xs b (i:Int) T w)(hi:1<=i/\i<=1000)(h38:T.getD 38 undef=.bool true)(h41:T.getD 41 undef=.bool false)(h47:T.getD 47 undef=.int .i64 (-1)):wpOps Tryz.prog (cO cE) (fun e t u=>e=.normal/\t.defers=[]/\(t.tmps.getD 2 undef=.bool true)) [17,18,19,20] ⟨T,[]⟩ w:=by
 obtain⟨J,rfl⟩:∃ J,T=TV J:=⟨_,tv_of H.size⟩;have j3:J 3=AA b:=H.t3;have j4:J 4=.slice D N cc:=H.t4;have j5:J 5=.int .i64 (i:Int):=H.t5;have j38:J 38=.bool true:=h38;have j41:J 41=.bool false:=h41;have j47:J 47=.int .i64 (-1):=h47;have e:cO cE=#[_,_,_,_,_,_,_,_,_,_,_,_,_,_,_,_,_,_,_,_,_]:=rfl;rw[Ah (os:=[_,_,_,_]) rfl];simp only[e,List.getElem_toArray,List.getElem_cons_zero,List.getElem_cons_succ];go_wp;exact⟨rfl,rfl,rfl⟩
end
theorem way(a:Option Addr)(len cap:Nat)(zs:List Int)(W:World)(hr:IsRow .u8 W a len cap zs)(ca:Cel W a)(hq:Quarter W)(hG:XR.G<=W.heap.size):Ren.Way PP (Lx W) (Bb (Frame.enter PP fV #[.slice a len cap] .normal) []) W:=by
 refine Ren.Way.of_co (W:=W) (RO:=Lt W.heap.size) (O:=fun _=>False) ?_ (Ren.Alike.refl W) (fun j hj=>hj);have ha:ArrR XR.L (vr W W.heap.size) (#[.slice a len cap]++Array.replicate 50 undef) (#[.slice a len cap]++Array.replicate 50 undef) :=
  (ArrR.one (Br ca)).append (.replicate _ (.tuple rfl fun i x y h=>by simp at h))
 have h:Sit XR gR W.heap.size (vr W W.heap.size) (fun _=>False) (fun j=>W.heap[j]?) (fun T u=>T=#[.slice a len cap]++Array.replicate 50 undef/\(IsRow .u8 u a len cap zs/\Quarter u)/\Hp (vh W W.heap.size) u) (#[.slice a len cap]++Array.replicate 50 undef) (fun _=>False) W :=
  Sit.start (Nat.le_refl _) hG (CS hq fun _ _=>rfl) (fun j h=>h.elim) ha ha (fun _ _=>rfl) (fun u hu=>⟨rfl,⟨hr.veil ca (Hp.refl hu),hq.veil (Hp.refl hu)⟩,Hp.refl hu⟩)
 rw[Ds fV_at (c:=kB) rfl,kB_eq];refine h.ctl rfl (fun w1=>AF) ?_;refine h.wp AJ AK Av (fun T u u' x e=>⟨x.1,⟨x.2.1.1.same e,x.2.1.2.same e⟩,x.2.2.same e⟩) nn (Am fV_at) k0 (Q1:=Za (vh W W.heap.size) 51 a len cap zs) (fun T u x=>?_) fun T1 O1 y1 h1=>?_
 . rw[x.1,tv_args];exact a0 (J:=fun z=>match z with | 0=>.slice a len cap | _=>undef) rfl x.2.1.1 x.2.1.2 x.2.2
 refine h1.ctl rfl (fun w1=>AF) ?_;refine h1.wp2 AJ AK Av Za.hpo nn (Am fV_at) kX (Q1:=Za (vh W W.heap.size) 51 a len cap zs) (Q2:=fun T u=>T.getD 2 undef=.bool true) (fun T u x=>aX x) (fun T2 O2 y2 h2=>?_) (fun k T2 O2 y2 h2=>h2.done (fun _ _=>rfl) fV_at (by kernel_rfl) (by rfl) fun T u x=>x);refine h2.ctl rfl (fun w1=>AF) ?_;refine h2.wp AJ AK Av Za.hpo nn (Am fV_at) k3 (Q1:=fun T u=>∃ L D N cc xs b,Uh (vh W W.heap.size) 51 L D N cc xs b T u) (fun T u x=>a3 x) fun T3 O3 y3 h3=>?_;obtain⟨L,h3⟩:=h3.split;obtain⟨D,h3⟩:=h3.split;obtain⟨N,h3⟩:=h3.split;obtain⟨cc,h3⟩:=h3.split;obtain⟨xs,h3⟩:=h3.split
 obtain⟨b,h3⟩:=h3.split;refine h3.ctl rfl (fun w1=>AF) ?_;refine h3.ctl rfl (fun w1=>by rw[show c4=.region 4 (cO c4) false from rfl]; exact Ba) ?_;refine h3.ops (l1:=[0,1]) (l2:=[2,3]) AJ AK Av Uh.hpo nn (Am fV_at) o4 (Q1:=fun T u=>Uh (vh W W.heap.size) 51 L D N cc xs b T u/\T.getD 15 undef=L.val/\T.getD 16 undef=.slice D N cc) (fun T u x=>a4 x) fun T4 O4 y4 h4=>?_;refine h4.runScore hG (i:=2) (l:=[3]) (d:=17) (L:=L) (A:=D) (n:=N) (cap:=cc) (xs:=xs) rfl rfl rfl rfl (fun T u x=>⟨x.2,x.1.rd⟩) fun B2 y5 hB h5=>?_
 refine Sit.ops (l1:=[3]) (l2:=[]) (h5.mono (Q1:=fun T u=>Uh (vh W W.heap.size) 51 L D N cc xs b T u/\T.getD 17 undef=.int .i64 (L.score xs N)) fun T u ⟨T0,x,e⟩=>?_) AJ AK Av (fun T u u' x e=>⟨Uh.hpo T u u' x.1 e,x.2⟩) nn (Am fV_at) o4b (Q1:=Uo (vh W W.heap.size) 51 L D N cc xs b (L.score xs N)) (fun T u x=>a4b x.1 x.2) fun T6 O6 y6 h6=>?_
 . subst e;exact⟨x.1.put (by omega) _,A8 (by rw[x.1.size]; omega)⟩
 refine h6.ctl rfl (fun w1=>BG) ?_;rw[kR_eq];refine h6.ctl rfl (fun w1=>AF) ?_;refine h6.wp AJ AK Av Uo.hpo nn (Am fV_at) k5 (Q1:=fun T u=>Uo (vh W W.heap.size) 51 L D N cc xs b (L.score xs N) T u/\T.getD 6 undef=.int .i64 (L.score xs N)) (fun T u x=>a5 x) fun T7 O7 y7 h7=>?_;refine h7.ctl rfl (fun w1=>AF) ?_
 refine h7.wp2 AJ AK Av (fun T u u' x e=>⟨Uo.hpo T u u' x.1 e,x.2⟩) nn (Am fV_at) k6 (Q1:=fun T u=>Uo (vh W W.heap.size) 51 L D N cc xs b (L.score xs N) T u/\0<=L.score xs N) (Q2:=fun T u=>T.getD 2 undef=.bool true) (fun T u x=>a6 x.1 x.2) (fun T8 O8 y8 h8=>?_) (fun k T8 O8 y8 h8=>h8.done (fun j hj=>hB j hj) fV_at (by kernel_rfl) (by rfl) fun T u x=>x);have hx:=h8.fact fun T u x=>(⟨x.1.rd.ins.1,x.2,x.1.sm,x.1.rd.room⟩:xs.length=N/\0<=L.score xs N/\N<=63/\N<=cc);obtain⟨hok,i,i1,i2,i3,i4,i5,i6,i7,_⟩:=IL hx.1 hx.2.1;have s1:L.score (xs.take i) i=(i:Int):=by rw[HP hx.1 hok i2]; simp[Nx,i6,i5]
 have s2:L.score (xs.take (i-1)) (i-1)=-1:=by rw[HP hx.1 hok (by omega)]; simp[Nx,i7]
 have h9:=h8.mono (Q1:=Uo (vh W W.heap.size) 51 L D N cc xs b (i:Int)) fun T u x=>by rw[<- i3]; exact x.1
 rw[kQ_eq];refine h9.ctl rfl (fun w1=>AF) ?_;rw[Un];refine h9.draw Qp fun t=>?_;obtain⟨l1,bb,l3,hl,hl1,hl3⟩:=KI t;rw[hl];have rest:∀{B5:Nat->Option Obj} {T:Array Value} {O:Nat->Prop} {w:World},(∀ j,j<W.heap.size->B5 j=B2 j)->Sit XR gR W.heap.size (vr W W.heap.size) (fun _=>False) B5 (fun T u=>(Uo (vh W W.heap.size) 51 L D N cc xs b (i:Int) T u/\T.getD 35 undef=.int .i64 (i:Int))/\T.getD 36 undef=.int .i64 (i:Int)) T O w ->
  Co PP true (Lt W.heap.size) (Dq PP W (Lx W)) O (Bb (F fV T (.inRegion (cO cE) ([6,7,8,9,10]++(l3++(16::[17,18,19,20])))::[.code .ret])) []) w:=fun {B5 T O w} hB2 h10=>by
  refine h10.ops (l1:=[6,7,8,9,10]) (l2:=l3++(16::[17,18,19,20])) AJ AK Av (fun T u u' x e=>⟨⟨Uo.hpo T u u' x.1.1 e,x.1.2⟩,x.2⟩) nn (Am fV_at) (Ua (by simp)) (Q1:=fun T u=>Uo (vh W W.heap.size) 51 L D N cc xs b (i:Int) T u/\T.getD 38 undef=.bool true/\T.getD 41 undef=.bool false) (fun T u x=>aM x.1.1 ⟨i1,by omega⟩ x.1.2 x.2) fun T11 O11 y11 h11=>?_
  refine h11.ops (l1:=l3) (l2:=16::[17,18,19,20]) AJ AK Av (fun T u u' x e=>⟨Uo.hpo T u u' x.1 e,x.2⟩) nn (Am fV_at) (Ua (UX (by kernel_rfl) hl3)) (Q1:=fun T u=>Uo (vh W W.heap.size) 51 L D N cc xs b (i:Int) T u/\T.getD 38 undef=.bool true/\T.getD 41 undef=.bool false/\T.getD 42 undef=L.val/\T.getD 46 undef=.slice D (i-1) cc) (fun T u x=>aC x.1 ⟨i1,i2⟩ hx.2.2.2 x.2.1 x.2.2 hl3) fun T12 O12 y12 h12=>?_;have e41:=h12.slot (i:=41) (.bool false) fun T u x=>x.2.2.1
  refine h12.runScoreW hG (i:=16) (l:=[17,18,19,20]) (d:=47) (L:=L) (A:=D) (n:=i-1) (cap:=cc) (xs:=xs.take (i-1)) rfl (OQ (j:=10) (d:=41) rfl rfl rfl e41) rfl rfl (fun T u x=>⟨x.2.2.2,x.1.rd.lv,x.1.rd.ins.take (by omega),x.1.rd.cel,by omega,by omega,x.1.rd.quarter⟩) fun B4 y13 hB4 h13=>?_
  refine Sit.ops (l1:=[17,18,19,20]) (l2:=[]) (h13.mono (Q1:=fun T u=>Uo (vh W W.heap.size) 51 L D N cc xs b (i:Int) T u/\T.getD 38 undef=.bool true/\T.getD 41 undef=.bool false/\T.getD 47 undef=.int .i64 (-1)) fun T u ⟨T0,x,e⟩=>?_) AJ AK Av (fun T u u' x e=>⟨Uo.hpo T u u' x.1 e,x.2⟩) nn (Am fV_at) (Ua (by simp)) (Q1:=fun T u=>T.getD 2 undef=.bool true) (fun T u x=>aE x.1 ⟨i1,by omega⟩ x.2.1 x.2.2.1 x.2.2.2) fun T14 O14 y14 h14=>?_
  . subst e;exact⟨x.1.put (by omega) _,(Aj (by omega)).trans x.2.1,(Aj (by omega)).trans x.2.2.1,(A8 (by rw[x.1.size]; omega)).trans (by rw[s2])⟩
  refine h14.ctl rfl (fun w1=>BG) ?_;refine h14.ctl rfl (fun w1=>Jy) ?_;exact h14.done (fun j hj=>((hB4 j hj).trans (hB2 j hj)).trans (hB j hj)) fV_at (by kernel_rfl) (by rfl) fun T u x=>x
 rcases hl1 with⟨hl1,rfl⟩ | ⟨hl1,rfl⟩
 . refine h9.ops (l2:=4::([5]++([6,7,8,9,10]++(l3++(16::[17,18,19,20]))))) AJ AK Av Uo.hpo nn (Am fV_at) (Ua (UX (by kernel_rfl) hl1)) (Q1:=fun T u=>Uo (vh W W.heap.size) 51 L D N cc xs b (i:Int) T u/\T.getD 31 undef=L.val/\T.getD 34 undef=.slice D i cc) (fun T u x=>aA x ⟨i1,i2⟩ hx.2.2.2 hl1) fun T10 O10 y10 h10=>?_;refine h10.runScore hG (i:=4) (l:=[5]++([6,7,8,9,10]++(l3++(16::[17,18,19,20])))) (d:=35) (L:=L) (A:=D) (n:=i) (cap:=cc) (xs:=xs.take i) rfl rfl rfl rfl (fun T u x=>⟨x.2,x.1.rd.lv,x.1.rd.ins.take i2,x.1.rd.cel,by omega,by omega,x.1.rd.quarter⟩) fun B3 y11 hB3 h11=>?_
   refine Sit.ops (l1:=[5]) (l2:=([6,7,8,9,10]++(l3++(16::[17,18,19,20])))) (h11.mono (Q1:=fun T u=>Uo (vh W W.heap.size) 51 L D N cc xs b (i:Int) T u/\T.getD 35 undef=.int .i64 (i:Int)) fun T u ⟨T0,x,e⟩=>?_) AJ AK Av (fun T u u' x e=>⟨Uo.hpo T u u' x.1 e,x.2⟩) nn (Am fV_at) (Ua (by simp)) (Q1:=fun T u=>(Uo (vh W W.heap.size) 51 L D N cc xs b (i:Int) T u/\T.getD 35 undef=.int .i64 (i:Int))/\T.getD 36 undef=.int .i64 (i:Int)) (fun T u x=>Vi x.1 ⟨i1,by omega⟩ x.2) fun T12 O12 y12 h12=>rest hB3 h12;subst e;exact⟨x.1.put (by omega) _,(A8 (by rw[x.1.size]; omega)).trans (by rw[s1])⟩
 . refine h9.ops (l2:=4::([]++([6,7,8,9,10]++(l3++(16::[17,18,19,20]))))) AJ AK Av Uo.hpo nn (Am fV_at) (Ua (UX (by kernel_rfl) hl1)) (Q1:=fun T u=>Uo (vh W W.heap.size) 51 L D N cc xs b (i:Int) T u/\T.getD 31 undef=L.val/\T.getD 34 undef=.slice D i cc/\T.getD 36 undef=.int .i64 (i:Int)) (fun T u x=>aB x ⟨i1,i2⟩ hx.2.2.2 hl1) fun T10 O10 y10 h10=>?_
   refine h10.runScore hG (i:=4) (l:=[]++([6,7,8,9,10]++(l3++(16::[17,18,19,20])))) (d:=35) (L:=L) (A:=D) (n:=i) (cap:=cc) (xs:=xs.take i) rfl rfl rfl rfl (fun T u x=>⟨⟨x.2.1,x.2.2.1⟩,x.1.rd.lv,x.1.rd.ins.take i2,x.1.rd.cel,by omega,by omega,x.1.rd.quarter⟩) fun B3 y11 hB3 h11=>?_;refine rest hB3 (h11.mono fun T u ⟨T0,x,e⟩=>?_);subst e;exact⟨⟨x.1.put (by omega) _,(A8 (by rw[x.1.size]; omega)).trans (by rw[s1])⟩,(Aj (by omega)).trans x.2.2.2⟩
end Go.Proofs.YtaemcekcancpdaaGreatDoor.fnScoreLongerW
