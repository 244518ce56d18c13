import Derived.Test.YtgghhedkephohaaZCtRow
import Derived.Test.YtgghhedkephohaaZRegN
import Derived.Test.YtgghhedkephohaaZEnBuild
set_option linter.all false
set_option maxRecDepth 100000
set_option maxHeartbeats 8000000
namespace Go.Proofs.Ytgghhedkephohaa
open Go.RowKit
open M
theorem Dp(w:World)(hb:Nat)(v:Value)(h:w.cell? ⟨hb,0,none⟩=some v):(loadVar 62 ⟨hb,0,none⟩).run Try.prog w=.ok v w:=by
 have u:=Try.underlying62;have a:=Try.isAgg62;go_simp
theorem BO{P:Program}{t:TypeId}{name:String}{f:FuncId}{pr:Bool}(hm:((P.info? t).bind fun i=>(i.methods.find? (·.name==name)).map fun m=>(m.path,m.func))=some (#[],some (f,pr)))
 (fuel:Nat) (v:Value) (w:World) (r:Value) (hr:(receiverAt t (.val v) pr (some ((name.splitOn ".").getLastD name))).run P w=.ok r w):(method (fuel+1) t v name).run P w=.ok (f,r) w:=by
 cases hi:P.info? t with
 | none=>rw[hi] at hm; cases hm
 | some i =>
  rw[hi,Option.bind_some] at hm;cases h1:i.methods.find? (·.name==name) with
  | none=>rw[h1] at hm; cases hm
  | some m =>
   rw[h1,Option.map_some] at hm;obtain⟨h2,h3⟩:=Prod.mk.inj (Option.some.inj hm);unfold method;generalize (name.splitOn ".").getLastD name=nm at *;simp only[typeInfo,Sem.run_bind,show(program:Sem Program).run P w=.ok P w from rfl,Result.andThen_ok,hi,Sem.run_pure,h1,h2,h3,follow,Array.toList_empty,Array.isEmpty_empty,hr];simp[follow,hr]
theorem Df(P:Program)(w:World)(ts:Array TypeId)(t:TypeId)(a:Addr)(x y:String):(Builtin.ssaWrapNilChk_ ts t #[.pointer (some a),strVal x,strVal y]).run P w=.ok (.pointer (some a)) w:=rfl
theorem Cr(w:World)(hb:Nat)(v:Value)(h:w.cell? ⟨hb,0,none⟩=some v)(nm:String):(receiverAt 64 (.val (.pointer (some ⟨hb,0,none⟩))) false (some nm)).run Try.prog w=.ok v w:=by
 have u:=Try.underlying64;have l:=Dp w hb v h;have c:=fun(ts:Array TypeId) (t:TypeId) (x y:String)=>Df Try.prog w ts t ⟨hb,0,none⟩ x y;have g:(Place.get 64 (.val (.pointer (some ⟨hb,0,none⟩)))).run Try.prog w=.ok (.pointer (some ⟨hb,0,none⟩)) w:=rfl;unfold receiverAt;go_simp
theorem Dg(w:World)(hb:Nat)(nm:String):(receiverAt 64 (.val (.pointer (some ⟨hb,0,none⟩))) true (some nm)).run Try.prog w=.ok (.pointer (some ⟨hb,0,none⟩)) w:=by
 have u:=Try.underlying64;have c:=fun(ts:Array TypeId) (t:TypeId) (x y:String)=>Df Try.prog w ts t ⟨hb,0,none⟩ x y;have g:(Place.get 64 (.val (.pointer (some ⟨hb,0,none⟩)))).run Try.prog w=.ok (.pointer (some ⟨hb,0,none⟩)) w:=rfl;unfold receiverAt;go_simp
theorem EO(fuel:Nat)(w:World)(hb:Nat)(v:Value)(h:w.cell? ⟨hb,0,none⟩=some v):(method (fuel+1) 64 (.pointer (some ⟨hb,0,none⟩)) "Len").run Try.prog w=.ok (78,v) w :=
 BO (by kernel_rfl) fuel _ w v (Cr w hb v h _)
theorem Eg(fuel:Nat)(w:World)(hb:Nat)(v:Value)(h:w.cell? ⟨hb,0,none⟩=some v):(method (fuel+1) 64 (.pointer (some ⟨hb,0,none⟩)) "Less").run Try.prog w=.ok (79,v) w :=
 BO (by kernel_rfl) fuel _ w v (Cr w hb v h _)
theorem Eh(fuel:Nat)(w:World)(hb:Nat)(v:Value)(h:w.cell? ⟨hb,0,none⟩=some v):(method (fuel+1) 64 (.pointer (some ⟨hb,0,none⟩)) "Swap").run Try.prog w=.ok (80,v) w :=
 BO (by kernel_rfl) fuel _ w v (Cr w hb v h _)
theorem Ei(fuel:Nat)(w:World)(hb:Nat):(method (fuel+1) 64 (.pointer (some ⟨hb,0,none⟩)) "Push").run Try.prog w=.ok (82,.pointer (some ⟨hb,0,none⟩)) w :=
 BO (by kernel_rfl) fuel _ w _ (Dg w hb _)
theorem EP(fuel:Nat)(w:World)(hb:Nat):(method (fuel+1) 64 (.pointer (some ⟨hb,0,none⟩)) "Pop").run Try.prog w=.ok (81,.pointer (some ⟨hb,0,none⟩)) w :=
 BO (by kernel_rfl) fuel _ w _ (Dg w hb _)
theorem DO{n:Nat}(hn:n≠0){w:World}{hb:Nat}{v:Value}(h:w.cell? ⟨hb,0,none⟩=some v):(method n 64 (.pointer (some ⟨hb,0,none⟩)) "Len").run Try.prog w=.ok (78,v) w:=by
 obtain⟨k,rfl⟩:∃ k,n=k+1:=⟨n-1,by omega⟩;exact EO k w hb v h
theorem DR(vs:Array Value)(w:World):(callFunc 78 vs).run Try.prog w=.ok (.enter 78 vs) w:=AC ⟨_,Try.func78,by kernel_rfl,by rfl⟩ vs w
theorem Bh{n:Nat}(hn:n≠0){w:World}{hb:Nat}{v:Value}(h:w.cell? ⟨hb,0,none⟩=some v):(method n 64 (.pointer (some ⟨hb,0,none⟩)) "Less").run Try.prog w=.ok (79,v) w:=by
 obtain⟨k,rfl⟩:∃ k,n=k+1:=⟨n-1,by omega⟩;exact Eg k w hb v h
theorem Bi(vs:Array Value)(w:World):(callFunc 79 vs).run Try.prog w=.ok (.enter 79 vs) w:=AC ⟨_,Try.func79,by kernel_rfl,by rfl⟩ vs w
theorem Bj{n:Nat}(hn:n≠0){w:World}{hb:Nat}{v:Value}(h:w.cell? ⟨hb,0,none⟩=some v):(method n 64 (.pointer (some ⟨hb,0,none⟩)) "Swap").run Try.prog w=.ok (80,v) w:=by
 obtain⟨k,rfl⟩:∃ k,n=k+1:=⟨n-1,by omega⟩;exact Eh k w hb v h
theorem Bl(vs:Array Value)(w:World):(callFunc 80 vs).run Try.prog w=.ok (.enter 80 vs) w:=AC ⟨_,Try.func80,by kernel_rfl,by rfl⟩ vs w
theorem EQ{n:Nat}(hn:n≠0){w:World}{hb:Nat}:(method n 64 (.pointer (some ⟨hb,0,none⟩)) "Push").run Try.prog w=.ok (82,.pointer (some ⟨hb,0,none⟩)) w:=by
 obtain⟨k,rfl⟩:∃ k,n=k+1:=⟨n-1,by omega⟩;exact Ei k w hb
theorem ER(vs:Array Value)(w:World):(callFunc 82 vs).run Try.prog w=.ok (.enter 82 vs) w:=AC ⟨_,Try.func82,by kernel_rfl,by rfl⟩ vs w
theorem Fa{n:Nat}(hn:n≠0){w:World}{hb:Nat}:(method n 64 (.pointer (some ⟨hb,0,none⟩)) "Pop").run Try.prog w=.ok (81,.pointer (some ⟨hb,0,none⟩)) w:=by
 obtain⟨k,rfl⟩:∃ k,n=k+1:=⟨n-1,by omega⟩;exact EP k w hb
theorem Fb(vs:Array Value)(w:World):(callFunc 81 vs).run Try.prog w=.ok (.enter 81 vs) w:=AC ⟨_,Try.func81,by kernel_rfl,by rfl⟩ vs w
end Go.Proofs.Ytgghhedkephohaa
