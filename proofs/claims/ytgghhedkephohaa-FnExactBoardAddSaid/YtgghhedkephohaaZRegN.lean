import Derived.Test.YtgghhedkephohaaZCelS
set_option linter.all false
set_option maxRecDepth 100000
set_option maxHeartbeats 8000000
namespace Go.Proofs.Ytgghhedkephohaa
open Go.RowKit
def Enters(P:Program)(f:FuncId):Prop:=∃ fn,P.funcs[f]?=some fn/\(fn.name == "runtime.NumGoroutine")=false/\fn.body.isNone=false
theorem AC{P:Program}{f:FuncId}(hf:Enters P f)(vs:Array Value)(w:World):(callFunc f vs).run P w=.ok (.enter f vs) w:=by
 obtain⟨fn,h1,h2,h3⟩:=hf;unfold callFunc;simp only[Sem.run_bind,show(program:Sem Program).run P w=.ok P w from rfl,Result.andThen_ok,h1,h2,h3];rfl
end Go.Proofs.Ytgghhedkephohaa
