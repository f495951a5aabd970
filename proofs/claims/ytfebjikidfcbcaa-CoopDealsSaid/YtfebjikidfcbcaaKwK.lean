import Derived.Test.YtfebjikidfcbcaaSyP2
import Derived.Test.YtfebjikidfcbcaaGrM
import Derived.Test.YtfebjikidfcbcaaStM
import Derived.Test.YtfebjikidfcbcaaKwJ
import Derived.Test.YtfebjikidfcbcaaSyP2
import Derived.KernelRfl
import Derived.Test.YtfebjikidfcbcaaProg
namespace Go.Proofs.Ytfebjikidfcbcaa.Sy
open Go Go.Rv
set_option linter.unusedVariables false
noncomputable def F_deeds:FnE:=⟨56,none,[],fun _=>False,fun _=>[],fun _=>[],fun _=>[],false,none,some [(1,74),(2,75),(3,76),(4,77),(5,78),(6,79),(7,80),(8,81)]⟩
theorem e_deeds:(∀(B:RW) (x:RV),Ob ([1,2,3,4,5,6,7,8]=pxK [(1,74),(2,75),(3,76),(4,77),(5,78),(6,79),(7,80),(8,81)]∧[SV.bf 74 (.rv x),SV.bf 75 (.rv x),SV.bf 76 (.rv x),SV.bf 77 (.rv x),SV.bf 78 (.rv x),SV.bf 79 (.rv x),SV.bf 80 (.rv x),SV.bf 81 (.rv x)]=pxL (.rv x) [(1,74),(2,75),(3,76),(4,77),(5,78),(6,79),(7,80),(8,81)]))=needPx P 56 [(1,74),(2,75),(3,76),(4,77),(5,78),(6,79),(7,80),(8,81)]:=by kernel_rfl
theorem b_deeds:((P.funcs[56]?).any fun fn=>fn.body.isSome)=true:=by kernel_rfl
theorem deeds_ok:FnE.Ok P F_deeds:=FnE.px_of named rfl b_deeds (fun _ h=>h) (by
 show Ob (needPx P 56 [(1,74),(2,75),(3,76),(4,77),(5,78),(6,79),(7,80),(8,81)])
 rw [← e_deeds]
 exact⟨fun B x=>⟨rfl,rfl⟩⟩)
end Go.Proofs.Ytfebjikidfcbcaa.Sy
