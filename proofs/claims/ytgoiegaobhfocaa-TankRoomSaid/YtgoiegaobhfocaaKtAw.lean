import Derived.Test.YtgoiegaobhfocaaKtJ
import Derived.KernelRfl
namespace Go.Proofs.Ytgoiegaobhfocaa.Sy
open Go Go.Rv
theorem awake_run:(@callF (knEnv (([]:Tabs).map (·.1)) [nextK]) P (@evR (knEnv (([]:Tabs).map (·.1)) [nextK]) P 3000) 7 [] (tabRw ([]:Tabs))).map (·.1)=some (.v (.bool true)):=by kernel_rfl
theorem awake_ok (W:RW) (h:hasTabs ([]:Tabs) W):@CallOk (plainEnv (([]:Tabs).map (·.1))) P 7 [] W (.v (.bool true)) W:=
 knRun named (ks:=[nextK]) (by intro k hk; simp only [List.mem_cons,List.not_mem_nil,or_false]at hk; subst hk; exact nextK_ok) awake_run W h
end Go.Proofs.Ytgoiegaobhfocaa.Sy
