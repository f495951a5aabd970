import Derived.Test.YtdnphbnnhfpphaaGrM
import Derived.Test.YtdnphbnnhfpphaaSyP2
import Derived.KernelRfl
namespace Go.Proofs.Ytdnphbnnhfpphaa.Sy
open Go Go.Rv
theorem own0:@NoOwn (plainEnv (([]:Tabs).map (·.1))) P:=noOwn_plain named _
theorem awake_run:(@callF (plainEnv (([]:Tabs).map (·.1))) P (@evR (plainEnv (([]:Tabs).map (·.1))) P 3000) 10 [] (tabRw ([]:Tabs))).map (·.1)=some (.v (.bool true)):=by kernel_rfl
theorem awake_ok (W:RW) (h:hasTabs ([]:Tabs) W):@CallOk (plainEnv (([]:Tabs).map (·.1))) P 10 [] W (.v (.bool true)) W:=by
 have hc:=awake_run
 cases hq:@callF (plainEnv (([]:Tabs).map (·.1))) P (@evR (plainEnv (([]:Tabs).map (·.1))) P 3000) 10 [] (tabRw ([]:Tabs))with
 | none=>rw [hq]at hc; simp at hc
 | some q =>
  obtain⟨y,W1⟩:=q
  rw [hq]at hc
  simp only [Option.map_some,Option.some.injEq]at hc
  subst hc
  obtain⟨h1,_⟩:=@callF_ok (plainEnv (([]:Tabs).map (·.1))) P _ own0 (@ev_ok (plainEnv (([]:Tabs).map (·.1))) P own0 3000) 10 [] (tabRw ([]:Tabs)) W1 (.v (.bool true)) hq
  exact lift_tab (tabs:=([]:Tabs)) rfl rfl h1 rfl h
end Go.Proofs.Ytdnphbnnhfpphaa.Sy
