import Derived.Test.YtdnphbnnhfpphaaTrA
import Derived.KernelRfl
namespace Go.Proofs.Ytdnphbnnhfpphaa.Sy
open Go Go.Rv
def nmMemo (k:Nat):Memo:=⟨44,0,[.v (.string (gnm k))],.v (.bool true)⟩
theorem own1:@NoOwn (plainEnv []) P:=noOwn_plain named _
theorem nm_run0:(@callF (plainEnv []) P (@evR (plainEnv []) P 400) 44 [.v (.string (gnm 0))] (Rv.blank 0)).map (·.1)=some (.v (.bool true)):=by kernel_rfl
theorem nm_run1:(@callF (plainEnv []) P (@evR (plainEnv []) P 400) 44 [.v (.string (gnm 1))] (Rv.blank 0)).map (·.1)=some (.v (.bool true)):=by kernel_rfl
theorem nm_run2:(@callF (plainEnv []) P (@evR (plainEnv []) P 400) 44 [.v (.string (gnm 2))] (Rv.blank 0)).map (·.1)=some (.v (.bool true)):=by kernel_rfl
theorem nm_run3:(@callF (plainEnv []) P (@evR (plainEnv []) P 400) 44 [.v (.string (gnm 3))] (Rv.blank 0)).map (·.1)=some (.v (.bool true)):=by kernel_rfl
theorem nm_ok:∀k,k < 4→(nmMemo k).Ok P
 | 0,_=>memo_of (e:=plainEnv []) (m:=nmMemo 0) rfl own1 400 nm_run0 rfl rfl
 | 1,_=>memo_of (e:=plainEnv []) (m:=nmMemo 1) rfl own1 400 nm_run1 rfl rfl
 | 2,_=>memo_of (e:=plainEnv []) (m:=nmMemo 2) rfl own1 400 nm_run2 rfl rfl
 | 3,_=>memo_of (e:=plainEnv []) (m:=nmMemo 3) rfl own1 400 nm_run3 rfl rfl
 | n+4,h=>by omega
noncomputable def F_isName:Fn0:=⟨44,[.one .tx],fun l=>match l with | [.z n]=>∃k,k < 4∧n=codeOf (gnm k) | _=>False,fun l=>match l with | [.z _]=>.p True | _=>.v undef⟩
theorem isName_ok:Fn0.Ok P F_isName:=by
 refine⟨?_,(nm_ok 0 (by omega)).2,?_⟩
 ·intro args W l hr hpre ids
  match args,hr with
  | [],hr=>simp [F_isName,readR]at hr
  | [x],hr =>
   simp only [F_isName,readR,readSc]at hr
   split at hr
   ·rename_i d ds h1 h2
    split at h1
    ·rename_i u
     simp only [Option.some.injEq]at h1 h2
     subst h1 h2
     simp only [Option.some.injEq]at hr
     subst hr
     obtain⟨k,hk,e⟩:=(show ∃k,k < 4∧codeOf u=codeOf (gnm k)from hpre)
     have e:=codeOf_inj e
     subst e
     have h:=(nm_ok k hk).1 ids W
     have e2:den 0 (F_isName.sp [.z (codeOf (gnm k))])=.v (.bool true):=by
      show RV.v (.bool (@decide True (Classical.propDecidable True)))=_
      simp
     rw [e2]
     exact h
    ·simp at h1
   ·simp at hr
  | x :: y :: r,hr =>
   simp only [F_isName,readR]at hr
   split at hr
   ·rename_i h1 h2
    simp at h2
   ·simp at hr
 ·intro l N
  simp only [F_isName]
  split<;>rfl
end Go.Proofs.Ytdnphbnnhfpphaa.Sy
