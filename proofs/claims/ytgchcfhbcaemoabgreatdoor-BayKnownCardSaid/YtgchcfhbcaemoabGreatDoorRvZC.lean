/- Known runs in buckets. -/
import Derived.Test.YtgchcfhbcaemoabGreatDoorRvZB
namespace Go.Rv
open Go

/-- what is known, of some functions alone; the key says in which bucket -/
noncomputable def memoBRun (fs : List FuncId) (n : Nat) (l : List (List MemoM)) (g : FuncId) (args : List RV) (W : RW) : Option (RV × RW) := match fs.any (fun k => Nat.beq k g) with
  | true => fnat (hashA args 0) fun k => match lget l (k % n) with
    | some b => memoMFind b k g args W
    | none => none
  | false => none

@[reducible] noncomputable def memoBEnv (ids gs fs : List Nat) (n : Nat) (l : List (List MemoM)) : Env := ⟨ids, memoBRun fs n l, fun g => gs.any fun k => Nat.beq k g⟩

theorem noOwn_memoB {P : Program} (h : Named P) (ids gs fs : List Nat) (n : Nat) {l : List (List MemoM)} (hl : ∀ b ∈ l, ∀ e ∈ b, e.Ok P) : @NoOwn (memoBEnv ids gs fs n l) P := by
  refine @NoOwn.mk (memoBEnv ids gs fs n l) P h ?_
  intro g args W x W' hx0
  have hx1 : memoBRun fs n l g args W = some (x, W') := hx0
  unfold memoBRun at hx1
  split at hx1
  · rename_i hf
    rw [fnat_eq] at hx1
    split at hx1
    · rename_i b hb
      rw [lget_eq] at hb
      have hm : @Env.ext (memoMEnv ids gs fs b) g args W = some (x, W') := by
        show memoMRun fs b g args W = _
        unfold memoMRun
        rw [hf]
        show fnat (hashA args 0) (fun k => memoMFind b k g args W) = _
        rw [fnat_eq]
        exact hx1
      obtain ⟨h1, h2⟩ := @NoOwn.ext (memoMEnv ids gs fs b) P (noOwn_memoM h ids gs fs (hl b (List.mem_of_getElem? hb))) g args W x W' hm
      exact ⟨@conv_ok (memoMEnv ids gs fs b) (memoBEnv ids gs fs n l) rfl P g args W W' x h1, h2⟩
    · simp at hx1
  · simp at hx1
end Go.Rv
