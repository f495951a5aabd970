/- Tables that a row lists are where the evaluator wants them; what is behind a call that only made memory. -/
import Derived.Test.YtgchcfhbcaemoabGreatDoorRvY
import Derived.Below
import Derived.ChangeSame
import Derived.Lib.LaidTab
import Derived.LaidSub
namespace Go.Rv
open Go Go.RowKit Go.WideShapes Go.ChangeShapes

theorem tab_at {P : Program} {w : World} {name : String} {k : IntKind} {zs : List Int} {g : Nat} (hg : P.globalNamed name = some g) (h : Lib.TabIs P w name k zs) :
    ∃ ty fz, w.heap[g]? = some (.cells (zs.map fun z => Value.int k z).toArray ty fz) := by
  unfold Lib.TabIs World.var? at h
  rw [hg] at h
  simp only [Option.bind_some] at h
  split at h
  · rename_i cs ty fz hh
    simp only [Option.some.injEq] at h
    subst h
    exact ⟨ty, fz, hh⟩
  · simp at h

theorem one_of {P : Program} {W : World} {l : List (String × DataW Unit)} {name : String} {d : DataW Unit} (h : laidMetH P l W) (hn : (l.filter fun x => x.2.handleName?.isSome) = []) (hf : (l.filter fun x => x.1 == name) = [(name, d)]) : laidMet P [(name, d)] W := by
  unfold laidMetH at h
  rw [hn] at h
  simp only at h
  rw [← hf]
  exact laidMet.filter _ h

/-- arguments that read as before, a result without memory, and what is new lies behind -/
theorem post_new {H : Type} {enc : TypeId × Value → H} {P : Program} {f : Func} {s : ChangeSpec} {apart fresh handsOn again : Bool} {W W' : World} {args : Array Value} {v : Value} {ds gs : List (DataW H)} {before pa pv : List MemPlace}
    (hW : DataW.Whole enc P f.params.toList s.vars apart W args.toList ds gs before)
    (hr : ∀ (b : Nat) (sp : Nat → Bool) (hd : Bool), DataW.TrodAll enc P W' b sp hd f.resultTypes.toList (v.resultList f.resultTypes.size) (s.fn H (ds ++ gs)).results [])
    (ha : ∀ sp : Nat → Bool, (∀ p ∈ before, sp p.block = true) → DataW.TrodAll enc P W' 0 sp true f.params.toList args.toList (s.fn H (ds ++ gs)).args pa)
    (hv : ∀ sp : Nat → Bool, (∀ p ∈ before, sp p.block = true) → DataW.TrodVars enc P W' sp s.vars (s.fn H (ds ++ gs)).vars pv)
    (hp : before = pa ++ pv) (hb : Below W.heap.size W W')
    (hok : ∀ (j : Nat) (t : TypeId) (r : Value), f.resultTypes[j]? = some t → (v.resultList f.resultTypes.size)[j]? = some r → Value.okWide P W' .any 0 t r) :
    s.post enc P f apart fresh handsOn again W args v W' := by
  have hlt : ∀ p ∈ before, p.block < W.heap.size := fun p hp => hW.lt p hp
  have hold : ∀ p ∈ before, (fun b => decide (b < W.heap.size)) p.block = true := fun p hp => by simpa using hlt p hp
  have hW2 := hW
  obtain ⟨_, _, _, _, _, hz, hn⟩ := hW
  subst hp
  refine ⟨ds, gs, pa ++ pv, [], pa, pv, ?_, hr _ _ _, ha _ hold, hv _ hold, ?_, fun _ => ⟨hok, _, _, ([] ++ pa) ++ pv, ⟨[] ++ pa, pv, trodAll_append (ha _ fun _ _ => rfl) (hr _ _ _), hv _ fun _ _ => rfl, rfl, ?_, ?_⟩, ?_⟩⟩
  · exact hW2
  · exact World.keptBut_mono (fun p hq => ⟨hq, by simpa using hq⟩) (hb.frame (· ∈ pa ++ pv))
  · intro b off hin
    have hin' : MemPlace.cell b off ∈ pa ++ pv := by simpa using hin
    rw [hb.frozen (hlt _ hin')]
    exact hz b off hin'
  · intro hap
    simpa using hn hap
  · intro p hq _
    simpa using hq
end Go.Rv
