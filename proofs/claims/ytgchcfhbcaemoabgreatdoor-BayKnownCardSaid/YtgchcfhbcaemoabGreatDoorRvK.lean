/- Walks over maps, lengths, append. -/
import Derived.Test.YtgchcfhbcaemoabGreatDoorRvJ
import Derived.Laws.AppendOwn
namespace Go.Rv
open Go
variable [Env]
section
variable {P : Program} {m : Nat → Loc} {t : RT} {W : RW} {arr : Array Value} {w : World} {e : Eff}

omit [Env] in
theorem filter_entries (m : Nat → Loc) (es : List (RV × RV × Nat)) (p : MapEntry → Bool) (q : RV × RV × Nat → Bool) (h : ∀ x, p (entryOf m x) = q x) :
    ((es.map (entryOf m)).toArray.filter p) = ((es.filter q).map (entryOf m)).toArray := by
  simp only [List.filter_toArray, List.filter_map]
  congr 2
  apply List.filter_congr
  intro x _
  exact h x

theorem xNext_ok {ty : TypeId} {x : RV} (hr : Rel m W w) (h : xNext W x = some e) : EffOk P m W w (sv (Instr.next (rv m x) false ty)) e := by
  unfold xNext at h
  split at h
  · rename_i r
    split at h
    · rename_i b since seen stepped hb
      unfold xNextM at h
      split at h
      · rename_i b' es clock ro hm
        obtain ⟨hbb, hmb⟩ := mapAt_spec hm
        cases hbb
        have hi : w.heap[(m r).blk]? = some (.mapIter (some (m b).blk) since seen.toArray stepped) := hr.obj r _ hb
        have ho : w.heap[(m b).blk]? = some (.map (es.map (entryOf m)).toArray clock) := hr.obj b _ hmb
        have hlt : ∀ x ∈ es, below W.n x.1 = true ∧ below W.n x.2.1 = true := hr.lt b _ hmb
        have hblt : b < W.n := get_lt hmb
        split at h
        · rename_i hc
          obtain ⟨hc1, hc2, hc3⟩ := hc
          subst hc1
          subst hc2
          have hguard : (!seen.toArray.isEmpty && !(es.map (entryOf m)).toArray.isEmpty && (es.map (entryOf m)).toArray.all (fun x => decide (x.born ≥ stepped))) = false := by
            have e1 : (es.map (entryOf m)).toArray.all (fun x => decide (x.born ≥ stepped)) = es.all fun e => Nat.ble stepped e.2.2 := by
              rw [← Array.all_toList, List.all_map]
              apply List.all_congr rfl
              intro x
              show decide (x.2.2 ≥ stepped) = Nat.ble stepped x.2.2
              rw [Bool.eq_iff_iff, decide_eq_true_eq, Nat.ble_eq]
            rw [e1]
            cases h1 : seen.isEmpty <;> cases h2 : es.isEmpty <;> cases h3 : (es.all fun e => Nat.ble stepped e.2.2) <;> simp_all
          have hleft := filter_entries m es (fun e => !seen.toArray.contains e.born) (fun e => !seen.contains e.2.2) (fun x => by simp [entryOf])
          split at h
          · rename_i hf
            simp only [Option.some.injEq] at h
            subst h
            refine ⟨m, w, _, run_sv (v := .tuple #[.bool false]) ?_, .inl (by simp [rv, rvL]), hr, Post.refl _ _ _, rfl⟩
            unfold Instr.next
            simp only [rv, Sem.run_bind, run_getIter hi, Result.andThen_ok, run_getMap ho]
            rw [hguard]
            simp only [Bool.false_eq_true, if_false, hleft, hf]
            simp [Question.forced]
          · rename_i k y bn hf
            split at h
            · rename_i hbn
              obtain ⟨W', hset, rfl⟩ := wset_spec h
              have hmem : (k, y, bn) ∈ es := by
                have : (k, y, bn) ∈ es.filter fun e => !seen.contains e.2.2 := by rw [hf]; simp
                exact (List.mem_filter.1 this).1
              obtain ⟨hrel, hpost⟩ := hr.setObj (o' := .miter b stepped (seen ++ [bn]) stepped) (x := .mapIter (some (m b).blk) stepped (seen ++ [bn]).toArray stepped) hb rfl hset hblt (Array.getElem?_eq_some_iff.1 hi).1 (fun heap hh => hh)
              refine ⟨m, _, _, run_sv (v := .tuple #[.bool true, rv m k, rv m y]) ?_, .inl (by simp [rv, rvL]), hrel, hpost, ?_⟩
              · unfold Instr.next
                simp only [rv, Sem.run_bind, run_getIter hi, Result.andThen_ok, run_getMap ho]
                rw [hguard]
                have hn : ¬ (bn ≥ stepped) := by omega
                simp only [Bool.false_eq_true, if_false, hleft, hf]
                simp [entryOf, hbn, hn, Question.forced, run_setIter hi]
              · have hn := (set_spec hset).1
                have := hlt _ hmem
                simp [below, belowL, hn, this]
            · simp at h
          · simp at h
        · simp at h
      · simp at h
    · simp at h
  · simp at h

theorem xNextS_ok {ty : TypeId} {x : RV} (hr : Rel m W w) (h : xNextS W x = some e) : EffOk P m W w (sv (Instr.next (rv m x) true ty)) e := by
  unfold xNextS at h
  split at h
  · rename_i r
    split at h
    · rename_i s pos hg
      have ho : w.heap[(m r).blk]? = some (.stringIter s pos) := hr.obj r _ hg
      split at h
      · rename_i hlt
        rw [blt_eq, decide_eq_true_eq] at hlt
        split at h
        rename_i c wd hd
        simp only [fnat_eq] at h
        split at h
        · rename_i W1 hs
          simp only [Option.some.injEq] at h
          subst h
          obtain ⟨g1, g2⟩ := hr.setObj (o' := .siter s (pos + wd)) (x := .stringIter s (pos + wd)) hg rfl hs trivial (Array.getElem?_eq_some_iff.1 ho).1 (fun heap hh => hh)
          refine ⟨m, _, _, run_sv (v := .tuple #[.bool true, .int .i64 (.ofNat pos), .int .i32 (.ofNat c)]) ?_, .inl rfl, g1, g2, rfl⟩
          unfold Instr.next
          simp only [rv, Sem.run_bind, run_getStr ho, Result.andThen_ok]
          rw [if_pos hlt, hd]
          simp [run_setStr ho, goInt]
        · simp at h
      · rename_i hlt
        have hlt : ¬ pos < s.size := by
          intro hh
          rw [blt_eq] at hlt
          simp [hh] at hlt
        simp only [Option.some.injEq] at h
        subst h
        refine ⟨m, w, _, run_sv (v := .tuple #[.bool false]) ?_, .inl rfl, hr, Post.refl _ _ _, rfl⟩
        unfold Instr.next
        simp only [rv, Sem.run_bind, run_getStr ho, Result.andThen_ok]
        rw [if_neg hlt]
        simp
    · simp at h
  · simp at h

theorem xEntry_ok {x : RV} (hr : Rel m W w) (h : xEntry W x = some e) : EffOk P m W w (sv (Instr.entry (rv m x))) e := by
  unfold xEntry at h
  split at h
  · rename_i r
    split at h
    · rename_i b since seen stepped hb
      split at h
      · rename_i b' es clock ro stamp hm hst
        obtain ⟨hbb, hmb⟩ := mapAt_spec hm
        cases hbb
        have hi : w.heap[(m r).blk]? = some (.mapIter (some (m b).blk) since seen.toArray stepped) := hr.obj r _ hb
        have ho : w.heap[(m b).blk]? = some (.map (es.map (entryOf m)).toArray clock) := hr.obj b _ hmb
        have hlt : ∀ x ∈ es, below W.n x.1 = true ∧ below W.n x.2.1 = true := hr.lt b _ hmb
        split at h
        · rename_i hc
          subst hc
          split at h
          · rename_i k y bn hf
            simp only [Option.some.injEq] at h
            subst h
            have hfind : (es.map (entryOf m)).toArray.find? (fun e => e.born == stamp) = some (entryOf m (k, y, bn)) := by
              rw [← Array.find?_toList, List.find?_map]
              have : (fun e => e.born == stamp) ∘ entryOf m = fun e : RV × RV × Nat => e.2.2 == stamp := rfl
              rw [this, hf]
              rfl
            have := hlt _ (List.mem_of_find?_eq_some hf)
            refine ⟨m, w, _, run_sv (v := .tuple #[rv m k, rv m y]) ?_, .inl (by simp [rv, rvL]), hr, Post.refl _ _ _, by simp [below, belowL, this]⟩
            unfold Instr.entry
            have hback : seen.toArray.back? = some stamp := by simpa using hst
            simp only [rv, Sem.run_bind, run_getIter hi, Result.andThen_ok, hback, run_getMap ho]
            simp [hfind, entryOf]
          · simp at h
        · simp at h
      · simp at h
    · simp at h
  · simp at h

theorem xExt_ok {i : Nat} {x : RV} (hb : below W.n x = true) (h : xExt i x = some e) : EffOk P m W w (sv (Instr.extract (rv m x) i)) e := by
  unfold xExt at h
  split at h
  · rename_i cs
    obtain ⟨y, hy, rfl⟩ := oval_ok h
    rw [lget_eq] at hy
    have hb' : belowL W.n cs = true := by simpa [below] using hb
    refine effOk_val ((belowL_iff _ _).1 hb' y (List.mem_of_getElem? hy)) ?_
    simp [Instr.extract, rv, rvL_eq, hy]
  · simp at h

theorem xLenS_ok {ty aty el : TypeId} {x : RV} (hu : P.underlying ty = some (.slice el)) (h : xLenS x = some e) : EffOk P m W w (sv (Builtin.len_ #[ty] aty #[rv m x])) e := by
  unfold xLenS at h
  split at h
  · simp only [Option.some.injEq] at h
    subst h
    refine effOk_val rfl ?_
    simp [Builtin.len_, run_underlying hu, rv, goInt]
  · simp only [Option.some.injEq] at h
    subst h
    refine effOk_val rfl ?_
    simp [Builtin.len_, run_underlying hu, rv, goInt]
  · simp at h

theorem xCap_ok {ty aty el : TypeId} {x : RV} (hu : P.underlying ty = some (.slice el)) (h : xCap x = some e) : EffOk P m W w (sv (Builtin.cap_ #[ty] aty #[rv m x])) e := by
  unfold xCap at h
  split at h
  · simp only [Option.some.injEq] at h
    subst h
    refine effOk_val rfl ?_
    simp [Builtin.cap_, run_underlying hu, rv, goInt]
  · simp at h

theorem xLenT_ok {ty aty : TypeId} {x : RV} (hu : P.underlying ty = some .string) (h : xLenT x = some e) : EffOk P m W w (sv (Builtin.len_ #[ty] aty #[rv m x])) e := by
  unfold xLenT at h
  split at h
  · simp only [fnat_eq, Option.some.injEq] at h
    subst h
    refine effOk_val rfl ?_
    simp [Builtin.len_, run_underlying hu, rv, goInt]
  · simp at h

theorem xLenM_ok {ty aty k el : TypeId} {x : RV} (hr : Rel m W w) (hu : P.underlying ty = some (.map k el)) (h : xLenM W x = some e) : EffOk P m W w (sv (Builtin.len_ #[ty] aty #[rv m x])) e := by
  unfold xLenM at h
  split at h
  · rename_i b es clock ro hm
    obtain ⟨rfl, hb⟩ := mapAt_spec hm
    have ho : w.heap[(m b).blk]? = some (.map (es.map (entryOf m)).toArray clock) := hr.obj b _ hb
    simp only [fnat_eq, Option.some.injEq] at h
    subst h
    refine effOk_val rfl ?_
    simp [Builtin.len_, run_underlying hu, rv, goInt, run_getMap ho]
  · simp at h

theorem xNilc_ok {x : RV} (hb : below W.n x = true) (h : xNilc x = some e) (dst : Option Tmp) (p : Operand) (ty : TypeId) (pos : String) (af : Array Edge) (g : Option (Nat × Bool)) (ρ : Operand → Value) (hρ : ρ p = rv m x) :
    EffOk P m W w (execOp ρ ⟨dst, .nilCheck p, ty, pos, af, g⟩) e := by
  unfold xNilc at h
  split at h
  · simp only [Option.some.injEq] at h
    subst h
    exact ⟨hb, _, by simp [execOp, hρ, rv], .inl rfl⟩
  · simp at h

end
end Go.Rv
