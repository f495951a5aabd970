/- Maps. -/
import Derived.Test.YtgchcfhbcaemoabGreatDoorRvG
import Derived.Laws.StructEq
namespace Go.Rv
open Go
variable [Env]
section
variable {P : Program} {m : Nat → Loc} {t : RT} {W : RW} {arr : Array Value} {w : World} {e : Eff}

omit [Env] in
/-- a cell of a kind -/
theorem sameC_spec {ty : TypeId} {c : Nat} {x y : RV} {r : Bool} (hk : cellKind P ty = some c) (h : sameC c x y = some r) :
    ∃ a b, x = .v a ∧ y = .v b ∧ (∀ d w, (Op.equalIn (d + 1) ty a b).run P w = .ok r w) ∧ (∀ d w em, (Instr.checkKey em (d + 1) ty a).run P w = .ok () w) ∧
      isAggB P ty = some false ∧ (r = true → a = b ∧ ∀ n, Instr.sameBits n a b = true) ∧
      (∀ q, P.underlying ty = some q → Instr.sameNow q a b = some r) := by
  unfold cellKind at hk
  split at hk
  · rename_i k hu
    simp only [Option.some.injEq] at hk
    subst hk
    simp only [sameC] at h
    split at h
    · rename_i j a k' b
      split at h
      · rename_i hjk
        subst hjk
        have hr : r = (a == b) := by
          have := Option.some.inj h
          rw [← this, leB_eq, leB_eq, Bool.eq_iff_iff]
          simp
          omega
        subst hr
        refine ⟨_, _, rfl, rfl, fun d w => run_equalIn_int w d ty _ _ _ _ hu, ?_, by simp [isAggB, hu], ?_, ?_⟩
        · intro d w em
          simp [Instr.checkKey, run_underlying hu]
        · intro hab
          have : a = b := by simpa using hab
          subst this
          exact ⟨rfl, fun n => by cases n <;> simp [Instr.sameBits]⟩
        · intro q hq
          rw [hu] at hq
          simp only [Option.some.injEq] at hq
          subst hq
          simp [Instr.sameNow]
      · simp at h
    · simp at h
  · rename_i hu
    simp only [Option.some.injEq] at hk
    subst hk
    simp only [sameC] at h
    split at h
    · rename_i a b
      have hr : r = (a.toList == b.toList) := by
        have := Option.some.inj h
        rw [← this, ByteArray.toList_eq, ByteArray.toList_eq, Bool.eq_iff_iff]
        simp
      subst hr
      refine ⟨_, _, rfl, rfl, fun d w => run_equalIn_string w d ty _ _ hu, ?_, by simp [isAggB, hu], ?_, ?_⟩
      · intro d w em
        simp [Instr.checkKey, run_underlying hu]
      · intro hab
        rw [← beq_toListBytes] at hab
        have : a = b := by
          have h2 : (a == b) = true := hab
          rw [beq_toListBytes, ByteArray.toList_eq, ByteArray.toList_eq] at h2
          obtain ⟨⟨x⟩⟩ := a
          obtain ⟨⟨y⟩⟩ := b
          simpa using h2
        subst this
        refine ⟨rfl, fun n => ?_⟩
        have : (a == a) = true := by rw [beq_toListBytes]; simp
        cases n <;> simpa [Instr.sameBits] using this
      · intro q hq
        rw [hu] at hq
        simp only [Option.some.injEq] at hq
        subst hq
        simp only [Instr.sameNow, Option.some.injEq]
        exact beq_toListBytes a b
    · simp at h
  · rename_i hu
    simp only [Option.some.injEq] at hk
    subst hk
    simp only [sameC] at h
    split at h
    · rename_i a b
      have hr : r = (a == b) := by
        have := Option.some.inj h
        rw [← this, Bool.eq_iff_iff]
        simp
      subst hr
      refine ⟨_, _, rfl, rfl, fun d w => run_equalIn_bool' w d ty _ _ hu, ?_, by simp [isAggB, hu], ?_, ?_⟩
      · intro d w em
        simp [Instr.checkKey, run_underlying hu]
      · intro hab
        have : a = b := by simpa using hab
        subst this
        exact ⟨rfl, fun n => by cases n <;> simp [Instr.sameBits]⟩
      · intro q hq
        rw [hu] at hq
        simp only [Option.some.injEq] at hq
        subst hq
        simp [Instr.sameNow]
    · simp at h
  · simp at hk

omit [Env] in
theorem run_part {ty : TypeId} {cs : Array Value} {off : Nat} {v : Value} (hg : isAggB P ty = some false) (h : cs[off]? = some v) (w : World) : (part ty cs off).run P w = .ok v w := by
  simp only [part, Sem.run_bind, run_isAgg hg, Result.andThen, Bool.false_eq_true, if_false, h, Sem.run_pure]

omit [Env] in
/-- the fields of a key, from one on -/
theorem fields_eq : ∀ (fs : List Field) (ks : List Nat) (xs ys : List RV) (r : Bool) (i : Nat) (X Y : Array Value),
    (fs.zipIdx i).all (fun x => x.1.name != "_" && x.1.offset == x.2) = true → omap (fun f : Field => cellKind P f.type) fs = some ks → sameKey ks xs ys = some r →
    (∀ j x, xs[j]? = some x → X[i + j]? = some (rv m x)) → (∀ j x, ys[j]? = some x → Y[i + j]? = some (rv m x)) →
    ∀ d w, (Op.eqFields (d + 1) X Y fs).run P w = .ok r w
  | [], ks, xs, ys, r, i, X, Y, ha, hk, h, hX, hY => by
    intro d w
    simp only [omap, Option.some.injEq] at hk
    subst hk
    cases xs <;> cases ys <;> simp only [sameKey] at h <;> try (simp at h; done)
    simp only [Option.some.injEq] at h
    subst h
    rfl
  | f :: fs, ks, xs, ys, r, i, X, Y, ha, hk, h, hX, hY => by
    intro d w
    simp only [omap] at hk
    split at hk
    · rename_i c cs hc hcs
      simp only [Option.some.injEq] at hk
      subst hk
      cases xs with
      | nil => simp [sameKey] at h
      | cons x xs => cases ys with
        | nil => simp [sameKey] at h
        | cons y ys =>
          simp only [sameKey] at h
          split at h
          · rename_i a b h1 h2
            obtain ⟨va, vb, rfl, rfl, e1, _, e3, _, _⟩ := sameC_spec (P := P) hc h1
            simp only [List.zipIdx_cons, List.all_cons, Bool.and_eq_true, bne_iff_ne, ne_eq, beq_iff_eq] at ha
            obtain ⟨⟨hn, ho⟩, hr⟩ := ha
            have ih := fields_eq fs cs xs ys b (i + 1) X Y hr hcs h2 (fun j x hj => by rw [Nat.add_assoc, Nat.add_comm 1 j]; exact hX (j + 1) x (by simpa using hj)) (fun j x hj => by rw [Nat.add_assoc, Nat.add_comm 1 j]; exact hY (j + 1) x (by simpa using hj)) d w
            have hx0 : X[f.offset]? = some va := by rw [ho]; simpa [rv] using hX 0 _ rfl
            have hy0 : Y[f.offset]? = some vb := by rw [ho]; simpa [rv] using hY 0 _ rfl
            have hrr := Option.some.inj h
            subst hrr
            cases a
            · simp [Op.eqFields, hn, run_part e3 hx0, run_part e3 hy0, e1]
            · simp [Op.eqFields, hn, run_part e3 hx0, run_part e3 hy0, e1, ih]
          · simp at h
    · simp at hk

omit [Env] in
theorem fields_check : ∀ (fs : List Field) (ks : List Nat) (xs : List RV) (i : Nat) (X : Array Value),
    (fs.zipIdx i).all (fun x => x.1.name != "_" && x.1.offset == x.2) = true → omap (fun f : Field => cellKind P f.type) fs = some ks → sameKey ks xs xs = some true →
    (∀ j x, xs[j]? = some x → X[i + j]? = some (rv m x)) →
    ∀ d em w, (forIn fs PUnit.unit fun (f : Field) (_ : PUnit) => (do
        if f.name ≠ "_" then Instr.checkKey em (d + 1) f.type (← part f.type X f.offset)
        pure (ForInStep.yield PUnit.unit) : Sem (ForInStep PUnit))).run P w = .ok PUnit.unit w
  | [], ks, xs, i, X, ha, hk, h, hX => by intro d em w; simp
  | f :: fs, ks, xs, i, X, ha, hk, h, hX => by
    intro d em w
    simp only [omap] at hk
    split at hk
    · rename_i c cs hc hcs
      simp only [Option.some.injEq] at hk
      subst hk
      cases xs with
      | nil => simp [sameKey] at h
      | cons x xs =>
        simp only [sameKey] at h
        split at h
        · rename_i a b h1 h2
          have hrr := Option.some.inj h
          simp only [Bool.and_eq_true] at hrr
          obtain ⟨rfl, rfl⟩ := hrr
          obtain ⟨va, vb, rfl, _, _, e2, e3, _, _⟩ := sameC_spec (P := P) hc h1
          simp only [List.zipIdx_cons, List.all_cons, Bool.and_eq_true, bne_iff_ne, ne_eq, beq_iff_eq] at ha
          obtain ⟨⟨hn, ho⟩, hr⟩ := ha
          have ih := fields_check fs cs xs (i + 1) X hr hcs h2 (fun j x hj => by rw [Nat.add_assoc, Nat.add_comm 1 j]; exact hX (j + 1) x (by simpa using hj)) d em w
          have hx0 : X[f.offset]? = some va := by rw [ho]; simpa [rv] using hX 0 _ rfl
          simp [List.forIn_cons, hn, run_part e3 hx0, e2]
          simpa using ih
        · simp at h
    · simp at hk

omit [Env] in
theorem sameKey_eq : ∀ (ks : List Nat) (xs ys : List RV), (∃ (ts : List TypeId), ks.length = ts.length ∧ ∀ (j : Nat) (c : Nat) (ty : TypeId), ks[j]? = some c → ts[j]? = some ty → cellKind P ty = some c) → sameKey ks xs ys = some true →
    xs = ys ∧ ∀ x ∈ xs, ∃ v, x = .v v ∧ ∀ n, Instr.sameBits n v v = true
  | [], xs, ys, _, h => by
    cases xs <;> cases ys <;> simp_all [sameKey]
  | c :: cs, xs, ys, hts, h => by
    cases xs with
    | nil => simp [sameKey] at h
    | cons x xs => cases ys with
      | nil => simp [sameKey] at h
      | cons y ys =>
        obtain ⟨ts, hl, hall⟩ := hts
        cases ts with
        | nil => simp at hl
        | cons ty ts =>
          simp only [sameKey] at h
          split at h
          · rename_i a b h1 h2
            have hrr := Option.some.inj h
            simp only [Bool.and_eq_true] at hrr
            obtain ⟨rfl, rfl⟩ := hrr
            obtain ⟨va, vb, rfl, rfl, _, _, _, e4, _⟩ := sameC_spec (P := P) (hall 0 c ty rfl rfl) h1
            obtain ⟨rfl, e5⟩ := e4 rfl
            obtain ⟨rfl, e6⟩ := sameKey_eq cs xs ys ⟨ts, by simpa using hl, fun j c ty hj ht => hall (j + 1) c ty (by simpa using hj) (by simpa using ht)⟩ h2
            refine ⟨rfl, ?_⟩
            intro z hz
            rcases List.mem_cons.1 hz with rfl | hz
            · exact ⟨va, rfl, e5⟩
            · exact e6 z hz
          · simp at h
end
end Go.Rv
