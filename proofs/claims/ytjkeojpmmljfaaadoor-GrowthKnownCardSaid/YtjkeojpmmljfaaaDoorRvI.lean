/- Maps: look-ups and stores. -/
import Derived.Test.YtjkeojpmmljfaaaDoorRvH
namespace Go.Rv
open Go
variable [Env]
section
variable {P : Program} {m : Nat → Loc} {t : RT} {W : RW} {arr : Array Value} {w : World} {e : Eff}

omit [Env] in
theorem keyKinds_spec {k : TypeId} {s : Bool} {ks : List Nat} (h : keyKinds P k = some (s, ks)) :
    (s = true ∧ ∃ fs : Array Field, P.underlying k = some (.struct fs) ∧ P.stoodInHeld k = false ∧ (fs.toList.zipIdx.all fun x => x.1.name != "_" && x.1.offset == x.2) = true ∧ omap (fun f : Field => cellKind P f.type) fs.toList = some ks) ∨
    (s = false ∧ ∃ c, cellKind P k = some c ∧ ks = [c]) := by
  unfold keyKinds at h
  split at h
  · rename_i fs hu
    split at h
    · rename_i hc
      split at h
      · rename_i l hl
        simp only [Option.some.injEq, Prod.mk.injEq] at h
        obtain ⟨rfl, rfl⟩ := h
        simp only [Bool.and_eq_true, Bool.not_eq_true'] at hc
        exact .inl ⟨rfl, fs, hu, hc.1, hc.2, hl⟩
      · simp at h
    · simp at h
  · split at h
    · rename_i c hc
      simp only [Option.some.injEq, Prod.mk.injEq] at h
      obtain ⟨rfl, rfl⟩ := h
      exact .inr ⟨rfl, c, hc, rfl⟩
    · simp at h
  · simp at h

omit [Env] in
theorem one_same {c : Nat} {x y : RV} {r : Bool} (h : sameKey [c] [x] [y] = some r) : sameC c x y = some r := by
  simp only [sameKey] at h
  split at h
  · rename_i a b h1 h2
    simp only [Option.some.injEq] at h h2
    subst h2
    rw [h1, ← h]; simp
  · simp at h

omit [Env] in
theorem key_equal {k : TypeId} {s : Bool} {ks : List Nat} (hk : keyKinds P k = some (s, ks)) {a b : RV} {r : Bool} (h : sameK s ks a b = some r) (w : World) :
    (Op.equal k (rv m a) (rv m b)).run P w = .ok r w := by
  unfold sameK at h
  rcases keyKinds_spec hk with ⟨rfl, fs, hu, hs, hz, ho⟩ | ⟨rfl, c, hc, rfl⟩
  · split at h
    · rename_i x y hx hy
      cases a <;> simp only [keyCells] at hx <;> try (simp at hx; done)
      cases b <;> simp only [keyCells] at hy <;> try (simp at hy; done)
      simp only [Option.some.injEq] at hx hy
      subst hx hy
      have hf : P.fieldsOf k = fs := by simp [Program.fieldsOf, hu]
      simp only [rv, Op.equal, Op.maxDepth]
      rw [run_equalIn_struct w 9999 k _ _ (by rw [hf]; exact hu) hs, hf]
      exact fields_eq (m := m) fs.toList ks _ _ r 0 _ _ hz ho h (fun j x hj => by simp [rvL_eq, hj]) (fun j x hj => by simp [rvL_eq, hj]) 9998 w
    · simp at h
  · split at h
    · rename_i x y hx hy
      cases a <;> simp only [keyCells] at hx <;> try (simp at hx; done)
      cases b <;> simp only [keyCells] at hy <;> try (simp at hy; done)
      simp only [Option.some.injEq] at hx hy
      subst hx hy
      obtain ⟨va, vb, h1, h2, h3, _⟩ := sameC_spec (P := P) hc (one_same h)
      cases h1; cases h2
      exact h3 9999 w
    · simp at h

omit [Env] in
theorem check_struct {k : TypeId} {fs : Array Field} (hu : P.underlying k = some (.struct fs)) (d : Nat) (em : Bool) (X : Array Value) (w : World)
    (h : (forIn fs.toList PUnit.unit fun (f : Field) (_ : PUnit) => (do
        if f.name ≠ "_" then Instr.checkKey em (d + 1) f.type (← part f.type X f.offset)
        pure (ForInStep.yield PUnit.unit) : Sem (ForInStep PUnit))).run P w = .ok PUnit.unit w) :
    (Instr.checkKey em (d + 2) k (.agg X)).run P w = .ok () w := by
  unfold Instr.checkKey
  simp only [Sem.run_bind, run_underlying hu, Result.andThen_ok]
  have h' := h
  simp at h'
  simp [h']

omit [Env] in
theorem key_check {k : TypeId} {s : Bool} {ks : List Nat} (hk : keyKinds P k = some (s, ks)) {a : RV} (h : sameK s ks a a = some true) (em : Bool) (w : World) :
    (Instr.checkKey em 10000 k (rv m a)).run P w = .ok () w := by
  unfold sameK at h
  rcases keyKinds_spec hk with ⟨rfl, fs, hu, hs, hz, ho⟩ | ⟨rfl, c, hc, rfl⟩
  · split at h
    · rename_i x y hx hy
      cases a with
      | agg cs =>
        simp only [keyCells, Option.some.injEq] at hx hy
        subst hx
        subst hy
        exact check_struct hu 9998 em _ w (fields_check (P := P) (m := m) fs.toList ks cs 0 (rvL m cs).toArray hz ho h (fun j x hj => by simp [rvL_eq, hj]) 9998 em w)
      | _ => simp [keyCells] at hx
    · simp at h
  · split at h
    · rename_i x y hx hy
      cases a with
      | v z =>
        simp only [keyCells, Option.some.injEq] at hx hy
        subst hx
        subst hy
        obtain ⟨va, vb, h1, h2, _, h3, _⟩ := sameC_spec (P := P) hc (one_same h)
        cases h1
        exact h3 9999 w em
      | _ => simp [keyCells] at hx
    · simp at h

omit [Env] in
theorem omap_get {α β : Type} {f : α → Option β} : ∀ {l : List α} {r : List β}, omap f l = some r → ∀ (j : Nat) (x : α), l[j]? = some x → ∃ y : β, r[j]? = some y ∧ f x = some y
  | [], r, h, j, x, hj => by simp at hj
  | z :: l, r, h, j, x, hj => by
    simp only [omap] at h
    split at h
    · rename_i y ys hy hys
      simp only [Option.some.injEq] at h
      subst h
      cases j with
      | zero => simp at hj; subst hj; exact ⟨y, rfl, hy⟩
      | succ j => exact omap_get hys j x (by simpa using hj)
    · simp at h

omit [Env] in
theorem omap_length {α β : Type} {f : α → Option β} {l : List α} {r : List β} (h : omap f l = some r) : r.length = l.length := by
  have := omap_spec h
  have h2 := congrArg List.length this
  simpa using h2.symm

omit [Env] in
theorem zip_same : ∀ (l : List Value), (∀ v ∈ l, Instr.sameBits 9999 v v = true) → ((l.zip l).all fun x => Instr.sameBits 9999 x.1 x.2) = true
  | [], _ => rfl
  | v :: l, h => by
    simp only [List.zip_cons_cons, List.all_cons, Bool.and_eq_true]
    exact ⟨h v (by simp), zip_same l fun v hv => h v (by simp [hv])⟩

omit [Env] in
theorem key_stays {k : TypeId} {s : Bool} {ks : List Nat} (hk : keyKinds P k = some (s, ks)) {a b : RV} (h : sameK s ks a b = some true) (w : World) :
    a = b ∧ (Instr.keyThatStays (rv m a) (rv m a)).run P w = .ok (rv m a) w := by
  have key : ∀ v : Value, Instr.sameBits 10000 v v = true → (Instr.keyThatStays v v).run P w = .ok v w := by
    intro v hv
    simp [Instr.keyThatStays, hv]
  unfold sameK at h
  rcases keyKinds_spec hk with ⟨rfl, fs, hu, hs, hz, ho⟩ | ⟨rfl, c, hc, rfl⟩
  · split at h
    · rename_i x y hx hy
      cases a <;> simp only [keyCells] at hx <;> try (simp at hx; done)
      cases b <;> simp only [keyCells] at hy <;> try (simp at hy; done)
      simp only [Option.some.injEq] at hx hy
      subst hx hy
      obtain ⟨rfl, h2⟩ := sameKey_eq (P := P) ks _ _ ⟨fs.toList.map (·.type), by rw [omap_length ho]; simp, fun j c ty hj ht => by
        rw [List.getElem?_map] at ht
        cases hf : fs.toList[j]? with
        | none => rw [hf] at ht; simp at ht
        | some f =>
          rw [hf] at ht
          simp only [Option.map_some, Option.some.injEq] at ht
          obtain ⟨y, hy, hy2⟩ := omap_get ho j f hf
          rw [hj] at hy
          simp only [Option.some.injEq] at hy
          rw [← ht, hy]; exact hy2⟩ h
      refine ⟨rfl, key _ ?_⟩
      simp only [rv, Instr.sameBits, rvL_eq]
      simp only [beq_self_eq_true, Bool.true_and]
      refine zip_same _ ?_
      intro v hv
      obtain ⟨z, hz', rfl⟩ := List.mem_map.1 hv
      obtain ⟨v', rfl, hb⟩ := h2 z hz'
      exact hb 9999
    · simp at h
  · split at h
    · rename_i x y hx hy
      cases a <;> simp only [keyCells] at hx <;> try (simp at hx; done)
      cases b <;> simp only [keyCells] at hy <;> try (simp at hy; done)
      simp only [Option.some.injEq] at hx hy
      subst hx hy
      obtain ⟨va, vb, h1, h2, _, _, _, h4, _⟩ := sameC_spec (P := P) hc (one_same h)
      cases h1; cases h2
      obtain ⟨rfl, h5⟩ := h4 rfl
      exact ⟨rfl, key _ (h5 10000)⟩
    · simp at h

def found (m : Nat → Loc) : Option (Nat × RV) → Option (Nat × Value)
  | some (i, x) => some (i, rv m x)
  | none => none

omit [Env] in
theorem key_find {k : TypeId} {s : Bool} {ks : List Nat} (hk : keyKinds P k = some (s, ks)) {a : RV} : ∀ (es : List (RV × RV × Nat)) (i : Nat) (r : Option (Nat × RV)), scanR s ks a es i = some r →
    (s = true → ∀ w, (Instr.findAsking k (rv m a) (es.map (entryOf m)) i).run P w = .ok (found m r) w) ∧
    (s = false → ∀ q, P.underlying k = some q → Instr.findNow q (rv m a) (es.map (entryOf m)) i = some (found m r))
  | [], i, r, h => by
    simp only [scanR, Option.some.injEq] at h
    subst h
    exact ⟨fun _ _ => rfl, fun _ _ _ => rfl⟩
  | (k', x, bn) :: es, i, r, h => by
    simp only [scanR] at h
    split at h
    · rename_i hs
      simp only [Option.some.injEq] at h
      subst h
      refine ⟨fun _ w => ?_, fun hf q hq => ?_⟩
      · simp [Instr.findAsking, entryOf, key_equal hk hs, found]
      · subst hf
        rcases keyKinds_spec hk with ⟨h1, _⟩ | ⟨_, c, hc, rfl⟩
        · simp at h1
        · unfold sameK at hs
          split at hs
          · rename_i xs ys hx hy
            cases a <;> simp only [keyCells] at hx <;> try (simp at hx; done)
            cases k' <;> simp only [keyCells] at hy <;> try (simp at hy; done)
            simp only [Option.some.injEq] at hx hy
            subst hx hy
            obtain ⟨va, vb, h1, h2, _, _, _, _, h5⟩ := sameC_spec (P := P) hc (one_same hs)
            cases h1; cases h2
            simp [Instr.findNow, entryOf, rv, h5 q hq, found]
          · simp at hs
    · rename_i hs
      obtain ⟨ih1, ih2⟩ := key_find hk es (i + 1) r h
      refine ⟨fun ht w => ?_, fun hf q hq => ?_⟩
      · simp [Instr.findAsking, entryOf, key_equal hk hs]
        simpa using ih1 ht w
      · have := ih2 hf q hq
        subst hf
        rcases keyKinds_spec hk with ⟨h1, _⟩ | ⟨_, c, hc, rfl⟩
        · simp at h1
        · unfold sameK at hs
          split at hs
          · rename_i xs ys hx hy
            cases a <;> simp only [keyCells] at hx <;> try (simp at hx; done)
            cases k' <;> simp only [keyCells] at hy <;> try (simp at hy; done)
            simp only [Option.some.injEq] at hx hy
            subst hx hy
            obtain ⟨va, vb, h1, h2, _, _, _, _, h5⟩ := sameC_spec (P := P) hc (one_same hs)
            cases h1; cases h2
            simp only [List.map_cons, Instr.findNow, entryOf, rv, h5 q hq]
            simpa [rv, entryOf] using this
          · simp at hs
    · simp at h

omit [Env] in
theorem key_findKey {k : TypeId} {s : Bool} {ks : List Nat} (hk : keyKinds P k = some (s, ks)) {a : RV} {es : List (RV × RV × Nat)} {r : Option (Nat × RV)} (h : findKeyR s ks a es = some r) :
    (∀ w, (Instr.findKey k (rv m a) (es.map (entryOf m))).run P w = .ok (found m r) w) ∧ (∀ em w, (Instr.checkKey em 10000 k (rv m a)).run P w = .ok () w) ∧ sameK s ks a a = some true := by
  unfold findKeyR at h
  split at h
  · rename_i hs
    refine ⟨fun w => ?_, fun em w => key_check hk hs em w, hs⟩
    obtain ⟨h1, h2⟩ := key_find (m := m) hk es 0 r h
    rcases keyKinds_spec hk with ⟨rfl, fs, hu, _⟩ | ⟨rfl, c, hc, rfl⟩
    · unfold Instr.findKey
      simp only [Sem.run_bind, run_underlying hu, Result.andThen_ok]
      cases es with
      | nil =>
        simp only [scanR, Option.some.injEq] at h
        subst h
        rfl
      | cons x es =>
        have : Instr.findNow (.struct fs) (rv m a) ((x :: es).map (entryOf m)) 0 = none := by
          simp [Instr.findNow, Instr.sameNow]
        rw [this]
        exact h1 rfl w
    · unfold cellKind at hc
      cases hu : P.underlying k with
      | none => rw [hu] at hc; simp at hc
      | some q =>
        unfold Instr.findKey
        simp only [Sem.run_bind, run_underlying hu, Result.andThen_ok, h2 rfl q hu]
        rfl
  · simp at h
end
end Go.Rv
