/- Maps: look-ups and stores. -/
import Derived.Test.YtgchcfhbcaemoabGreatDoorRvH
import Derived.ChangeKeysEq
namespace Go.Rv
open Go
variable [Env]
section
variable {P : Program} {m : Nat → Loc} {t : RT} {W : RW} {arr : Array Value} {w : World} {e : Eff}

omit [Env] in
theorem keyKinds_spec {k : TypeId} {s : Bool} {ks : List Nat} (h : keyKinds P k = some (s, ks)) :
    (s = true ∧ ∃ fs : Array Field, P.underlying k = some (.struct fs) ∧ P.stoodInHeld k = false ∧ (fs.toList.zipIdx.all fun x => x.1.name != "_" && x.1.offset == x.2) = true ∧ omap (fun f : Field => cellKind P f.type) fs.toList = some ks) ∨
    (s = false ∧ ∃ c, cellKind P k = some c ∧ ks = [c]) := by
  unfold keyKinds at h
  split at h
  · rename_i fs hu
    split at h
    · rename_i hc
      split at h
      · rename_i l hl
        simp only [Option.some.injEq, Prod.mk.injEq] at h
        obtain ⟨rfl, rfl⟩ := h
        simp only [Bool.and_eq_true, Bool.not_eq_true'] at hc
        exact .inl ⟨rfl, fs, hu, hc.1, hc.2, hl⟩
      · simp at h
    · simp at h
  · split at h
    · rename_i c hc
      simp only [Option.some.injEq, Prod.mk.injEq] at h
      obtain ⟨rfl, rfl⟩ := h
      exact .inr ⟨rfl, c, hc, rfl⟩
    · simp at h
  · simp at h

omit [Env] in
theorem one_same {c : Nat} {x y : RV} {r : Bool} (h : sameKey [c] [x] [y] = some r) : sameC c x y = some r := by
  simp only [sameKey] at h
  split at h
  · rename_i a b h1 h2
    simp only [Option.some.injEq] at h h2
    subst h2
    rw [h1, ← h]; simp
  · simp at h

omit [Env] in
theorem key_equal {k : TypeId} {s : Bool} {ks : List Nat} (hk : keyKinds P k = some (s, ks)) {a b : RV} {r : Bool} (h : sameK s ks a b = some r) (w : World) :
    (Op.equal k (rv m a) (rv m b)).run P w = .ok r w := by
  unfold sameK at h
  rcases keyKinds_spec hk with ⟨rfl, fs, hu, hs, hz, ho⟩ | ⟨rfl, c, hc, rfl⟩
  · split at h
    · rename_i x y hx hy
      cases a <;> simp only [keyCells] at hx <;> try (simp at hx; done)
      cases b <;> simp only [keyCells] at hy <;> try (simp at hy; done)
      simp only [Option.some.injEq] at hx hy
      subst hx hy
      have hf : P.fieldsOf k = fs := by simp [Program.fieldsOf, hu]
      simp only [rv, Op.equal, Op.maxDepth]
      rw [run_equalIn_struct w 9999 k _ _ (by rw [hf]; exact hu) hs, hf]
      exact fields_eq (m := m) fs.toList ks _ _ r 0 _ _ hz ho h (fun j x hj => by simp [rvL_eq, hj]) (fun j x hj => by simp [rvL_eq, hj]) 9998 w
    · simp at h
  · split at h
    · rename_i x y hx hy
      cases a <;> simp only [keyCells] at hx <;> try (simp at hx; done)
      cases b <;> simp only [keyCells] at hy <;> try (simp at hy; done)
      simp only [Option.some.injEq] at hx hy
      subst hx hy
      obtain ⟨va, vb, h1, h2, h3, _⟩ := sameC_spec (P := P) hc (one_same h)
      cases h1; cases h2
      exact h3 9999 w
    · simp at h

omit [Env] in
theorem items_eq {e : TypeId} {c : Nat} (hc : cellKind P e = some c) : ∀ (n i : Nat) (xs ys : List RV) (r : Bool) (X Y : Array Value), sameKey (List.replicate n c) xs ys = some r →
    (∀ j x, xs[j]? = some x → X[i + j]? = some (rv m x)) → (∀ j x, ys[j]? = some x → Y[i + j]? = some (rv m x)) →
    ∀ d w, (Op.eqItems (d + 1) e 1 X Y (List.range' i n)).run P w = .ok r w
  | 0, i, xs, ys, r, X, Y, h, hX, hY => by
    intro d w
    cases xs <;> cases ys <;> simp only [List.replicate, sameKey] at h <;> try (simp at h; done)
    simp only [Option.some.injEq] at h
    subst h
    rfl
  | n + 1, i, xs, ys, r, X, Y, h, hX, hY => by
    intro d w
    cases xs with
    | nil => simp [List.replicate, sameKey] at h
    | cons x xs => cases ys with
      | nil => simp [List.replicate, sameKey] at h
      | cons y ys =>
        simp only [List.replicate, sameKey] at h
        split at h
        · rename_i a b h1 h2
          obtain ⟨va, vb, rfl, rfl, e1, _, e3, _, _⟩ := sameC_spec (P := P) hc h1
          have ih := items_eq hc n (i + 1) xs ys b X Y h2 (fun j x hj => by rw [Nat.add_assoc, Nat.add_comm 1 j]; exact hX (j + 1) x (by simpa using hj)) (fun j x hj => by rw [Nat.add_assoc, Nat.add_comm 1 j]; exact hY (j + 1) x (by simpa using hj)) d w
          have hx0 : X[i * 1]? = some va := by rw [Nat.mul_one]; simpa [rv] using hX 0 _ rfl
          have hy0 : Y[i * 1]? = some vb := by rw [Nat.mul_one]; simpa [rv] using hY 0 _ rfl
          have hrr := Option.some.inj h
          subst hrr
          rw [List.range'_succ]
          cases a
          · simp only [Op.eqItems, Sem.run_bind, run_part e3 hx0, run_part e3 hy0, e1, Result.andThen_ok]; simp
          · simp only [Op.eqItems, Sem.run_bind, run_part e3 hx0, run_part e3 hy0, e1, Result.andThen_ok]; simpa using ih
        · simp at h

omit [Env] in
theorem sameKey_app : ∀ {ks l : List Nat} {xs ys : List RV} {r : Bool}, sameKey (ks ++ l) xs ys = some r →
    ∃ a b, sameKey ks (xs.take ks.length) (ys.take ks.length) = some a ∧ sameKey l (xs.drop ks.length) (ys.drop ks.length) = some b ∧ r = (a && b)
  | [], l, xs, ys, r, h => ⟨true, r, by simp [sameKey], by simpa using h, by simp⟩
  | c :: cs, l, [], ys, r, h => by simp [sameKey] at h
  | c :: cs, l, x :: xs, [], r, h => by simp [sameKey] at h
  | c :: cs, l, x :: xs, y :: ys, r, h => by
    simp only [List.cons_append, sameKey] at h
    split at h
    · rename_i a b h1 h2
      obtain ⟨a', b', h3, h4, h5⟩ := sameKey_app h2
      refine ⟨a && a', b', ?_, by simpa using h4, ?_⟩
      · simp only [List.length_cons, List.take_succ_cons, sameKey, h1, h3]
      · rw [← Option.some.inj h, h5, Bool.and_assoc]
    · simp at h

omit [Env] in
theorem cellKind_struct {t : TypeId} {c : Nat} (h : cellKind P t = some c) (fs : Array Field) : P.underlying t ≠ some (.struct fs) := by
  intro hu
  simp [cellKind, hu] at h

omit [Env] in
/-- what is shown of the types of fields -/
def DeepOk (P : Program) (m : Nat → Loc) (K : TypeId → Option (List Nat)) (d : Nat) : Prop := ∀ (t : TypeId) (ks : List Nat), K t = some ks → Nat.beq (P.cellsOf t) ks.length = true → ∀ (xs ys : List RV) (r : Bool) (off : Nat) (X Y : Array Value), sameKey ks xs ys = some r →
    (∀ j x, xs[j]? = some x → X[off + j]? = some (rv m x)) → (∀ j x, ys[j]? = some x → Y[off + j]? = some (rv m x)) →
    ∃ a b, (∀ w, (part t X off).run P w = .ok a w) ∧ (∀ w, (part t Y off).run P w = .ok b w) ∧ ∀ e w, (Op.equalIn (d + e) t a b).run P w = .ok r w

omit [Env] in
theorem deepFs_ok {K : TypeId → Option (List Nat)} {d : Nat} (hK : DeepOk P m K d) : ∀ (fs : List Field) (off : Nat) (l : List Nat), deepFs P K fs off = some l → ∀ (xs ys : List RV) (r : Bool) (X Y : Array Value), sameKey l xs ys = some r →
    (∀ j x, xs[j]? = some x → X[off + j]? = some (rv m x)) → (∀ j x, ys[j]? = some x → Y[off + j]? = some (rv m x)) →
    ∀ e w, (Op.eqFields (d + e) X Y fs).run P w = .ok r w
  | [], off, l, h, xs, ys, r, X, Y, hs, hX, hY => by
    intro e w
    simp only [deepFs, Option.some.injEq] at h
    subst h
    cases xs <;> cases ys <;> simp only [sameKey] at hs <;> try (simp at hs; done)
    simp only [Option.some.injEq] at hs
    subst hs
    rfl
  | f :: fs, off, l, h, xs, ys, r, X, Y, hs, hX, hY => by
    intro e w
    simp only [deepFs] at h
    split at h
    · rename_i hn
      simp only [Bool.and_eq_true, bne_iff_ne, ne_eq] at hn
      obtain ⟨hn, ho⟩ := hn
      have ho := Nat.eq_of_beq_eq_true ho
      split at h
      · rename_i ks hks
        split at h
        · rename_i hlen
          split at h
          · rename_i l2 hl2
            simp only [Option.some.injEq] at h
            subst h
            obtain ⟨a, b, h1, h2, h3⟩ := sameKey_app hs
            obtain ⟨va, vb, e1, e2, e3⟩ := hK f.type ks hks hlen _ _ a off X Y h1 (fun j x hj => hX j x (by
              rw [List.getElem?_take] at hj
              split at hj
              · exact hj
              · simp at hj)) (fun j x hj => hY j x (by
              rw [List.getElem?_take] at hj
              split at hj
              · exact hj
              · simp at hj))
            have ih := deepFs_ok hK fs (off + ks.length) l2 hl2 _ _ b X Y h2 (fun j x hj => by
              rw [List.getElem?_drop] at hj
              rw [Nat.add_assoc]
              exact hX _ x hj) (fun j x hj => by
              rw [List.getElem?_drop] at hj
              rw [Nat.add_assoc]
              exact hY _ x hj) e w
            subst h3
            cases a
            · simp [Op.eqFields, hn, ho, e1, e2, e3]
            · simp [Op.eqFields, hn, ho, e1, e2, e3, ih]
          · simp at h
        · simp at h
      · simp at h
    · simp at h

omit [Env] in
theorem run_part_agg {t : TypeId} {cs : Array Value} {off : Nat} {i : TypeInfo} (hg : isAggB P t = some true) (hi : P.info? t = some i) (w : World) :
    (part t cs off).run P w = .ok (.agg (cs.extract off (off + P.cellsOf t))) w := by
  simp only [part, Sem.run_bind, run_isAgg hg, Result.andThen, if_true, run_sizeOf w hi, Sem.run_pure]

omit [Env] in
theorem deepKinds_ok : ∀ d, DeepOk P m (deepKinds P d) d
  | 0 => fun t ks h => by simp [deepKinds] at h
  | d + 1 => fun t ks h hlen xs ys r off X Y hs hX hY => by
    simp only [deepKinds] at h
    split at h
    · rename_i c hc
      simp only [Option.some.injEq] at h
      subst h
      have hx : ∃ x y, xs = [x] ∧ ys = [y] := by
        cases xs with
        | nil => simp [sameKey] at hs
        | cons x xs => cases ys with
          | nil => simp [sameKey] at hs
          | cons y ys => cases xs with
            | nil => cases ys with
              | nil => exact ⟨x, y, rfl, rfl⟩
              | cons z zs => simp [sameKey] at hs
            | cons z zs => simp [sameKey] at hs
      obtain ⟨x, y, rfl, rfl⟩ := hx
      obtain ⟨va, vb, rfl, rfl, e1, _, e3, _, _⟩ := sameC_spec (P := P) hc (one_same hs)
      refine ⟨va, vb, fun w => run_part e3 (by simpa [rv] using hX 0 _ rfl) w, fun w => run_part e3 (by simpa [rv] using hY 0 _ rfl) w, fun e w => ?_⟩
      rw [show d + 1 + e = (d + e) + 1 by omega]
      exact e1 (d + e) w
    · split at h
      · rename_i fs hu
        split at h
        · rename_i hst
          have hf : P.fieldsOf t = fs := by simp [Program.fieldsOf, hu]
          have hg : isAggB P t = some true := by simp [isAggB, hu]
          have hlen' := Nat.eq_of_beq_eq_true hlen
          have hi : ∃ i, P.info? t = some i := by
            cases hi : P.info? t with
            | some i => exact ⟨i, rfl⟩
            | none =>
              simp [Program.underlying, hi] at hu
          obtain ⟨i, hi⟩ := hi
          have hl : xs.length = ks.length ∧ ys.length = ks.length := by
            clear h hlen hlen' hX hY hi
            induction ks generalizing xs ys r with
            | nil => cases xs <;> cases ys <;> simp_all [sameKey]
            | cons c cs ih => cases xs with
              | nil => simp [sameKey] at hs
              | cons x xs => cases ys with
                | nil => simp [sameKey] at hs
                | cons y ys =>
                  simp only [sameKey] at hs
                  split at hs
                  · rename_i a b h1 h2
                    obtain ⟨e1, e2⟩ := ih xs ys b h2
                    simp [e1, e2]
                  · simp at hs
          refine ⟨_, _, fun w => run_part_agg hg hi w, fun w => run_part_agg hg hi w, fun e w => ?_⟩
          rw [show d + 1 + e = (d + e) + 1 by omega, run_equalIn_struct w (d + e) t _ _ (by rw [hf]; exact hu) hst, hf]
          refine deepFs_ok (deepKinds_ok d) fs.toList 0 ks h xs ys r _ _ hs (fun j x hj => ?_) (fun j x hj => ?_) e w
          · have hj' : j < ks.length := by rw [← hl.1]; exact (List.getElem?_eq_some_iff.1 hj).1
            rw [Nat.zero_add, Array.getElem?_extract]
            have h2 := hX j x hj
            have h3 : off + j < X.size := (Array.getElem?_eq_some_iff.1 h2).1
            rw [if_pos (by omega)]
            exact h2
          · have hj' : j < ks.length := by rw [← hl.2]; exact (List.getElem?_eq_some_iff.1 hj).1
            rw [Nat.zero_add, Array.getElem?_extract]
            have h2 := hY j x hj
            have h3 : off + j < Y.size := (Array.getElem?_eq_some_iff.1 h2).1
            rw [if_pos (by omega)]
            exact h2
        · simp at h
      · simp at h

omit [Env] in
theorem deep_equal {t : TypeId} {fs : Array Field} (hu : P.underlying t = some (.struct fs)) {l : List Nat} (h : deepKinds P 6 t = some l) {xs ys : List RV} {r : Bool} (hs : sameKey l xs ys = some r) (w : World) :
    (Op.equal t (rv m (.agg xs)) (rv m (.agg ys))).run P w = .ok r w := by
  have hf : P.fieldsOf t = fs := by simp [Program.fieldsOf, hu]
  unfold deepKinds at h
  split at h
  · rename_i c hc
    exact absurd hu (cellKind_struct hc fs)
  · split at h
    · rename_i fs' hu'
      obtain rfl : fs' = fs := by
        rw [hu] at hu'
        simpa using hu'.symm
      split at h
      · rename_i hst
        simp only [rv, Op.equal, Op.maxDepth]
        rw [run_equalIn_struct w 9999 t _ _ (by rw [hf]; exact hu) hst, hf]
        exact deepFs_ok (m := m) (deepKinds_ok 5) fs'.toList 0 l h xs ys r _ _ hs (fun j x hj => by simp [rvL_eq, hj]) (fun j x hj => by simp [rvL_eq, hj]) 9994 w
      · simp at h
    · simp at h

omit [Env] in
theorem agg_equal {k : TypeId} {s : Bool} {ks : List Nat} (hk : aggKinds P k = some (s, ks)) {a b : RV} {r : Bool} (h : sameK s ks a b = some r) (w : World) :
    (Op.equal k (rv m a) (rv m b)).run P w = .ok r w := by
  unfold aggKinds at hk
  split at hk
  · rename_i q hq
    rw [hk] at hq
    exact key_equal hq h w
  · split at hk
    · rename_i l hl
      simp only [Option.some.injEq, Prod.mk.injEq] at hk
      obtain ⟨rfl, rfl⟩ := hk
      unfold arrKinds at hl
      split at hl
      · rename_i n e hu
        split at hl
        · rename_i c hc
          split at hl
          · rename_i h1
            simp only [Option.some.injEq] at hl
            subst hl
            have h1 := Nat.eq_of_beq_eq_true h1
            unfold sameK at h
            split at h
            · rename_i x y hx hy
              cases a <;> simp only [keyCells] at hx <;> try (simp at hx; done)
              cases b <;> simp only [keyCells] at hy <;> try (simp at hy; done)
              simp only [Option.some.injEq] at hx hy
              subst hx hy
              have hi : ∃ i, P.info? e = some i := by
                unfold Program.cellsOf at h1
                cases hi : P.info? e with
                | none => rw [hi] at h1; simp at h1
                | some i => exact ⟨i, rfl⟩
              obtain ⟨i, hi⟩ := hi
              simp only [rv, Op.equal, Op.maxDepth]
              rw [run_equalIn_array w 9999 _ _ hu hi, h1, List.range_eq_range']
              exact items_eq (m := m) hc n 0 _ _ r _ _ h (fun j x hj => by simp [rvL_eq, hj]) (fun j x hj => by simp [rvL_eq, hj]) 9998 w
            · simp at h
          · simp at hl
        · simp at hl
      · simp at hl
    · split at hk
      · rename_i fs hu
        split at hk
        · rename_i l hl
          simp only [Option.some.injEq, Prod.mk.injEq] at hk
          obtain ⟨rfl, rfl⟩ := hk
          unfold sameK at h
          split at h
          · rename_i x y hx hy
            cases a <;> simp only [keyCells] at hx <;> try (simp at hx; done)
            cases b <;> simp only [keyCells] at hy <;> try (simp at hy; done)
            simp only [Option.some.injEq] at hx hy
            subst hx hy
            exact deep_equal hu hl h w
          · simp at h
        · simp at hk
      · simp at hk

omit [Env] in
theorem check_struct {k : TypeId} {fs : Array Field} (hu : P.underlying k = some (.struct fs)) (d : Nat) (em : Bool) (X : Array Value) (w : World)
    (h : (forIn fs.toList PUnit.unit fun (f : Field) (_ : PUnit) => (do
        if f.name ≠ "_" then Instr.checkKey em (d + 1) f.type (← part f.type X f.offset)
        pure (ForInStep.yield PUnit.unit) : Sem (ForInStep PUnit))).run P w = .ok PUnit.unit w) :
    (Instr.checkKey em (d + 2) k (.agg X)).run P w = .ok () w := by
  unfold Instr.checkKey
  simp only [Sem.run_bind, run_underlying hu, Result.andThen_ok]
  have h' := h
  simp at h'
  simp [h']

omit [Env] in
theorem key_check {k : TypeId} {s : Bool} {ks : List Nat} (hk : keyKinds P k = some (s, ks)) {a : RV} (h : sameK s ks a a = some true) (em : Bool) (w : World) :
    (Instr.checkKey em 10000 k (rv m a)).run P w = .ok () w := by
  unfold sameK at h
  rcases keyKinds_spec hk with ⟨rfl, fs, hu, hs, hz, ho⟩ | ⟨rfl, c, hc, rfl⟩
  · split at h
    · rename_i x y hx hy
      cases a with
      | agg cs =>
        simp only [keyCells, Option.some.injEq] at hx hy
        subst hx
        subst hy
        exact check_struct hu 9998 em _ w (fields_check (P := P) (m := m) fs.toList ks cs 0 (rvL m cs).toArray hz ho h (fun j x hj => by simp [rvL_eq, hj]) 9998 em w)
      | _ => simp [keyCells] at hx
    · simp at h
  · split at h
    · rename_i x y hx hy
      cases a with
      | v z =>
        simp only [keyCells, Option.some.injEq] at hx hy
        subst hx
        subst hy
        obtain ⟨va, vb, h1, h2, _, h3, _⟩ := sameC_spec (P := P) hc (one_same h)
        cases h1
        exact h3 9999 w em
      | _ => simp [keyCells] at hx
    · simp at h

omit [Env] in
theorem omap_get {α β : Type} {f : α → Option β} : ∀ {l : List α} {r : List β}, omap f l = some r → ∀ (j : Nat) (x : α), l[j]? = some x → ∃ y : β, r[j]? = some y ∧ f x = some y
  | [], r, h, j, x, hj => by simp at hj
  | z :: l, r, h, j, x, hj => by
    simp only [omap] at h
    split at h
    · rename_i y ys hy hys
      simp only [Option.some.injEq] at h
      subst h
      cases j with
      | zero => simp at hj; subst hj; exact ⟨y, rfl, hy⟩
      | succ j => exact omap_get hys j x (by simpa using hj)
    · simp at h

omit [Env] in
theorem omap_length {α β : Type} {f : α → Option β} {l : List α} {r : List β} (h : omap f l = some r) : r.length = l.length := by
  have := omap_spec h
  have h2 := congrArg List.length this
  simpa using h2.symm

omit [Env] in
theorem zip_same : ∀ (l : List Value), (∀ v ∈ l, Instr.sameBits 9999 v v = true) → ((l.zip l).all fun x => Instr.sameBits 9999 x.1 x.2) = true
  | [], _ => rfl
  | v :: l, h => by
    simp only [List.zip_cons_cons, List.all_cons, Bool.and_eq_true]
    exact ⟨h v (by simp), zip_same l fun v hv => h v (by simp [hv])⟩

omit [Env] in
theorem key_stays {k : TypeId} {s : Bool} {ks : List Nat} (hk : keyKinds P k = some (s, ks)) {a b : RV} (h : sameK s ks a b = some true) (w : World) :
    a = b ∧ (Instr.keyThatStays (rv m a) (rv m a)).run P w = .ok (rv m a) w := by
  have key : ∀ v : Value, Instr.sameBits 10000 v v = true → (Instr.keyThatStays v v).run P w = .ok v w := by
    intro v hv
    simp [Instr.keyThatStays, hv]
  unfold sameK at h
  rcases keyKinds_spec hk with ⟨rfl, fs, hu, hs, hz, ho⟩ | ⟨rfl, c, hc, rfl⟩
  · split at h
    · rename_i x y hx hy
      cases a <;> simp only [keyCells] at hx <;> try (simp at hx; done)
      cases b <;> simp only [keyCells] at hy <;> try (simp at hy; done)
      simp only [Option.some.injEq] at hx hy
      subst hx hy
      obtain ⟨rfl, h2⟩ := sameKey_eq (P := P) ks _ _ ⟨fs.toList.map (·.type), by rw [omap_length ho]; simp, fun j c ty hj ht => by
        rw [List.getElem?_map] at ht
        cases hf : fs.toList[j]? with
        | none => rw [hf] at ht; simp at ht
        | some f =>
          rw [hf] at ht
          simp only [Option.map_some, Option.some.injEq] at ht
          obtain ⟨y, hy, hy2⟩ := omap_get ho j f hf
          rw [hj] at hy
          simp only [Option.some.injEq] at hy
          rw [← ht, hy]; exact hy2⟩ h
      refine ⟨rfl, key _ ?_⟩
      simp only [rv, Instr.sameBits, rvL_eq]
      simp only [beq_self_eq_true, Bool.true_and]
      refine zip_same _ ?_
      intro v hv
      obtain ⟨z, hz', rfl⟩ := List.mem_map.1 hv
      obtain ⟨v', rfl, hb⟩ := h2 z hz'
      exact hb 9999
    · simp at h
  · split at h
    · rename_i x y hx hy
      cases a <;> simp only [keyCells] at hx <;> try (simp at hx; done)
      cases b <;> simp only [keyCells] at hy <;> try (simp at hy; done)
      simp only [Option.some.injEq] at hx hy
      subst hx hy
      obtain ⟨va, vb, h1, h2, _, _, _, h4, _⟩ := sameC_spec (P := P) hc (one_same h)
      cases h1; cases h2
      obtain ⟨rfl, h5⟩ := h4 rfl
      exact ⟨rfl, key _ (h5 10000)⟩
    · simp at h

def found (m : Nat → Loc) : Option (Nat × RV) → Option (Nat × Value)
  | some (i, x) => some (i, rv m x)
  | none => none

omit [Env] in
theorem key_find {k : TypeId} {s : Bool} {ks : List Nat} (hk : keyKinds P k = some (s, ks)) {a : RV} : ∀ (es : List (RV × RV × Nat)) (i : Nat) (r : Option (Nat × RV)), scanR s ks a es i = some r →
    (s = true → ∀ w, (Instr.findAsking k (rv m a) (es.map (entryOf m)) i).run P w = .ok (found m r) w) ∧
    (s = false → ∀ q, P.underlying k = some q → Instr.findNow q (rv m a) (es.map (entryOf m)) i = some (found m r))
  | [], i, r, h => by
    simp only [scanR, Option.some.injEq] at h
    subst h
    exact ⟨fun _ _ => rfl, fun _ _ _ => rfl⟩
  | (k', x, bn) :: es, i, r, h => by
    simp only [scanR] at h
    split at h
    · rename_i hs
      simp only [Option.some.injEq] at h
      subst h
      refine ⟨fun _ w => ?_, fun hf q hq => ?_⟩
      · simp [Instr.findAsking, entryOf, key_equal hk hs, found]
      · subst hf
        rcases keyKinds_spec hk with ⟨h1, _⟩ | ⟨_, c, hc, rfl⟩
        · simp at h1
        · unfold sameK at hs
          split at hs
          · rename_i xs ys hx hy
            cases a <;> simp only [keyCells] at hx <;> try (simp at hx; done)
            cases k' <;> simp only [keyCells] at hy <;> try (simp at hy; done)
            simp only [Option.some.injEq] at hx hy
            subst hx hy
            obtain ⟨va, vb, h1, h2, _, _, _, _, h5⟩ := sameC_spec (P := P) hc (one_same hs)
            cases h1; cases h2
            simp [Instr.findNow, entryOf, rv, h5 q hq, found]
          · simp at hs
    · rename_i hs
      obtain ⟨ih1, ih2⟩ := key_find hk es (i + 1) r h
      refine ⟨fun ht w => ?_, fun hf q hq => ?_⟩
      · simp [Instr.findAsking, entryOf, key_equal hk hs]
        simpa using ih1 ht w
      · have := ih2 hf q hq
        subst hf
        rcases keyKinds_spec hk with ⟨h1, _⟩ | ⟨_, c, hc, rfl⟩
        · simp at h1
        · unfold sameK at hs
          split at hs
          · rename_i xs ys hx hy
            cases a <;> simp only [keyCells] at hx <;> try (simp at hx; done)
            cases k' <;> simp only [keyCells] at hy <;> try (simp at hy; done)
            simp only [Option.some.injEq] at hx hy
            subst hx hy
            obtain ⟨va, vb, h1, h2, _, _, _, _, h5⟩ := sameC_spec (P := P) hc (one_same hs)
            cases h1; cases h2
            simp only [List.map_cons, Instr.findNow, entryOf, rv, h5 q hq]
            simpa [rv, entryOf] using this
          · simp at hs
    · simp at h

omit [Env] in
theorem key_findKey {k : TypeId} {s : Bool} {ks : List Nat} (hk : keyKinds P k = some (s, ks)) {a : RV} {es : List (RV × RV × Nat)} {r : Option (Nat × RV)} (h : findKeyR s ks a es = some r) :
    (∀ w, (Instr.findKey k (rv m a) (es.map (entryOf m))).run P w = .ok (found m r) w) ∧ (∀ em w, (Instr.checkKey em 10000 k (rv m a)).run P w = .ok () w) ∧ sameK s ks a a = some true := by
  unfold findKeyR at h
  split at h
  · rename_i hs
    refine ⟨fun w => ?_, fun em w => key_check hk hs em w, hs⟩
    obtain ⟨h1, h2⟩ := key_find (m := m) hk es 0 r h
    rcases keyKinds_spec hk with ⟨rfl, fs, hu, _⟩ | ⟨rfl, c, hc, rfl⟩
    · unfold Instr.findKey
      simp only [Sem.run_bind, run_underlying hu, Result.andThen_ok]
      cases es with
      | nil =>
        simp only [scanR, Option.some.injEq] at h
        subst h
        rfl
      | cons x es =>
        have : Instr.findNow (.struct fs) (rv m a) ((x :: es).map (entryOf m)) 0 = none := by
          simp [Instr.findNow, Instr.sameNow]
        rw [this]
        exact h1 rfl w
    · unfold cellKind at hc
      cases hu : P.underlying k with
      | none => rw [hu] at hc; simp at hc
      | some q =>
        unfold Instr.findKey
        simp only [Sem.run_bind, run_underlying hu, Result.andThen_ok, h2 rfl q hu]
        rfl
  · simp at h
end
end Go.Rv
