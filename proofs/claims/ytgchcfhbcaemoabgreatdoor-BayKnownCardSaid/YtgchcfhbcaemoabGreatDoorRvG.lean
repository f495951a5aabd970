/- Values that are made of values. -/
import Derived.Test.YtgchcfhbcaemoabGreatDoorRvF
namespace Go.Rv
open Go
variable [Env]
section
variable {P : Program} {m : Nat → Loc} {t : RT} {W : RW} {arr : Array Value} {w : World} {e : Eff}

omit [Env] in
theorem repl_eq (n : Nat) (l : List RV) : repl n l = (List.replicate n l).flatten := by
  induction n with
  | zero => rfl
  | succ n ih => simp [repl, ih, List.replicate_succ]

omit [Env] in
theorem repl_length (n : Nat) (l : List RV) : (repl n l).length = n * l.length := by
  rw [repl_eq]; simp

omit [Env] in
theorem belowC_append {n : Nat} {a b : List RV} (h1 : belowC n a = true) (h2 : belowC n b = true) : belowC n (a ++ b) = true := by
  rw [belowC_iff] at *
  intro x hx
  rcases List.mem_append.1 hx with h | h
  · exact h1 x h
  · exact h2 x h

omit [Env] in
theorem belowC_repl {n : Nat} {l : List RV} (h : belowC n l = true) (k : Nat) : belowC n (repl k l) = true := by
  induction k with
  | zero => rfl
  | succ k ih => exact belowC_append h ih

omit [Env] in
theorem repl_get (l : List RV) : ∀ (n j : Nat), j < n * l.length → (repl n l)[j]? = l[j % l.length]? := by
  intro n
  induction n with
  | zero => intro j hj; omega
  | succ n ih =>
    intro j hj
    simp only [repl]
    by_cases h : j < l.length
    · rw [List.getElem?_append_left h, Nat.mod_eq_of_lt h]
    · rw [List.getElem?_append_right (by omega), ih _ (by rw [Nat.succ_mul] at hj; omega)]
      congr 1
      exact (Nat.mod_eq_sub_mod (by omega)).symm

omit [Env] in
/-- the cells of n zero values -/
theorem zeros_eq (zs : Array Value) (n : Nat) (h : 0 < zs.size) :
    ((Array.range (n * zs.size)).map (fun j => zs[j % zs.size]!)).toList = (repl n (zs.toList.map RV.v)).map (rv m) := by
  have hlen : (zs.toList.map RV.v).length = zs.size := by simp
  apply List.ext_getElem?
  intro j
  by_cases hj : j < n * zs.size
  · rw [List.getElem?_map, repl_get _ _ _ (by rw [hlen]; exact hj), hlen]
    have hm : j % zs.size < zs.size := Nat.mod_lt _ h
    simp [hj, hm, rv]
  · rw [List.getElem?_eq_none (by simp; omega), List.getElem?_eq_none (by rw [List.length_map, repl_length, hlen]; omega)]

theorem xBsl_ok {ty el : TypeId} {len : Nat} {i : TypeInfo} {z : List RV} {ks : List Nat} {xs : List RV} (hu : P.underlying ty = some (.slice el)) (hi : P.info? el = some i) (hz : zeroCells i = some z)
    (hc : len * i.size ≤ 16777216 ∧ 0 < i.size ∧ (0 < len ∨ ks = []) ∧ z.length = i.size) (hl : xs.length = ks.length) (hb : belowL W.n xs = true)
    (h : xBsl len i.size z (ks.zipWith (fun k x => (k * i.size, i.size, x)) xs) = some e) :
    EffOk P m W w (sv (Instr.buildSlice ty len (ks.zip (xs.map (rv m))).toArray)) e := by
  obtain ⟨v, h1, rfl, h3⟩ := zeroCells_spec hz
  obtain ⟨c1, c2, c3, c4⟩ := hc
  have hzs : v.cells.size = i.size := by rw [← c4]; simp
  by_cases c0 : len = 0
  · subst c0
    have hks : ks = [] := by rcases c3 with h | h; omega; exact h
    subst hks
    simp only [xBsl, List.zipWith_nil_left, repl, fillR, Option.some.injEq] at h
    subst h
    refine ⟨rfl, _, ([] : List RV).length, _, run_sv (v := .slice (some ⟨w.heap.size, 0, none⟩) 0 0) (w' := { w with heap := w.heap.push (.cells #[] el) }) ?_, ?_⟩
    · have hfill : ∀ (f : Nat → Option (Nat × Nat)) (a : Array Value), Instr.fill f a [] = some a := fun _ _ => rfl
      have hgt : ¬ 0 * i.size > 2 ^ 24 := by omega
      have hz0 : 0 * i.size = 0 := Nat.zero_mul _
      have har : ∀ zs : Array Value, (Array.range (0 * i.size)).map (fun j => zs[j % zs.size]!) = #[] := fun zs => by rw [hz0]; simp
      have hzip : (([] : List Nat).zip (xs.map (rv m))).toArray = #[] := by simp
      rw [hzip]
      simp only [Instr.buildSlice, Sem.run_bind, run_underlying hu, Result.andThen, run_size hi, if_neg hgt, if_pos hz0, Sem.run_pure, har, hfill, newRow, run_newObj]
    · intro m' nm ha hnm
      refine ⟨.inl ?_, orel_cells (W := W) (m := m) (cs := []) rfl #[] rfl el ha _, by simp [below, blt_eq]⟩
      simp [rv, hnm]
  have c3 : 0 < len := by omega
  unfold xBsl at h
  split at h
  · rename_i cs hf
    simp only [Option.some.injEq] at h
    subst h
    have hz' : ((Array.range (len * i.size)).map (v.cells[· % v.cells.size]!)).toList = (repl len (v.cells.toList.map RV.v)).map (rv m) := by
      rw [← hzs]
      exact zeros_eq v.cells len (by omega)
    have hzw : ks.zipWith (fun k x => (k * i.size, i.size, x)) xs = (ks.map fun k => (k * i.size, i.size)).zipWith (fun p x => (p.1, p.2, x)) xs := by
      rw [List.zipWith_map_left]
    rw [hzw] at hf
    obtain ⟨out, f1, f2, f3⟩ := fill_ok (W := W) (m := m) (fun k => some (k * i.size, i.size)) ks _ xs _ _ _ (by simp) hl hb (belowC_repl (belowC_v h3 _) len) hz' hf
    have hlen : cs.length = len * i.size := by
      have key : ∀ (ps : List (Nat × Nat × RV)) (a b : List RV), fillR a ps = some b → b.length = a.length := by
        intro ps
        induction ps with
        | nil => intro a b hh; simp only [fillR, Option.some.injEq] at hh; rw [hh]
        | cons p ps ih =>
          intro a b hh
          obtain ⟨p1, p2, p3⟩ := p
          simp only [fillR] at hh
          split at hh
          · split at hh
            · rename_i c hp
              rw [ih _ _ hh, lput_length hp]
            · simp at hh
          · simp at hh
      rw [key _ _ _ hf, repl_length, c4]
    refine ⟨f3, _, cs.length, _, run_sv (v := .slice (some ⟨w.heap.size, 0, none⟩) len len) (w' := { w with heap := w.heap.push (.cells out el) }) ?_, ?_⟩
    · have hne : ¬ len * i.size = 0 := by
        have := Nat.mul_pos c3 c2
        omega
      have hgt : ¬ len * i.size > 2 ^ 24 := by omega
      simp only [Instr.buildSlice, Sem.run_bind, run_underlying hu, Result.andThen, run_size hi, if_neg hgt, if_neg hne, Sem.run_pure, zeroValue, typeInfo, run_program, hi, h1, f1, newRow, run_newObj]
    · intro m' nm ha hnm
      refine ⟨.inl ?_, orel_cells f3 out f2 el ha _, by simp [below, blt_eq]⟩
      simp only [rv, hnm, hlen]
      simp [Nat.mul_div_cancel _ c2]
  · simp at h

theorem nmap_ok {ty : TypeId} : EffOk P m W w (sv (Instr.makeMap ty none)) (.alloc (.map [] 0 false) fun b => .mp b) := by
  refine ⟨by intro e he; simp at he, .map #[] 0, 0, _, run_sv (v := .map (some w.heap.size)) ?_, ?_⟩
  · simp [Instr.makeMap]
  · intro m' nm ha hnm
    refine ⟨.inl (by simp [rv, hnm]), ?_, by simp [below, blt_eq]⟩
    show (w.heap.push _)[w.heap.size]? = _
    simp

theorem rmap_ok {ty kt el : TypeId} {n : Int} (hu : P.underlying ty = some (.map kt el)) : EffOk P m W w (sv (Instr.makeMap ty (some (.int .i64 n)))) (.alloc (.map [] 0 false) fun b => .mp b) := by
  refine ⟨by intro e he; simp at he, .map #[] 0, 0, _, run_sv (v := .map (some w.heap.size)) ?_, ?_⟩
  · simp [Instr.makeMap, run_underlying hu, asInt, asIntOf]
  · intro m' nm ha hnm
    refine ⟨.inl (by simp [rv, hnm]), ?_, by simp [below, blt_eq]⟩
    show (w.heap.push _)[w.heap.size]? = _
    simp

theorem xMsl_ok {ty el : TypeId} {i : TypeInfo} {z : List RV} {l c : RV} (hu : P.underlying ty = some (.slice el)) (hi : P.info? el = some i) (hz : zeroCells i = some z)
    (hc : 0 < i.size ∧ z.length = i.size) (h : xMsl i.size i.bytes z l c = some e) : EffOk P m W w (sv (Instr.makeSlice ty (rv m l) (rv m c))) e := by
  obtain ⟨v, h1, rfl, h3⟩ := zeroCells_spec hz
  have hzs : v.cells.size = i.size := by rw [← hc.2]; simp
  unfold xMsl at h
  split at h
  · rename_i n k
    split at h
    · rename_i hn
      obtain ⟨rfl, hb⟩ := hn
      simp only [Option.some.injEq] at h
      subst h
      have hb1 : n * i.bytes + n ≤ 1099511627776 := by rw [Nat.mul_add, Nat.mul_one] at hb; exact hb
      have hb2 : ((i.bytes : Int) * (Int.ofNat n)) ≤ 281474976710656 := by
        have : i.bytes * n ≤ 281474976710656 := by rw [Nat.mul_comm]; omega
        have h' : ((i.bytes * n : Nat) : Int) ≤ 281474976710656 := by omega
        rwa [Int.natCast_mul] at h'
      have hr := run_make (P := P) w ty el i v hu hi h1 .i64 .i64 (Int.ofNat n) (Int.ofNat n) (Int.natCast_nonneg n) (Int.le_refl _) hb2 (by
        have : (Int.ofNat n) = (n : Int) := rfl
        omega)
      have hvs : (madeCells v.cells (n * i.size)).toList = (repl n (v.cells.toList.map RV.v)).map (rv m) := by
        rw [← hzs]
        exact zeros_eq v.cells n (by omega)
      have hcs := belowC_repl (belowC_v h3 W.n) n
      refine ⟨hcs, _, (repl n (v.cells.toList.map RV.v)).length, _, run_sv hr, ?_⟩
      intro m' nm ha hnm
      refine ⟨.inl ?_, orel_cells hcs _ hvs el ha _, by simp [below, blt_eq]⟩
      simp only [rv, hnm, repl_length]
      have e : (v.cells.toList.map RV.v).length = i.size := hc.2
      simp [e, Nat.mul_div_cancel _ hc.1]
    · simp at h
  · simp at h

theorem xBuild_ok {ty : TypeId} {ti : TypeInfo} {z : List RV} {ks : List Nat} {ps : List (Nat × Nat)} {xs : List RV} (place : Nat → Option (Nat × Nat)) (hz : zeroCells ti = some z)
    (hp : ks.map place = ps.map some) (hl : xs.length = ks.length) (hb : belowL W.n xs = true)
    (hbuilt : ∀ v cells, ti.zero = some v → Instr.fill place v.cells (ks.zip (xs.map (rv m))) = some cells → P.built ty (ks.zip (xs.map (rv m))) = some cells)
    (h : xBuild z (ps.zipWith (fun p x => (p.1, p.2, x)) xs) = some e) :
    EffOk P m W w (sv (Instr.build ty (ks.zip (xs.map (rv m))).toArray)) e := by
  obtain ⟨v, h1, rfl, h3⟩ := zeroCells_spec hz
  unfold xBuild at h
  split at h
  · rename_i cs hf
    simp only [Option.some.injEq] at h
    subst h
    obtain ⟨out, f1, f2, f3⟩ := fill_ok (W := W) (m := m) place ks ps xs _ _ v.cells hp hl hb (belowC_v h3 _) (by rw [← rvL_eq, rvL_v]) hf
    refine effOk_val (by simpa [below] using f3) ?_
    rw [run_build w ty (ks.zip (xs.map (rv m))).toArray out (by simpa using hbuilt v out h1 f1)]
    simp only [rv, rvL_eq, ← f2]
  · simp at h

omit [Env] in
theorem oval_ok {o : Option RV} (h : oval o = some e) : ∃ x, o = some x ∧ e = .val x := by
  cases o with
  | none => simp [oval] at h
  | some x => exact ⟨x, rfl, (Option.some.inj h).symm⟩

omit [Env] in
theorem ovalue_ok {o : Option Value} (h : ovalue o = some e) : ∃ x, o = some x ∧ e = .val (.v x) ∧ oneV x = true := by
  cases o with
  | none => simp [ovalue] at h
  | some x =>
    simp only [ovalue] at h
    split at h
    · rw [fvalue_eq] at h
      exact ⟨x, rfl, (Option.some.inj h).symm, by assumption⟩
    · simp at h

omit [Env] in
theorem plainL_spec : ∀ {l : List RV} {vs : List Value}, plainL l = some vs → l = vs.map .v
  | [], vs, h => by
    have h' : some [] = some vs := h
    simp only [Option.some.injEq] at h'
    subst h'; rfl
  | x :: r, vs, h => by
    cases x with
    | v x =>
      have h' : Option.rec (motive := fun _ => Option (List Value)) none (fun l => some (x :: l)) (plainL r) = some vs := h
      cases hr : plainL r with
      | none => rw [hr] at h'; simp at h'
      | some l =>
        rw [hr] at h'
        simp only [Option.some.injEq] at h'
        subst h'
        simp [plainL_spec hr]
    | _ => exact absurd h (by simp [plainL])

omit [Env] in
theorem plain_spec {x : RV} {v : Value} (h : plain x = some v) (m : Nat → Loc) : rv m x = v := by
  cases x with
  | v x => simpa [plain, rv] using h
  | agg cs =>
    simp only [plain] at h
    split at h
    · rename_i l hl
      rw [plainL_spec hl]
      simp only [rv, rvL_v]
      exact Option.some.inj h
    · simp at h
  | _ => simp [plain] at h

theorem xPick_ok {c a b : RV} (ha : below W.n a = true) (hb : below W.n b = true) (h : xPick c a b = some e) :
    EffOk P m W w (do pure (.value (if ← asBool (rv m c) then rv m a else rv m b))) e := by
  unfold xPick at h
  split at h
  · simp only [Option.some.injEq] at h
    subst h
    exact ⟨ha, _, by simp [rv, asBool], .inl rfl⟩
  · simp only [Option.some.injEq] at h
    subst h
    exact ⟨hb, _, by simp [rv, asBool], .inl rfl⟩
  · simp at h

theorem ovalue_val {s : Sem Value} (h : ovalue (psem P s) = some e) : EffOk P m W w (sv s) e := by
  obtain ⟨x, h1, rfl, h2⟩ := ovalue_ok h
  exact effOk_val (oneV_agg h2 _) (psem_run h1 w)

omit [Env] in
theorem eqGuard_any (op : BinOp) (ty : TypeId) (a b : Value) (p q : Operand) {u : Unit} (h : psem P (eqGuard op ty (.tmp 0) (.tmp 0) a b) = some u) (w : World) :
    (eqGuard op ty p q a b).run P w = .ok () w := by
  have h1 := psem_run h w
  cases a with
  | nilIface =>
    cases b with
    | nilIface => cases p <;> cases q <;> cases op <;> first | rfl | exact h1
    | _ => cases op <;> first | rfl | exact h1
  | agg x => cases b <;> cases op <;> first | rfl | exact h1
  | _ => cases op <;> first | rfl | exact h1

theorem xBin_ok {op : BinOp} {ty : TypeId} {x y : RV} (p q : Operand) (h : xBin P op ty x y = some e) :
    EffOk P m W w (sv (do eqGuard op ty p q (rv m x) (rv m y); binOp op ty (rv m x) (rv m y))) e := by
  unfold xBin at h
  split at h
  · rename_i v hv
    simp only [Option.some.injEq] at h
    subst h
    obtain ⟨a, b, rfl, rfl, h1, h2, h3⟩ := fastV_run (P := P) ty hv w
    refine effOk_val (oneV_agg h3 _) ?_
    simp only [rv, Sem.run_bind, h1 p q, Result.andThen, h2]
  · unfold xBinSlow at h
    split at h
    · rename_i a b ha hb
      split at h
      · rename_i u hu
        obtain ⟨x', h1, rfl, h2⟩ := ovalue_ok h
        refine effOk_val (oneV_agg h2 _) ?_
        rw [plain_spec ha m, plain_spec hb m]
        simp only [Sem.run_bind, eqGuard_any op ty a b p q hu, Result.andThen, psem_run h1 w, rv]
      · simp at h
    · simp at h

theorem xF1_ok {s : Value → Sem Value} {x : RV} (h : xF1 P s x = some e) : EffOk P m W w (sv (s (rv m x))) e := by
  unfold xF1 at h
  split at h
  · rename_i a ha
    rw [plain_spec ha m]; exact ovalue_val h
  · simp at h

theorem xF2_ok {s : Value → Value → Sem Value} {x y : RV} (h : xF2 P s x y = some e) : EffOk P m W w (sv (s (rv m x) (rv m y))) e := by
  unfold xF2 at h
  split at h
  · rename_i a b ha hb
    rw [plain_spec ha m, plain_spec hb m]; exact ovalue_val h
  · simp at h

theorem xF3_ok {s : Value → Value → Value → Sem Value} {x y z : RV} (h : xF3 P s x y z = some e) : EffOk P m W w (sv (s (rv m x) (rv m y) (rv m z))) e := by
  unfold xF3 at h
  split at h
  · rename_i a b c ha hb hc
    rw [plain_spec ha m, plain_spec hb m, plain_spec hc m]; exact ovalue_val h
  · simp at h

theorem xFl_ok {s : List Value → Sem Value} {xs : List RV} (h : xFl P s xs = some e) : EffOk P m W w (sv (s (xs.map (rv m)))) e := by
  unfold xFl at h
  split at h
  · rename_i l hl
    rw [plainL_spec hl, ← rvL_eq, rvL_v]; exact ovalue_val h
  · simp at h
end
end Go.Rv
