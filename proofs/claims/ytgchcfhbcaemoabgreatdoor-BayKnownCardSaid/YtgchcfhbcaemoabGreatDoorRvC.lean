/- What an operation of the evaluator says of the machine's. -/
import Derived.Test.YtgchcfhbcaemoabGreatDoorRvB
import Derived.Laws.Cells
import Derived.Laws.CopyRow
import Derived.Laws.Entries
namespace Go.Rv
open Go
variable [Env]

def evV (arr : Array Value) : Operand → Value
  | .tmp t => arr.getD t undef
  | .const v => v
  | .global g => .pointer (some ⟨g, 0, none⟩)
  | .func f => .func (.func f) #[] #[]

structure Cx (m : Nat → Loc) (t : RT) (W : RW) (arr : Array Value) (w : World) : Prop where
  tr : TR m t arr
  lt : tlt W.n t
  rel : Rel m W w

omit [Env] in
theorem oneV_agg {x : Value} (h : oneV x = true) (n : Nat) : below n (.v x) = true := by
  cases x <;> simp_all [oneV, below]

omit [Env] in
theorem oneV_cell {x : Value} (h : oneV x = true) : x.oneCell' = true := by
  cases x <;> simp_all [oneV, Value.oneCell']

omit [Env] in
theorem rvL_v (m : Nat → Loc) (l : List Value) : rvL m (l.map .v) = l := by
  induction l with
  | nil => rfl
  | cons x r ih => simp [rvL, rv, ih]

omit [Env] in
theorem belowC_v {l : List Value} (h : l.all oneV = true) (n : Nat) : belowC n (l.map .v) = true := by
  rw [belowC_iff]
  intro x hx
  obtain ⟨y, hy, rfl⟩ := List.mem_map.1 hx
  have := List.all_eq_true.1 h y hy
  exact ⟨this, oneV_agg this n⟩

omit [Env] in
theorem ofValue_ok (m : Nat → Loc) (n : Nat) {v : Value} (h : flatV v = true) : rv m (ofValue v) = v ∧ below n (ofValue v) = true := by
  cases v with
  | agg cs =>
    simp only [ofValue, rv, rvL_v, below]
    exact ⟨by simp, belowC_v h n⟩
  | _ => exact ⟨rfl, rfl⟩

section
variable {m : Nat → Loc} {t : RT} {W : RW} {arr : Array Value} {w : World}

theorem opd_ok (c : Cx m t W arr w) {x : Operand} (hx : okO x = true) : rv m (opd x t) = evV arr x ∧ below W.n (opd x t) = true := by
  cases x with
  | tmp i =>
    simp only [opd, opdB, tmpB_eq, evV]
    exact ⟨(c.tr.get i).symm, c.lt i⟩
  | const v => exact ofValue_ok m W.n hx
  | global g =>
    simp only [opd, opdB]
    cases hg : Env.ids.idxOf? g with
    | none => exact ⟨rfl, rfl⟩
    | some i =>
      have hi : Env.ids[i]? = some g := by
        have h := List.idxOf?_eq_some_iff.1 hg
        obtain ⟨h1, h2, _⟩ := h
        rw [List.getElem?_eq_getElem h1, h2]
      obtain ⟨h1, h2, h3⟩ := c.rel.glb i g hi
      exact ⟨by simp [rv, evV, h2, h3], by simp [below, blt_eq, h1]⟩
  | func f => exact ⟨rfl, rfl⟩

theorem opds_ok (c : Cx m t W arr w) {xs : List Operand} (hx : xs.all okO = true) :
    (xs.map fun x => opd x t).map (rv m) = xs.map (evV arr) ∧ belowL W.n (xs.map fun x => opd x t) = true := by
  rw [belowL_iff]
  refine ⟨?_, ?_⟩
  · rw [List.map_map]
    exact List.map_congr_left fun x h => (opd_ok c (List.all_eq_true.1 hx x h)).1
  · intro y hy
    obtain ⟨x, h, rfl⟩ := List.mem_map.1 hy
    exact (opd_ok c (List.all_eq_true.1 hx x h)).2
end

theorem with1_spec {x : Operand} {k : Opd → ROp} {op : ROp} (h : with1 x k = some op) : okO x = true ∧ op = k (opd x) := by
  unfold with1 at h
  split at h
  · rename_i hx
    refine ⟨hx, ?_⟩
    unfold opd
    split at h
    rename_i g hg
    exact (Option.some.inj h).symm
  · simp at h

theorem with2_spec {x y : Operand} {k : Opd → Opd → ROp} {op : ROp} (h : with2 x y k = some op) : okO x = true ∧ okO y = true ∧ op = k (opd x) (opd y) := by
  unfold with2 at h
  split at h
  · rename_i hx
    have hx' : okO x = true ∧ okO y = true := by simpa using hx
    refine ⟨hx'.1, hx'.2, ?_⟩
    unfold opd
    split at h
    rename_i g hg
    split at h
    rename_i g2 hg2
    exact (Option.some.inj h).symm
  · simp at h

theorem with3_spec {x y z : Operand} {k : Opd → Opd → Opd → ROp} {op : ROp} (h : with3 x y z k = some op) :
    okO x = true ∧ okO y = true ∧ okO z = true ∧ op = k (opd x) (opd y) (opd z) := by
  unfold with3 at h
  split at h
  · rename_i hx
    have hx' : (okO x = true ∧ okO y = true) ∧ okO z = true := by simpa using hx
    refine ⟨hx'.1.1, hx'.1.2, hx'.2, ?_⟩
    unfold opd
    split at h
    rename_i g hg
    split at h
    rename_i g2 hg2
    split at h
    rename_i g3 hg3
    exact (Option.some.inj h).symm
  · simp at h

theorem withL_spec {xs : List Operand} {k : (RT → List RV) → ROp} {op : ROp} (h : withL xs k = some op) : xs.all okO = true ∧ op = k fun t => xs.map fun x => opd x t := by
  unfold withL at h
  split at h
  · exact ⟨by assumption, (Option.some.inj h).symm⟩
  · simp at h

omit [Env] in
theorem psem_run {α : Type} {P : Program} {s : Sem α} {a : α} (h : psem P s = some a) (w : World) : s.run P w = .ok a w := by
  induction s with
  | pure b =>
    have : some b = some a := h
    simp_all [Sem.run]
  | program k ih => exact ih P h
  | _ => exact absurd h (by simp [psem])

/-! what a value's cells are -/
omit [Env] in
theorem cells_rv (m : Nat → Loc) {n : Nat} {x : RV} (h : below n x = true) : (rv m x).cells.toList = (cellsOf x).map (rv m) := by
  cases x with
  | agg cs => simp [rv, cellsOf, Value.cells, rvL_eq]
  | v x => cases x <;> simp_all [rv, cellsOf, Value.cells, below]
  | _ => simp [rv, cellsOf, Value.cells]

omit [Env] in
theorem oneB_cell {m : Nat → Loc} {x : RV} (h : oneB x = true) : (rv m x).oneCell' = true := by
  cases x with
  | v x => exact oneV_cell h
  | agg cs => simp [oneB] at h
  | tup cs => simp [oneB] at h
  | _ => rfl

def Done (v : Value) (nx : Next) : Prop := nx = .value v ∨ (nx = .skip ∧ v = undef)

/-- what an operation's effect says of its run -/
def EffOk (P : Program) (m : Nat → Loc) (W : RW) (w : World) (s : Sem Next) : Eff → Prop
  | .val x => below W.n x = true ∧ ∃ nx, s.run P w = .ok nx w ∧ Done (rv m x) nx
  | .alloc o mk => o.lt W.n ∧ ∃ robj cap nx, s.run P w = .ok nx { w with heap := w.heap.push robj } ∧
      ∀ (m' : Nat → Loc) (nm : Nat), Agree W.n m m' → m' nm = ⟨w.heap.size, 0, cap⟩ →
        Done (rv m' (mk nm)) nx ∧ ORel m' o ⟨w.heap.size, 0, cap⟩ (w.heap.push robj) ∧ below (nm + 1) (mk nm) = true
  | .wr x W' => ∃ m' w' nx, s.run P w = .ok nx w' ∧ Done (rv m' x) nx ∧ Rel m' W' w' ∧ Post m W w m' W' w' ∧ below W'.n x = true
  | .call f args => below W.n f = true ∧ belowL W.n args = true ∧ s = (do let d ← Deferred.ofValue (rv m f) (args.map (rv m)).toArray; invoke d.target d.args)

/-- an operation that gives a value -/
def sv (s : Sem Value) : Sem Next := do pure (.value (← s))

omit [Env] in
theorem run_sv {P : Program} {s : Sem Value} {w w' : World} {v : Value} (h : s.run P w = .ok v w') : (sv s).run P w = .ok (.value v) w' := by
  simp [sv, h]

section
variable {P : Program} {m : Nat → Loc} {t : RT} {W : RW} {arr : Array Value} {w : World} {e : Eff}

theorem effOk_val {x : RV} {s : Sem Value} (hb : below W.n x = true) (hr : s.run P w = .ok (rv m x) w) : EffOk P m W w (sv s) (.val x) :=
  ⟨hb, _, run_sv hr, .inl rfl⟩

/-! integers -/
omit [Env] in
theorem leB_eq (a b : Int) : leB a b = decide (a ≤ b) := by
  rw [Bool.eq_iff_iff, decide_eq_true_eq]
  cases a <;> cases b <;> simp [leB] <;> omega

omit [Env] in
theorem inK_wrap {k : IntKind} {n : Int} (h : inK k n = true) : k.wrap n = n := by
  cases k <;> simp [inK, leB_eq] at h <;> simp [IntKind.wrap, IntKind.bits, IntKind.signed] <;> omega

omit [Env] in
theorem putK_spec {k : IntKind} {n : Int} {v : Value} (h : putK k n = some v) : v = .int k n ∧ k.wrap n = n := by
  unfold putK at h
  rw [fint_eq] at h
  split at h
  · exact ⟨(Option.some.inj h).symm, inK_wrap (by assumption)⟩
  · simp at h

omit [Env] in
theorem ofInt_nat (N m : Nat) : (BitVec.ofInt N (Int.ofNat m)).toNat = m % 2 ^ N := by
  have : (BitVec.ofInt N (m : Int)) = BitVec.ofNat N m := BitVec.ofInt_natCast N m
  show (BitVec.ofInt N (m : Int)).toNat = _
  rw [this, BitVec.toNat_ofNat]

omit [Env] in
theorem wrap_mod (k : IntKind) (m : Nat) : k.wrap ((m % 2 ^ k.bits : Nat) : Int) = k.wrap (m : Int) := by
  cases k <;> simp [IntKind.wrap, IntKind.bits, IntKind.signed] <;> omega

omit [Env] in
theorem andNot_eq {N : Nat} (a b : BitVec N) : a &&& ~~~b = a ^^^ (a &&& b) := by
  ext i hi
  simp
  cases a[i] <;> cases b[i] <;> rfl
end
end Go.Rv
