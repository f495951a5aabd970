/- Runs that are known are not run again; a run from tables alone. -/
import Derived.Test.YtgchcfhbcaemoabGreatDoorRvXB
namespace Go.Rv
open Go
section

theorem Post.toStill {m m' : Nat → Loc} {W W' : RW} {w w' : World} (h : Post m W w m' W' w') (ho : ∀ b o, W.get b = some o → o.own = false) : Still w w' :=
  ⟨h.size, fun r hr => h.keep r hr fun b o hb hown => by rw [ho b o hb] at hown; simp at hown, h.os, h.tape, h.output⟩

end

/-- a run that began with nothing and gave plain values is so in any memory -/
theorem lift_ok {e1 e2 : Env} (he : e1.ids = []) {P : Program} {g : FuncId} {args : List RV} {x : RV} {W1 : RW} (h : @CallOk e1 P g args (blank 0) x W1) (ha : belowL 0 args = true) (hx : below 0 x = true) (W : RW) : @CallOk e2 P g args W x W := by
  intro m w cs hr hb
  have hr0 : @Rel e1 m (blank 0) w := by
    refine @Rel.mk e1 _ _ _ rfl ?_ ?_ ?_ ?_
    · intro b o hb
      rw [blank_get hb]; trivial
    · intro b o hb
      rw [blank_get hb]; trivial
    · intro a b x y ha _ hx
      rw [blank_get ha] at hx
      simp [RObj.own] at hx
    · intro i g hi
      rw [he] at hi
      simp at hi
  obtain ⟨m', w', fr, st, hl, hf, hr', hp, hx'⟩ := h m w cs hr0 ha
  have hst := hp.toStill fun b o hb => by rw [blank_get hb]; rfl
  have hv : rv m' x = rv m x := rv_agree (n := 0) (fun b hb => absurd hb (Nat.not_lt_zero b)) x hx
  rw [hv] at hl
  exact ⟨m, w', fr, st, hl, hf, @Rel.still e2 m W w w' hr hst, (Post.refl m W w).still hst, below_mono (Nat.zero_le _) _ hx⟩

theorem Rel.conv {e1 e2 : Env} (h : e1.ids = e2.ids) {m : Nat → Loc} {W : RW} {w : World} (hr : @Rel e1 m W w) : @Rel e2 m W w := by
  cases hr with
  | mk h1 h2 h3 h4 h5 => exact @Rel.mk e2 m W w h1 h2 h3 h4 (by rw [← h]; exact h5)

theorem conv_ok {e1 e2 : Env} (h : e1.ids = e2.ids) {P : Program} {g : FuncId} {args : List RV} {W W' : RW} {x : RV} (hc : @CallOk e1 P g args W x W') : @CallOk e2 P g args W x W' := by
  intro m w cs hr hb
  obtain ⟨m', w', fr, st, hl, hf, hr', hp, hx⟩ := hc m w cs (@Rel.conv e2 e1 h.symm m W w hr) hb
  exact ⟨m', w', fr, st, hl, hf, @Rel.conv e1 e2 h _ _ _ hr', hp, hx⟩

/-- a run that is known; the key is only to find it by -/
structure Memo where
  g : FuncId
  key : Nat
  args : List RV
  x : RV

noncomputable section
/-- plain cells are the same -/
def sameCell : RV → RV → Bool
  | .v (.int j a), .v (.int k b) => match decEq j k with
    | .isTrue _ => leB a b && leB b a
    | .isFalse _ => false
  | .v (.bool a), .v (.bool b) => a == b
  | _, _ => false

def sameCells : List RV → List RV → Bool
  | [], [] => true
  | x :: r, y :: s => sameCell x y && sameCells r s
  | _, _ => false

def sameOne : RV → RV → Bool
  | .agg cs, .agg ds => sameCells cs ds
  | x, y => sameCell x y

def sameA : List RV → List RV → Bool
  | [], [] => true
  | x :: r, y :: s => sameOne x y && sameA r s
  | _, _ => false

def hashInt : Int → Nat
  | .ofNat n => n
  | .negSucc n => n

def hashBytes (l : List UInt8) (k : Nat) : Nat := List.rec (motive := fun _ => Nat → Nat) (fun k => k) (fun x _ ih k => ih ((k * 257 + x.toNat) % 2305843009213693951)) l k

def hashCell : RV → Nat
  | .v (.int _ a) => hashInt a
  | .v (.string s) => hashBytes s.data.toList 7
  | _ => 0

def hashCells (l : List RV) (k : Nat) : Nat := List.rec (motive := fun _ => Nat → Nat) (fun k => k) (fun x _ ih k => ih ((k * 1000003 + hashCell x) % 2305843009213693951)) l k

def hashA (l : List RV) (k : Nat) : Nat := List.rec (motive := fun _ => Nat → Nat) (fun k => k) (fun x _ ih k => ih (match x with
  | .agg cs => hashCells cs k
  | x => (k * 1000003 + hashCell x) % 2305843009213693951)) l k

def memoFind (l : List Memo) (key : Nat) (args : List RV) (W : RW) : Option (RV × RW) := match l with
  | [] => none
  | e :: r => match Nat.beq e.key key with
    | true => match sameA e.args args with
      | true => some (e.x, W)
      | false => memoFind r key args W
    | false => memoFind r key args W

/-- what is known, by functions -/
def memoRun (l : List (FuncId × List Memo)) (g : FuncId) (args : List RV) (W : RW) : Option (RV × RW) := match l with
  | [] => none
  | e :: r => match Nat.beq e.1 g with
    | true => fnat (hashA args 0) fun k => memoFind e.2 k args W
    | false => memoRun r g args W

theorem sameCell_eq {a b : RV} (h : sameCell a b = true) : a = b := by
  unfold sameCell at h
  split at h
  · split at h
    · rename_i hjk _
      subst hjk
      simp only [Bool.and_eq_true, leB_eq, decide_eq_true_eq] at h
      have := Int.le_antisymm h.1 h.2
      subst this
      rfl
    · simp at h
  · simp only [beq_iff_eq] at h
    rw [h]
  · simp at h

theorem sameCells_eq : ∀ (a b : List RV), sameCells a b = true → a = b
  | [], [], _ => rfl
  | x :: r, y :: s, h => by
    simp only [sameCells, Bool.and_eq_true] at h
    rw [sameCell_eq h.1, sameCells_eq r s h.2]
  | [], y :: s, h => by simp [sameCells] at h
  | x :: r, [], h => by simp [sameCells] at h

theorem sameOne_eq {a b : RV} (h : sameOne a b = true) : a = b := by
  unfold sameOne at h
  split at h
  · rw [sameCells_eq _ _ h]
  · exact sameCell_eq h

theorem sameA_eq : ∀ (a b : List RV), sameA a b = true → a = b
  | [], [], _ => rfl
  | x :: r, y :: s, h => by
    simp only [sameA, Bool.and_eq_true] at h
    rw [sameOne_eq h.1, sameA_eq r s h.2]
  | [], y :: s, h => by simp [sameA] at h
  | x :: r, [], h => by simp [sameA] at h
end

@[reducible] def plainEnv (ids : List Nat) : Env := ⟨ids, fun _ _ _ => none, fun _ => false⟩
@[reducible] def gcEnv (ids gs : List Nat) : Env := ⟨ids, fun _ _ _ => none, fun g => gs.any fun k => Nat.beq k g⟩
@[reducible] noncomputable def memoEnv (ids : List Nat) (l : List (FuncId × List Memo)) : Env := ⟨ids, memoRun l, fun _ => false⟩

def Named (P : Program) : Prop := ∀ (g : FuncId) (fn : Func), P.funcs[g]? = some fn → (fn.name == "runtime.NumGoroutine") = false

theorem named_of {P : Program} (h : (P.funcs.toList.all fun fn => !(fn.name == "runtime.NumGoroutine")) = true) : Named P := by
  intro g fn hg
  have := List.all_eq_true.1 h fn (List.mem_of_getElem? (by simpa using hg : P.funcs.toList[g]? = some fn))
  simpa using this

theorem noOwn_plain {P : Program} (h : Named P) (ids : List Nat) : @NoOwn (plainEnv ids) P :=
  @NoOwn.mk (plainEnv ids) P h (fun g args W x W' hx => by exact absurd hx (by simp))

/-- what is known holds -/
theorem noOwn_gc {P : Program} (h : Named P) (ids gs : List Nat) : @NoOwn (gcEnv ids gs) P :=
  @NoOwn.mk (gcEnv ids gs) P h (fun g args W x W' hx => by exact absurd hx (by simp))

def Memo.Ok (P : Program) (e : Memo) : Prop := (∀ ids W, @CallOk (plainEnv ids) P e.g e.args W e.x W) ∧ ∃ fn, P.funcs[e.g]? = some fn ∧ fn.body.isSome = true

theorem find_ok {P : Program} {ids : List Nat} {g : FuncId} {key : Nat} {args : List RV} {W W' : RW} {x : RV} (l : List Memo) : (∀ e ∈ l, e.Ok P ∧ e.g = g) → memoFind l key args W = some (x, W') →
    (@CallOk (plainEnv ids) P g args W x W') ∧ ∃ fn, P.funcs[g]? = some fn ∧ fn.body.isSome = true := by
  induction l with
  | nil => intro _ hx; simp [memoFind] at hx
  | cons e r ih =>
    intro hl hx
    have ih := ih fun e he => hl e (List.mem_cons_of_mem _ he)
    unfold memoFind at hx
    split at hx
    · split at hx
      · rename_i hs
        simp only [Option.some.injEq, Prod.mk.injEq] at hx
        obtain ⟨rfl, rfl⟩ := hx
        have h2 := sameA_eq _ _ hs
        subst h2
        obtain ⟨⟨h3, h4⟩, h5⟩ := hl e List.mem_cons_self
        subst h5
        exact ⟨h3 ids W, h4⟩
      · exact ih hx
    · exact ih hx

def Knowns (P : Program) (l : List (FuncId × List Memo)) : Prop := ∀ p ∈ l, ∀ e ∈ p.2, e.Ok P ∧ e.g = p.1

theorem noOwn_memo {P : Program} (h : Named P) {ids : List Nat} {l : List (FuncId × List Memo)} (hl : Knowns P l) : @NoOwn (memoEnv ids l) P := by
  refine @NoOwn.mk (memoEnv ids l) P h ?_
  intro g args W x W' hx0
  have key : ∀ (l : List (FuncId × List Memo)), Knowns P l → memoRun l g args W = some (x, W') → (@CallOk (plainEnv ids) P g args W x W') ∧ ∃ fn, P.funcs[g]? = some fn ∧ fn.body.isSome = true := by
    intro l
    induction l with
    | nil => intro _ hx; simp [memoRun] at hx
    | cons p r ih =>
      intro hl hx
      unfold memoRun at hx
      split at hx
      · rename_i hg
        have h1 := Nat.eq_of_beq_eq_true hg
        subst h1
        rw [fnat_eq] at hx
        exact find_ok p.2 (fun e he => hl p List.mem_cons_self e he) hx
      · exact ih (fun q hq => hl q (List.mem_cons_of_mem _ hq)) hx
  obtain ⟨h1, h2⟩ := key l hl hx0
  exact ⟨@conv_ok (plainEnv ids) (memoEnv ids l) rfl P g args W W' x h1, h2⟩

/-- a run becomes known -/
theorem memo_of {P : Program} {e : Env} (he : e.ids = []) (hN : @NoOwn e P) (n : Nat) {m : Memo} (h : (@callF e P (@evR e P n) m.g m.args (blank 0)).map (·.1) = some m.x) (ha : belowL 0 m.args = true) (hx : below 0 m.x = true) : m.Ok P := by
  cases hc : @callF e P (@evR e P n) m.g m.args (blank 0) with
  | none => rw [hc] at h; simp at h
  | some q =>
    obtain ⟨y, W1⟩ := q
    rw [hc] at h
    simp only [Option.map_some, Option.some.injEq] at h
    subst h
    obtain ⟨h1, h2⟩ := @callF_ok e P _ hN (@ev_ok e P hN n) _ _ _ _ _ hc
    exact ⟨fun ids W => lift_ok he h1 ha hx W, h2⟩

/-! tables -/
abbrev Tabs := List (Nat × IntKind × List Int)

def tabRw (l : Tabs) : RW := ⟨l.length, (l.map fun t => RObj.cells (t.2.2.map fun z => .v (.int t.2.1 z)) .ro).reverse⟩

def TabsAt (l : Tabs) (w : World) : Prop := ∀ t ∈ l, ∃ ty fz, w.heap[t.1]? = some (.cells (t.2.2.map fun z => Value.int t.2.1 z).toArray ty fz)

theorem tabRw_get {l : Tabs} {b : Nat} {o : RObj} (h : (tabRw l).get b = some o) : ∃ t, l[b]? = some t ∧ o = .cells (t.2.2.map fun z => .v (.int t.2.1 z)) .ro := by
  unfold tabRw RW.get at h
  simp only [blt_eq, decide_eq_true_eq, lget_eq] at h
  split at h
  · rename_i hb
    rw [List.getElem?_reverse (by rw [List.length_map]; omega)] at h
    simp only [List.length_map, List.getElem?_map] at h
    rw [show l.length - 1 - (l.length - 1 - b) = b by omega] at h
    cases ht : l[b]? with
    | none => rw [ht] at h; simp at h
    | some t =>
      rw [ht] at h
      simp only [Option.map_some, Option.some.injEq] at h
      exact ⟨t, rfl, h.symm⟩
  · simp at h

theorem tabRel {e : Env} {l : Tabs} (hids : e.ids = l.map (·.1)) {w : World} (h : TabsAt l w) : ∃ m, @Rel e m (tabRw l) w := by
  refine ⟨fun b => match l[b]? with | some t => ⟨t.1, 0, t.2.2.length⟩ | none => ⟨0, 0, 0⟩, @Rel.mk e _ _ _ ?_ ?_ ?_ ?_ ?_⟩
  · simp [RW.wf, tabRw]
  · intro b o hb
    obtain ⟨t, ht, rfl⟩ := tabRw_get hb
    obtain ⟨ty, fz, hh⟩ := h t (List.mem_of_getElem? ht)
    simp only [ht]
    refine ⟨_, ty, fz, hh, ?_, fun hk _ => absurd rfl hk, by simp, by simp, fun hk => by simp at hk, trivial⟩
    intro j x hj
    simp only [List.getElem?_map, Option.map_eq_some_iff] at hj
    obtain ⟨z, hz, rfl⟩ := hj
    simp [hz, rv]
  · intro b o hb
    obtain ⟨t, ht, rfl⟩ := tabRw_get hb
    refine (belowC_iff _ _).2 fun x hx => ?_
    obtain ⟨z, _, rfl⟩ := List.mem_map.1 hx
    exact ⟨rfl, rfl⟩
  · intro a b x y ha _ hx
    obtain ⟨t, ht, rfl⟩ := tabRw_get ha
    simp [RObj.own] at hx
  · intro i g hi
    rw [hids, List.getElem?_map] at hi
    cases ht : l[i]? with
    | none => rw [ht] at hi; simp at hi
    | some t =>
      rw [ht] at hi
      simp only [Option.map_some, Option.some.injEq] at hi
      exact ⟨(List.getElem?_eq_some_iff.1 ht).1, hi, rfl⟩

/-- a function without arguments, over tables -/
theorem run_calls {P : Program} {e : Env} (hN : @NoOwn e P) {l : Tabs} (hids : e.ids = l.map (·.1)) {n : Nat} {g : FuncId} {v : Value} (h : (@callF e P (@evR e P n) g [] (tabRw l)).map (·.1) = some (.v v)) {w : World} (ht : TabsAt l w) :
    Calls P g #[] w fun e w' => e = .returned v ∧ RowKit.Below w.heap.size w w' := by
  cases hc : @callF e P (@evR e P n) g [] (tabRw l) with
  | none => rw [hc] at h; simp at h
  | some q =>
    obtain ⟨y, W1⟩ := q
    rw [hc] at h
    simp only [Option.map_some, Option.some.injEq] at h
    subst h
    obtain ⟨m, hr⟩ := tabRel hids ht
    obtain ⟨h1, _⟩ := @callF_ok e P _ hN (@ev_ok e P hN n) g [] (tabRw l) W1 (.v v) hc
    refine CallOk.calls h1 hr rfl fun m' w' _ hp _ => ⟨rfl, hp.below fun b o hb => ?_⟩
    obtain ⟨t, _, rfl⟩ := tabRw_get hb
    rfl
end Go.Rv
