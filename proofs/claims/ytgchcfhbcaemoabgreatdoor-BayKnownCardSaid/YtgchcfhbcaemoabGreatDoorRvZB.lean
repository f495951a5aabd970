/- Runs that are known of functions whose arguments lead to rows of plain cells, which they only look at. -/
import Derived.Test.YtgchcfhbcaemoabGreatDoorRvZA
namespace Go.Rv
open Go
noncomputable section

/-- 'sl i o n e' in the arguments, and in rows, is a part of the row i of 'mem'; the key is only to find it by -/
structure MemoM where
  g : FuncId
  key : Nat
  args : List RV
  mem : List (List RV)
  x : RV

def memW (l : List (List RV)) : RW := ⟨l.length, (l.map fun c => RObj.cells c .ro).reverse⟩

/-- plain cells, or no list -/
def sameCellN : RV → RV → Bool
  | .v (.slice none 0 0), .v (.slice none 0 0) => true
  | .v (.string a), .v (.string b) => decide (a.data.toList = b.data.toList)
  | x, y => sameCell x y

/-- holds the cells of known arguments against those of others; 'acc' are the blocks that the rows so far lie in -/
def mCells (W : RW) (mem : List (List RV)) : Nat → List RV → List RV → List Nat → Option (List Nat)
  | 0, _, _, _ => none
  | _ + 1, [], ys, acc => match ys with
    | [] => some acc
    | _ :: _ => none
  | f + 1, x :: r, ys, acc => match ys with
    | [] => none
    | y :: s => match x with
      | .sl b0 o n e => match y with
        | .sl b o' n' e' => match Nat.beq b0 acc.length && Nat.beq o o' && Nat.beq n n' && Nat.beq e e' with
          | true => match lget mem b0 with
            | some c0 => match cellsAt W b with
              | some c => match mCells W mem f c0 c (acc ++ [b]) with
                | some acc => mCells W mem f r s acc
                | none => none
              | none => none
            | none => none
          | false => none
        | _ => none
      | .ptr b0 o => match y with
        | .ptr b o' => match Nat.beq b0 acc.length && Nat.beq o o' with
          | true => match lget mem b0 with
            | some c0 => match cellsAt W b with
              | some c => match mCells W mem f c0 c (acc ++ [b]) with
                | some acc => mCells W mem f r s acc
                | none => none
              | none => none
            | none => none
          | false => none
        | _ => none
      | x => match sameCellN x y with
        | true => mCells W mem f r s acc
        | false => none

def mArgs (W : RW) (mem : List (List RV)) : List RV → List RV → List Nat → Option (List Nat)
  | [], ys, acc => match ys with
    | [] => some acc
    | _ :: _ => none
  | x :: r, ys, acc => match ys with
    | [] => none
    | y :: s => match x with
      | .agg cs => match y with
        | .agg ds => match mCells W mem 10000 cs ds acc with
          | some acc => mArgs W mem r s acc
          | none => none
        | _ => none
      | x => match mCells W mem 10000 [x] [y] acc with
        | some acc => mArgs W mem r s acc
        | none => none

def memoMFind (l : List MemoM) (k : Nat) (g : FuncId) (args : List RV) (W : RW) : Option (RV × RW) := match l with
  | [] => none
  | e :: r => match Nat.beq e.key k && Nat.beq e.g g with
    | true => match mArgs W e.mem e.args args [] with
      | some bs => match Nat.beq bs.length e.mem.length with
        | true => some (e.x, W)
        | false => memoMFind r k g args W
      | none => memoMFind r k g args W
    | false => memoMFind r k g args W

/-- what is known, of some functions alone -/
def memoMRun (fs : List FuncId) (l : List MemoM) (g : FuncId) (args : List RV) (W : RW) : Option (RV × RW) := match fs.any (fun k => Nat.beq k g) with
  | true => fnat (hashA args 0) fun k => memoMFind l k g args W
  | false => none
end

section
theorem sameCell_v {a b : RV} (h : sameCell a b = true) : ∃ v, a = .v v ∧ b = .v v ∧ oneV v = true := by
  have hab := sameCell_eq h
  subst hab
  unfold sameCell at h
  split at h
  · exact ⟨_, rfl, rfl, rfl⟩
  · exact ⟨_, rfl, rfl, rfl⟩
  · simp at h

theorem sameCellN_v {a b : RV} (h : sameCellN a b = true) : ∃ v, a = .v v ∧ b = .v v ∧ oneV v = true := by
  unfold sameCellN at h
  split at h
  · exact ⟨_, rfl, rfl, rfl⟩
  · rename_i a b
    have hab : a = b := by
      have h1 : a.data.toList = b.data.toList := by simpa using h
      exact ByteArray.ext (Array.ext' h1)
    subst hab
    exact ⟨_, rfl, rfl, rfl⟩
  · exact sameCell_v h

/-- the rows that were met -/
def Met (W : RW) (mem : List (List RV)) (bs : List Nat) (k n : Nat) : Prop := ∀ i b, k ≤ i → i < n → bs[i]? = some b → ∃ c0 c, mem[i]? = some c0 ∧ cellsAt W b = some c ∧
  (∀ m m0 : Nat → Loc, (∀ i b, bs[i]? = some b → m0 i = m b) → c0.map (rv m0) = c.map (rv m)) ∧ belowC bs.length c0 = true

theorem pre_get {a t : List Nat} {i b : Nat} (h : a[i]? = some b) : (a ++ t)[i]? = some b := by
  rw [List.getElem?_append_left (List.getElem?_eq_some_iff.1 h).1]
  exact h

/-- more rows may be met behind -/
theorem Met.mono {W : RW} {mem : List (List RV)} {bs : List Nat} {k : Nat} (h : Met W mem bs k bs.length) (t : List Nat) : Met W mem (bs ++ t) k bs.length := by
  intro i b hk hi hb
  rw [List.getElem?_append_left hi] at hb
  obtain ⟨c0, c, h1, h2, h3, h4⟩ := h i b hk hi hb
  exact ⟨c0, c, h1, h2, fun m m0 hm => h3 m m0 fun i b hi => hm i b (pre_get hi), belowC_mono (by simp) c0 h4⟩

theorem mCells_spec {W : RW} {mem : List (List RV)} : ∀ (f : Nat) {xs ys : List RV} {acc bs : List Nat}, mCells W mem f xs ys acc = some bs →
    (∃ t, bs = acc ++ t) ∧ Met W mem bs acc.length bs.length ∧ (∀ m m0 : Nat → Loc, (∀ i b, bs[i]? = some b → m0 i = m b) → xs.map (rv m0) = ys.map (rv m)) ∧ belowC bs.length xs = true
  | 0, xs, ys, acc, bs, h => by simp [mCells] at h
  | f + 1, [], ys, acc, bs, h => by
    unfold mCells at h
    split at h
    · simp only [Option.some.injEq] at h
      subst h
      exact ⟨⟨[], by simp⟩, fun i b hi hn hb => by omega, fun _ _ _ => rfl, rfl⟩
    · simp at h
  | f + 1, x :: r, ys, acc, bs, h => by
    unfold mCells at h
    split at h
    · simp at h
    · rename_i y s
      split at h
      · rename_i b0 o n e
        split at h
        · rename_i b o' n' e'
          split at h
          · rename_i hq
            simp only [Bool.and_eq_true] at hq
            obtain ⟨⟨⟨q1, q2⟩, q3⟩, q4⟩ := hq
            have q1 := Nat.eq_of_beq_eq_true q1
            have q2 := Nat.eq_of_beq_eq_true q2
            have q3 := Nat.eq_of_beq_eq_true q3
            have q4 := Nat.eq_of_beq_eq_true q4
            subst q1 q2 q3 q4
            split at h
            · rename_i c0 hc0
              split at h
              · rename_i c hc
                split at h
                · rename_i acc1 hin
                  rw [lget_eq] at hc0
                  obtain ⟨⟨t1, rfl⟩, i2, i3, i4⟩ := mCells_spec f hin
                  obtain ⟨⟨t, rfl⟩, h2, h3, h4⟩ := mCells_spec f h
                  have hat : (acc ++ [b] ++ t1 ++ t)[acc.length]? = some b := pre_get (pre_get (by simp))
                  have hlen : acc.length < (acc ++ [b] ++ t1 ++ t).length := by simp
                  refine ⟨⟨b :: t1 ++ t, by simp⟩, ?_, ?_, ?_⟩
                  · intro i b' hi hn hb'
                    by_cases hia : i = acc.length
                    · subst hia
                      rw [hat] at hb'
                      simp only [Option.some.injEq] at hb'
                      subst hb'
                      exact ⟨c0, c, hc0, hc, fun m m0 hm => i3 m m0 fun i b hi => hm i b (pre_get hi), belowC_mono (by simp) c0 i4⟩
                    · by_cases hi1 : i < (acc ++ [b] ++ t1).length
                      · exact Met.mono i2 t i b' (by simp; omega) hi1 hb'
                      · exact h2 i b' (by omega) hn hb'
                  · intro m m0 hm
                    rw [List.map_cons, List.map_cons, h3 m m0 hm]
                    congr 1
                    simp only [rv, hm _ _ hat]
                  · have h1 : oneB (.sl acc.length o n e) = true := rfl
                    have h5 : below (acc ++ [b] ++ t1 ++ t).length (.sl acc.length o n e) = true := by
                      simp only [below, blt_eq, decide_eq_true_eq]
                      exact hlen
                    simp only [belowC, h1, h5, h4, Bool.and_self]
                · simp at h
              · simp at h
            · simp at h
          · simp at h
        · simp at h
      · rename_i b0 o
        split at h
        · rename_i b o'
          split at h
          · rename_i hq
            simp only [Bool.and_eq_true] at hq
            obtain ⟨q1, q2⟩ := hq
            have q1 := Nat.eq_of_beq_eq_true q1
            have q2 := Nat.eq_of_beq_eq_true q2
            subst q1 q2
            split at h
            · rename_i c0 hc0
              split at h
              · rename_i c hc
                split at h
                · rename_i acc1 hin
                  rw [lget_eq] at hc0
                  obtain ⟨⟨t1, rfl⟩, i2, i3, i4⟩ := mCells_spec f hin
                  obtain ⟨⟨t, rfl⟩, h2, h3, h4⟩ := mCells_spec f h
                  have hat : (acc ++ [b] ++ t1 ++ t)[acc.length]? = some b := pre_get (pre_get (by simp))
                  have hlen : acc.length < (acc ++ [b] ++ t1 ++ t).length := by simp
                  refine ⟨⟨b :: t1 ++ t, by simp⟩, ?_, ?_, ?_⟩
                  · intro i b' hi hn hb'
                    by_cases hia : i = acc.length
                    · subst hia
                      rw [hat] at hb'
                      simp only [Option.some.injEq] at hb'
                      subst hb'
                      exact ⟨c0, c, hc0, hc, fun m m0 hm => i3 m m0 fun i b hi => hm i b (pre_get hi), belowC_mono (by simp) c0 i4⟩
                    · by_cases hi1 : i < (acc ++ [b] ++ t1).length
                      · exact Met.mono i2 t i b' (by simp; omega) hi1 hb'
                      · exact h2 i b' (by omega) hn hb'
                  · intro m m0 hm
                    rw [List.map_cons, List.map_cons, h3 m m0 hm]
                    congr 1
                    simp only [rv, hm _ _ hat]
                  · have h1 : oneB (.ptr acc.length o) = true := rfl
                    have h5 : below (acc ++ [b] ++ t1 ++ t).length (.ptr acc.length o) = true := by
                      simp only [below, blt_eq, decide_eq_true_eq]
                      exact hlen
                    simp only [belowC, h1, h5, h4, Bool.and_self]
                · simp at h
              · simp at h
            · simp at h
          · simp at h
        · simp at h
      · split at h
        · rename_i hs
          obtain ⟨v, e1, e2, e3⟩ := sameCellN_v hs
          subst e1 e2
          obtain ⟨h1, h2, h3, h4⟩ := mCells_spec f h
          refine ⟨h1, h2, fun m m0 hm => ?_, ?_⟩
          · rw [List.map_cons, List.map_cons, h3 m m0 hm]
            rfl
          · have hb : below bs.length (.v v) = true := by cases v <;> first | rfl | simp [oneV] at e3
            have ho : oneB (.v v) = true := e3
            simp only [belowC, ho, hb, h4, Bool.and_self]
        · simp at h

theorem mArgs_spec {W : RW} {mem : List (List RV)} : ∀ {xs ys : List RV} {acc bs : List Nat}, mArgs W mem xs ys acc = some bs →
    (∃ t, bs = acc ++ t) ∧ Met W mem bs acc.length bs.length ∧ (∀ m m0 : Nat → Loc, (∀ i b, bs[i]? = some b → m0 i = m b) → xs.map (rv m0) = ys.map (rv m)) ∧ belowL bs.length xs = true
  | [], ys, acc, bs, h => by
    unfold mArgs at h
    split at h
    · simp only [Option.some.injEq] at h
      subst h
      exact ⟨⟨[], by simp⟩, fun i b hi hn hb => by omega, fun _ _ _ => rfl, rfl⟩
    · simp at h
  | x :: r, ys, acc, bs, h => by
    unfold mArgs at h
    split at h
    · simp at h
    · rename_i y s
      have step : ∀ {xs1 ys1 : List RV} {acc1 : List Nat}, mCells W mem 10000 xs1 ys1 acc = some acc1 → mArgs W mem r s acc1 = some bs →
          (∀ m m0 : Nat → Loc, xs1.map (rv m0) = ys1.map (rv m) → rv m0 x = rv m y) → (belowC acc1.length xs1 = true → below acc1.length x = true) →
          (∃ t, bs = acc ++ t) ∧ Met W mem bs acc.length bs.length ∧ (∀ m m0 : Nat → Loc, (∀ i b, bs[i]? = some b → m0 i = m b) → (x :: r).map (rv m0) = (y :: s).map (rv m)) ∧ belowL bs.length (x :: r) = true := by
        intro xs1 ys1 acc1 hc ha hv hb
        obtain ⟨⟨t1, rfl⟩, c2, c3, c4⟩ := mCells_spec 10000 hc
        obtain ⟨⟨t2, rfl⟩, a2, a3, a4⟩ := mArgs_spec ha
        refine ⟨⟨t1 ++ t2, by simp⟩, ?_, ?_, ?_⟩
        · intro i b hi hn hb'
          by_cases hia : i < (acc ++ t1).length
          · exact Met.mono c2 t2 i b hi hia hb'
          · exact a2 i b (by omega) hn hb'
        · intro m m0 hm
          have h1 := c3 m m0 fun i b hi => hm i b (pre_get hi)
          rw [List.map_cons, List.map_cons, hv m m0 h1, a3 m m0 hm]
        · have h1 := below_mono (k := (acc ++ t1 ++ t2).length) (by simp only [List.length_append]; omega) x (hb c4)
          show (below _ x && belowL _ r) = true
          rw [h1, a4]
          rfl
      split at h
      · rename_i cs
        split at h
        · rename_i ds
          split at h
          · rename_i acc1 hc
            exact step hc h (fun m m0 he => by simp only [rv, rvL_eq, he]) (fun hb => by simpa [below] using hb)
          · simp at h
        · simp at h
      · split at h
        · rename_i acc1 hc
          exact step hc h (fun m m0 he => by simpa using he) (fun hb => by
            simp only [belowC, Bool.and_true, Bool.and_eq_true] at hb
            exact hb.2)
        · simp at h

def MemoM.Ok (P : Program) (e : MemoM) : Prop := (∃ W1, @CallOk (plainEnv []) P e.g e.args (memW e.mem) e.x W1) ∧ below 0 e.x = true ∧ ∃ fn, P.funcs[e.g]? = some fn ∧ fn.body.isSome = true

theorem memW_get {l : List (List RV)} {b : Nat} {o : RObj} (h : (memW l).get b = some o) : ∃ c, l[b]? = some c ∧ o = .cells c .ro := by
  unfold memW RW.get at h
  simp only [blt_eq, decide_eq_true_eq, lget_eq] at h
  split at h
  · rename_i hb
    rw [List.getElem?_reverse (by rw [List.length_map]; omega)] at h
    simp only [List.length_map, List.getElem?_map] at h
    rw [show l.length - 1 - (l.length - 1 - b) = b by omega] at h
    cases ht : l[b]? with
    | none => rw [ht] at h; simp at h
    | some t =>
      rw [ht] at h
      simp only [Option.map_some, Option.some.injEq] at h
      exact ⟨t, rfl, h.symm⟩
  · simp at h

theorem memoM_lift {e2 : Env} {P : Program} {e : MemoM} (h : e.Ok P) {args : List RV} {W : RW} {bs : List Nat} (hm : mArgs W e.mem e.args args [] = some bs) (hl : bs.length = e.mem.length) : @CallOk e2 P e.g args W e.x W := by
  obtain ⟨⟨W1, hc⟩, hx, _⟩ := h
  obtain ⟨_, hmet, hargs, hbel⟩ := mArgs_spec hm
  intro m w cs hr hb
  let m0 : Nat → Loc := fun i => match bs[i]? with
    | some b => m b
    | none => ⟨0, 0, 0⟩
  have hm0 : ∀ i b, bs[i]? = some b → m0 i = m b := fun i b hi => by simp only [m0, hi]
  have hr0 : @Rel (plainEnv []) m0 (memW e.mem) w := by
    refine @Rel.mk (plainEnv []) _ _ _ (by simp [RW.wf, memW]) ?_ ?_ ?_ ?_
    · intro i o hi
      obtain ⟨c, hci, rfl⟩ := memW_get hi
      have hil := (List.getElem?_eq_some_iff.1 hci).1
      have hbi : bs[i]? = some (bs[i]'(by omega)) := List.getElem?_eq_getElem (by omega)
      obtain ⟨c0, c', h1, h2, h3, _⟩ := hmet i _ (Nat.zero_le _) (by omega) hbi
      rw [hci] at h1
      simp only [Option.some.injEq] at h1
      subst h1
      obtain ⟨k, hk⟩ := cellsAt_spec h2
      rw [hm0 i _ hbi]
      have h3 := h3 m m0 hm0
      have hlen : c.length = c'.length := by simpa using congrArg List.length h3
      obtain ⟨arr, ty, fz, q1, q2, q3, q4, q5, _⟩ := hr.obj _ _ hk
      refine ⟨arr, ty, fz, q1, fun j x hj => ?_, fun hh => absurd rfl hh, by rw [hlen]; exact q4, q5, fun hh => by simp at hh, trivial⟩
      have hjl := (List.getElem?_eq_some_iff.1 hj).1
      have hj' : c'[j]? = some (c'[j]'(by omega)) := List.getElem?_eq_getElem (by omega)
      rw [q2 j _ hj']
      have := congrArg (·[j]?) h3
      simp only [List.getElem?_map, hj, hj', Option.map_some, Option.some.injEq] at this
      rw [this]
    · intro i o hi
      obtain ⟨c, hci, rfl⟩ := memW_get hi
      have hil := (List.getElem?_eq_some_iff.1 hci).1
      have hbi : bs[i]? = some (bs[i]'(by omega)) := List.getElem?_eq_getElem (by omega)
      obtain ⟨c0, c', h1, _, _, h4⟩ := hmet i _ (Nat.zero_le _) (by omega) hbi
      rw [hci] at h1
      simp only [Option.some.injEq] at h1
      subst h1
      show belowC e.mem.length c = true
      rw [← hl]
      exact h4
    · intro a b x y ha _ hx
      obtain ⟨c, _, rfl⟩ := memW_get ha
      simp [RObj.own] at hx
    · intro i g hi
      have hi' : ([] : List Nat)[i]? = some g := hi
      simp at hi'
  obtain ⟨m', w', fr, st, hlv, hf, hr', hp, hx'⟩ := hc m0 w cs hr0 (by
    show belowL e.mem.length e.args = true
    rw [← hl]
    exact hbel)
  have hst := hp.toStill fun b o hb => by
    obtain ⟨c, _, rfl⟩ := memW_get hb
    rfl
  have hv : rv m' e.x = rv m e.x := by
    have h1 : rv m' e.x = rv m0 e.x := rv_agree (n := 0) (fun b hb => absurd hb (Nat.not_lt_zero b)) e.x hx
    have h2 : rv m e.x = rv m0 e.x := rv_agree (n := 0) (fun b hb => absurd hb (Nat.not_lt_zero b)) e.x hx
    rw [h1, h2]
  rw [hv] at hlv
  rw [hargs m m0 hm0] at st
  exact ⟨m, w', fr, st, hlv, hf, @Rel.still e2 m W w w' hr hst, (Post.refl m W w).still hst, below_mono (Nat.zero_le _) _ hx⟩

@[reducible] noncomputable def memoMEnv (ids gs fs : List Nat) (l : List MemoM) : Env := ⟨ids, memoMRun fs l, fun g => gs.any fun k => Nat.beq k g⟩

theorem noOwn_memoM {P : Program} (h : Named P) (ids gs fs : List Nat) {l : List MemoM} (hl : ∀ e ∈ l, e.Ok P) : @NoOwn (memoMEnv ids gs fs l) P := by
  refine @NoOwn.mk (memoMEnv ids gs fs l) P h ?_
  intro g args W x W' hx0
  have key : ∀ (k : Nat) (l' : List MemoM), (∀ e ∈ l', e.Ok P) → memoMFind l' k g args W = some (x, W') → @CallOk (memoMEnv ids gs fs l) P g args W x W' ∧ ∃ fn, P.funcs[g]? = some fn ∧ fn.body.isSome = true := by
    intro k l'
    induction l' with
    | nil => intro _ hx; simp [memoMFind] at hx
    | cons e r ih =>
      intro hl hx
      have ih := ih fun q hq => hl q (List.mem_cons_of_mem _ hq)
      unfold memoMFind at hx
      split at hx
      · rename_i hg
        simp only [Bool.and_eq_true] at hg
        have h1 := Nat.eq_of_beq_eq_true hg.2
        subst h1
        split at hx
        · rename_i bs hm
          split at hx
          · rename_i hn
            simp only [Option.some.injEq, Prod.mk.injEq] at hx
            obtain ⟨rfl, rfl⟩ := hx
            exact ⟨memoM_lift (hl e List.mem_cons_self) hm (Nat.eq_of_beq_eq_true hn), (hl e List.mem_cons_self).2.2⟩
          · exact ih hx
        · exact ih hx
      · exact ih hx
  have hx1 : memoMRun fs l g args W = some (x, W') := hx0
  unfold memoMRun at hx1
  split at hx1
  · rw [fnat_eq] at hx1
    exact key _ l hl hx1
  · simp at hx1

/-- a run becomes known -/
theorem memoM_of {P : Program} {e : Env} (he : e.ids = []) (hN : @NoOwn e P) (n : Nat) {m : MemoM} (h : (@callF e P (@evR e P n) m.g m.args (memW m.mem)).map (·.1) = some m.x) (hx : below 0 m.x = true) : m.Ok P := by
  cases hc : @callF e P (@evR e P n) m.g m.args (memW m.mem) with
  | none => rw [hc] at h; simp at h
  | some q =>
    obtain ⟨y, W1⟩ := q
    rw [hc] at h
    simp only [Option.map_some, Option.some.injEq] at h
    subst h
    obtain ⟨h1, h2⟩ := @callF_ok e P _ hN (@ev_ok e P hN n) _ _ _ _ _ hc
    exact ⟨⟨W1, @conv_ok e (plainEnv []) he P _ _ _ _ _ h1⟩, hx, h2⟩
end
end Go.Rv
