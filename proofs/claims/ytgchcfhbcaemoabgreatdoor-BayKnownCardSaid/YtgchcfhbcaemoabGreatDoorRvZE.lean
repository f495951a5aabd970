/- Runs that are known over tables (package variables that nobody writes). -/
import Derived.Test.YtgchcfhbcaemoabGreatDoorRvZD
namespace Go.Rv
open Go
noncomputable section

/-- the tables as lists: held against those of memory like the rows of arguments -/
def tabSl : Nat → List (List RV) → List RV
  | _, [] => []
  | i, c :: r => .sl i 0 c.length 1 :: tabSl (i + 1) r

/-- the first of these blocks are the first ones of memory -/
def stays (bs : List Nat) : Nat → Bool
  | 0 => true
  | k + 1 => (match lget bs k with
    | some b => Nat.beq b k
    | none => false) && stays bs k

def MemoM.OkT (ids : List Nat) (T : List (List RV)) (P : Program) (e : MemoM) : Prop :=
  (∃ W1, @CallOk (plainEnv ids) P e.g e.args (memW (T ++ e.mem)) e.x W1) ∧ below 0 e.x = true ∧ ∃ fn, P.funcs[e.g]? = some fn ∧ fn.body.isSome = true

def memoTFind (T : List (List RV)) (l : List MemoM) (k : Nat) (g : FuncId) (args : List RV) (W : RW) : Option (RV × RW) := match l with
  | [] => none
  | e :: r => match Nat.beq e.key k && Nat.beq e.g g with
    | true => match mArgs W (T ++ e.mem) (tabSl 0 T ++ e.args) (tabSl 0 T ++ args) [] with
      | some bs => match Nat.beq bs.length (T ++ e.mem).length && stays bs T.length with
        | true => some (e.x, W)
        | false => memoTFind T r k g args W
      | none => memoTFind T r k g args W
    | false => memoTFind T r k g args W

def memoTRun (T : List (List RV)) (fs : List FuncId) (l : List MemoM) (g : FuncId) (args : List RV) (W : RW) : Option (RV × RW) := match fs.any (fun k => Nat.beq k g) with
  | true => fnat (hashA args 0) fun k => memoTFind T l k g args W
  | false => none
end

section
theorem stays_get {bs : List Nat} : ∀ {k : Nat}, stays bs k = true → ∀ i, i < k → bs[i]? = some i
  | 0, _, i, hi => absurd hi (Nat.not_lt_zero i)
  | k + 1, h, i, hi => by
    simp only [stays, Bool.and_eq_true, lget_eq] at h
    by_cases e : i = k
    · subst e
      have h1 := h.1
      cases hb : bs[i]? with
      | none => rw [hb] at h1; simp at h1
      | some b => rw [hb] at h1; exact congrArg some (Nat.eq_of_beq_eq_true h1)
    · exact stays_get h.2 i (by omega)

theorem tabSl_len : ∀ (i : Nat) (T : List (List RV)), (tabSl i T).length = T.length
  | _, [] => rfl
  | i, _ :: r => by simp [tabSl, tabSl_len (i + 1) r]

theorem belowL_right {n : Nat} : ∀ (a : List RV) {b : List RV}, belowL n (a ++ b) = true → belowL n b = true
  | [], _, h => h
  | x :: r, b, h => by
    simp only [List.cons_append, belowL, Bool.and_eq_true] at h
    exact belowL_right r h.2

theorem memoT_lift {ids : List Nat} {T : List (List RV)} {e2 : Env} (hid : e2.ids = ids) (hk : ids.length ≤ T.length) {P : Program} {e : MemoM} (h : e.OkT ids T P) {args : List RV} {W : RW} {bs : List Nat}
    (hm : mArgs W (T ++ e.mem) (tabSl 0 T ++ e.args) (tabSl 0 T ++ args) [] = some bs) (hs : stays bs T.length = true) (hl : bs.length = (T ++ e.mem).length) : @CallOk e2 P e.g args W e.x W := by
  obtain ⟨⟨W1, hc⟩, hx, _⟩ := h
  obtain ⟨_, hmet, hargs, hbel⟩ := mArgs_spec hm
  intro m w cs hr hb
  let m0 : Nat → Loc := fun i => match bs[i]? with
    | some b => m b
    | none => ⟨0, 0, 0⟩
  have hm0 : ∀ i b, bs[i]? = some b → m0 i = m b := fun i b hi => by simp only [m0, hi]
  have hr1 : @Rel (plainEnv []) m0 (memW (T ++ e.mem)) w := memW_rel hr hmet hl hm0
  have hr0 : @Rel (plainEnv ids) m0 (memW (T ++ e.mem)) w := by
    refine @Rel.mk (plainEnv ids) _ _ _ (@Rel.wf (plainEnv []) _ _ _ hr1) (@Rel.obj (plainEnv []) _ _ _ hr1) (@Rel.lt (plainEnv []) _ _ _ hr1) (@Rel.inj (plainEnv []) _ _ _ hr1) ?_
    intro i g hi
    have hi1 : ids[i]? = some g := hi
    have hil := (List.getElem?_eq_some_iff.1 hi1).1
    have hbi := stays_get hs i (by omega)
    obtain ⟨_, h2⟩ := hr.glb i g (by rw [hid]; exact hi1)
    rw [hm0 i i hbi]
    refine ⟨?_, h2⟩
    show i < (T ++ e.mem).length
    rw [List.length_append]
    omega
  obtain ⟨m', w', fr, st, hlv, hf, hr', hp, hx'⟩ := hc m0 w cs hr0 (by
    show belowL (T ++ e.mem).length e.args = true
    rw [← hl]
    exact belowL_right _ hbel)
  have hst := hp.toStill fun b o hb => by
    obtain ⟨c, _, rfl⟩ := memW_get hb
    rfl
  have hv : rv m' e.x = rv m e.x := by
    have h1 : rv m' e.x = rv m0 e.x := rv_agree (n := 0) (fun b hb => absurd hb (Nat.not_lt_zero b)) e.x hx
    have h2 : rv m e.x = rv m0 e.x := rv_agree (n := 0) (fun b hb => absurd hb (Nat.not_lt_zero b)) e.x hx
    rw [h1, h2]
  rw [hv] at hlv
  have ha := hargs m m0 hm0
  rw [List.map_append, List.map_append] at ha
  rw [List.append_inj_right ha (by simp)] at st
  exact ⟨m, w', fr, st, hlv, hf, @Rel.still e2 m W w w' hr hst, (Post.refl m W w).still hst, below_mono (Nat.zero_le _) _ hx⟩

@[reducible] noncomputable def memoTEnv (ids gs fs : List Nat) (n : Nat) (l : List (List MemoM)) (fsT : List Nat) (T : List (List RV)) (lT : List MemoM) : Env :=
  ⟨ids, fun g args W => match memoBRun fs n l g args W with
    | some r => some r
    | none => memoTRun T fsT lT g args W, fun g => gs.any fun k => Nat.beq k g⟩

theorem noOwn_memoT {P : Program} (h : Named P) (ids gs fs : List Nat) (n : Nat) {l : List (List MemoM)} (hl : ∀ b ∈ l, ∀ e ∈ b, e.Ok P) (fsT : List Nat) {T : List (List RV)} (hk : ids.length ≤ T.length) {lT : List MemoM} (hT : ∀ e ∈ lT, e.OkT ids T P) :
    @NoOwn (memoTEnv ids gs fs n l fsT T lT) P := by
  refine @NoOwn.mk (memoTEnv ids gs fs n l fsT T lT) P h ?_
  intro g args W x W' hx0
  have key : ∀ (k : Nat) (l' : List MemoM), (∀ e ∈ l', e.OkT ids T P) → memoTFind T l' k g args W = some (x, W') → @CallOk (memoTEnv ids gs fs n l fsT T lT) P g args W x W' ∧ ∃ fn, P.funcs[g]? = some fn ∧ fn.body.isSome = true := by
    intro k l'
    induction l' with
    | nil => intro _ hx; simp [memoTFind] at hx
    | cons e r ih =>
      intro hl hx
      have ih := ih fun q hq => hl q (List.mem_cons_of_mem _ hq)
      unfold memoTFind at hx
      split at hx
      · rename_i hg
        simp only [Bool.and_eq_true] at hg
        have h1 := Nat.eq_of_beq_eq_true hg.2
        subst h1
        split at hx
        · rename_i bs hm
          split at hx
          · rename_i hn
            simp only [Bool.and_eq_true] at hn
            simp only [Option.some.injEq, Prod.mk.injEq] at hx
            obtain ⟨rfl, rfl⟩ := hx
            exact ⟨memoT_lift rfl hk (hl e List.mem_cons_self) hm hn.2 (Nat.eq_of_beq_eq_true hn.1), (hl e List.mem_cons_self).2.2⟩
          · exact ih hx
        · exact ih hx
      · exact ih hx
  have hx1 : (match memoBRun fs n l g args W with
    | some r => some r
    | none => memoTRun T fsT lT g args W) = some (x, W') := hx0
  split at hx1
  · rename_i r hr
    simp only [Option.some.injEq] at hx1
    subst hx1
    obtain ⟨h1, h2⟩ := @NoOwn.ext (memoBEnv ids gs fs n l) P (noOwn_memoB h ids gs fs n hl) g args W x W' hr
    exact ⟨@conv_ok (memoBEnv ids gs fs n l) (memoTEnv ids gs fs n l fsT T lT) rfl P g args W W' x h1, h2⟩
  · unfold memoTRun at hx1
    split at hx1
    · rw [fnat_eq] at hx1
      exact key _ lT hT hx1
    · simp at hx1

/-- what is known over tables, beside what is known already -/
@[reducible] noncomputable def plusT (e : Env) (fsT : List Nat) (T : List (List RV)) (lT : List MemoM) : Env :=
  ⟨e.ids, fun g args W => match @Env.ext e g args W with
    | some r => some r
    | none => memoTRun T fsT lT g args W, @Env.gc e⟩

theorem noOwn_plusT {P : Program} {e : Env} (h : @NoOwn e P) (fsT : List Nat) {T : List (List RV)} (hk : e.ids.length ≤ T.length) {lT : List MemoM} (hT : ∀ m ∈ lT, m.OkT e.ids T P) : @NoOwn (plusT e fsT T lT) P := by
  refine @NoOwn.mk (plusT e fsT T lT) P (@NoOwn.name e P h) ?_
  intro g args W x W' hx0
  have key : ∀ (k : Nat) (l' : List MemoM), (∀ m ∈ l', m.OkT e.ids T P) → memoTFind T l' k g args W = some (x, W') → @CallOk (plusT e fsT T lT) P g args W x W' ∧ ∃ fn, P.funcs[g]? = some fn ∧ fn.body.isSome = true := by
    intro k l'
    induction l' with
    | nil => intro _ hx; simp [memoTFind] at hx
    | cons q r ih =>
      intro hl hx
      have ih := ih fun q hq => hl q (List.mem_cons_of_mem _ hq)
      unfold memoTFind at hx
      split at hx
      · rename_i hg
        simp only [Bool.and_eq_true] at hg
        have h1 := Nat.eq_of_beq_eq_true hg.2
        subst h1
        split at hx
        · rename_i bs hm
          split at hx
          · rename_i hn
            simp only [Bool.and_eq_true] at hn
            simp only [Option.some.injEq, Prod.mk.injEq] at hx
            obtain ⟨rfl, rfl⟩ := hx
            exact ⟨@conv_ok e (plusT e fsT T lT) rfl P _ _ _ _ _ (memoT_lift rfl hk (hl q List.mem_cons_self) hm hn.2 (Nat.eq_of_beq_eq_true hn.1)), (hl q List.mem_cons_self).2.2⟩
          · exact ih hx
        · exact ih hx
      · exact ih hx
  have hx1 : (match @Env.ext e g args W with
    | some r => some r
    | none => memoTRun T fsT lT g args W) = some (x, W') := hx0
  split at hx1
  · rename_i r hr
    simp only [Option.some.injEq] at hx1
    subst hx1
    obtain ⟨h1, h2⟩ := @NoOwn.ext e P h g args W x W' hr
    exact ⟨@conv_ok e (plusT e fsT T lT) rfl P g args W W' x h1, h2⟩
  · unfold memoTRun at hx1
    split at hx1
    · rw [fnat_eq] at hx1
      exact key _ lT hT hx1
    · simp at hx1

/-- a run over tables becomes known -/
theorem memoT_of {P : Program} {ids : List Nat} {T : List (List RV)} {e : Env} (he : e.ids = ids) (hN : @NoOwn e P) (n : Nat) {m : MemoM} (h : (@callF e P (@evR e P n) m.g m.args (memW (T ++ m.mem))).map (·.1) = some m.x) (hx : below 0 m.x = true) : m.OkT ids T P := by
  cases hc : @callF e P (@evR e P n) m.g m.args (memW (T ++ m.mem)) with
  | none => rw [hc] at h; simp at h
  | some q =>
    obtain ⟨y, W1⟩ := q
    rw [hc] at h
    simp only [Option.map_some, Option.some.injEq] at h
    subst h
    obtain ⟨h1, h2⟩ := @callF_ok e P _ hN (@ev_ok e P hN n) _ _ _ _ _ hc
    exact ⟨⟨W1, @conv_ok e (plainEnv ids) he P _ _ _ _ _ h1⟩, hx, h2⟩
end
end Go.Rv
