/- Operations in any order: whatever writes memory is in order with what looks there. -/
import Derived.Test.YtgchcfhbcaemoabGreatDoorRvX
namespace Go.Rv
open Go
variable [Env]

/-- names alone -/
def blank (k : Nat) : RW := ⟨k, List.replicate k .dead⟩

omit [Env] in
theorem blank_get {k b : Nat} {o : RObj} (h : (blank k).get b = some o) : o = .dead := by
  unfold blank RW.get at h
  split at h
  · rw [lget_eq] at h
    have := List.mem_of_getElem? h
    exact List.eq_of_mem_replicate this
  · simp at h

/-- the names that an operation may give -/
def madeA (F : Nat → Bool) (n n' : Nat) (b : Nat) : Bool := F b || (Nat.ble n b && Nat.blt b n')

/-- memory as an operation sees it -/
structure ViewA (n0 : Nat) (M : RW) (D F : Nat → Bool) (V : RW) : Prop where
  wf : V.wf
  n : V.n = M.n
  get : ∀ b o, V.get b = some o → o = .dead ∨ (F b = true ∧ ∃ o1, M.get b = some o1 ∧ (o = o1.toRo ∨ (o = o1 ∧ D b = true))) ∨ (b < n0 ∧ M.get b = some o)

/-- an operation in its turn in the text: D: the blocks that it writes or makes; F: those that it looks at -/
structure AStep (n0 : Nat) (P : Program) (ev : Ev) (t t' : RT) (M M' : RW) (D F N : Nat → Bool) (o : Oper) (r : ROper) (x : RV) : Prop where
  n : t'.n = t.n
  dn : ∀ d, o.dst = some d → d < t.n
  get : ∀ d, t'.get d = if o.dst = some d then x else t.get d
  wf : M'.wf
  mono : M.n ≤ M'.n
  fl : ∀ b, F b = true → b < M.n
  keep : ∀ b, D b = false → M'.get b = M.get b
  below : below M'.n x = true
  names : namesB (madeA N M.n M'.n) x = true
  objs : ∀ b o, D b = true → M'.get b = some o → newB M'.n (madeA N M.n M'.n) o = true
  owns : ∀ b o, D b = true → M'.get b = some o → o.live = true → o.own = true
  base : ∀ b, b < n0 → D b = false
  kind : (wantedR t r.guard = false ∧ x = ud ∧ M' = M ∧ ∀ b, D b = false) ∨
    (wantedR t r.guard = true ∧ ∃ V V', ViewA n0 M D F V ∧ effR P ev (r.op t V) V = some (x, V') ∧ V'.n = M'.n ∧ (∀ b o, D b = true → M'.get b = some o → o = .dead ∨ V'.get b = some o) ∧ ∀ b o, b < n0 → V.get b = some o → V'.get b = some o)

structure Any (n0 : Nat) (P : Program) (ev : Ev) (ops : Array Oper) (k : Nat) (t : Nat → RT) (M : Nat → RW) (D F N : Nat → Nat → Bool) : Prop where
  le : k ≤ ops.size
  step : ∀ i, i < k → ∃ o r x, ops[i]? = some o ∧ OpOk P ops o r ∧ AStep n0 P ev (t i) (t (i + 1)) (M i) (M (i + 1)) (D i) (F i) (N i) o r x
  apart : ∀ i j oi oj, i < k → j < k → i ≠ j → ops[i]? = some oi → ops[j]? = some oj → ∀ d, oi.dst = some d → oj.dst ≠ some d ∧ (d ∈ looks ops oj → (bitsOf ops j).testBit i = true ∨ (bitsOf ops i).testBit j = true)
  conflict : ∀ i j b, i < k → j < k → i ≠ j → D i b = true → (D j b = true ∨ F j b = true) → (bitsOf ops j).testBit i = true ∨ (bitsOf ops i).testBit j = true
  known : ∀ i j b, i < k → j < k → N j b = true → (M i).n ≤ b → b < (M (i + 1)).n → (bitsOf ops j).testBit i = true

noncomputable def Mg (M : RW) (b : Nat) : RObj := (M.get b).getD .dead

/-- a block when some have come -/
noncomputable def cont (M : Nat → RW) (D : Nat → Nat → Bool) (S : Array Bool) : Nat → Nat → RObj
  | 0, b => Mg (M 0) b
  | j + 1, b => if S.getD j false && D j b then Mg (M (j + 1)) b else cont M D S j b

def fnRW (N : Nat) (f : Nat → RObj) : RW := ⟨N, (List.range N).reverse.map f⟩

omit [Env] in
theorem fnRW_get (N : Nat) (f : Nat → RObj) (b : Nat) : (fnRW N f).get b = if b < N then some (f b) else none := by
  unfold fnRW RW.get
  simp only [blt_eq, lget_eq]
  by_cases h : b < N
  · simp only [h, decide_true, if_true, List.getElem?_map]
    rw [List.getElem?_reverse (by rw [List.length_range]; omega), List.length_range, List.getElem?_range (by omega)]
    simp only [Option.map_some]
    congr 2
    omega
  · simp [h]

omit [Env] in
theorem fnRW_wf (N : Nat) (f : Nat → RObj) : (fnRW N f).wf := by simp [RW.wf, fnRW]

omit [Env] in
theorem get_wf {W : RW} (h : W.wf) {b : Nat} (hb : b < W.n) : ∃ o, W.get b = some o := by
  unfold RW.get
  simp only [blt_eq, hb, decide_true, if_true, lget_eq]
  unfold RW.wf at h
  exact ⟨_, List.getElem?_eq_getElem (by omega)⟩

omit [Env] in
theorem get_ge' {W : RW} {b : Nat} (hb : W.n ≤ b) : W.get b = none := by
  cases h : W.get b with
  | none => rfl
  | some o => exact absurd (get_lt h) (by omega)

section
variable {n0 : Nat} {P : Program} {ev : Ev} {ops : Array Oper} {k : Nat} {t : Nat → RT} {M : Nat → RW} {D F N : Nat → Nat → Bool}

omit [Env] in
theorem cont_cases (S : Array Bool) : ∀ (k b : Nat), cont M D S k b = Mg (M 0) b ∨ ∃ j, j < k ∧ S.getD j false = true ∧ D j b = true ∧ cont M D S k b = Mg (M (j + 1)) b
  | 0, b => .inl rfl
  | k + 1, b => by
    unfold cont
    split
    · rename_i h
      rw [Bool.and_eq_true] at h
      exact .inr ⟨k, by omega, h.1, h.2, rfl⟩
    · rcases cont_cases S k b with h | ⟨j, h1, h2, h3, h4⟩
      · exact .inl h
      · exact .inr ⟨j, by omega, h2, h3, h4⟩

theorem Any.keepM (h : Any n0 P ev ops k t M D F N) {j b : Nat} (hj : j < k) (hd : D j b = false) : Mg (M (j + 1)) b = Mg (M j) b := by
  obtain ⟨o, r, x, _, _, st⟩ := h.step j hj
  unfold Mg
  rw [st.keep b hd]

/-- all that write it have come up to a place -/
theorem Any.cont_all (h : Any n0 P ev ops k t M D F N) (S : Array Bool) {b : Nat} : ∀ (j : Nat), j ≤ k → (∀ l, l < j → D l b = true → S.getD l false = true) → cont M D S j b = Mg (M j) b
  | 0, _, _ => rfl
  | j + 1, hj, hall => by
    have ih := h.cont_all S j (by omega) fun l h1 h2 => hall l (by omega) h2
    unfold cont
    cases hd : D j b with
    | true => rw [hall j (by omega) hd]; rfl
    | false =>
      rw [Bool.and_false]
      simp only [Bool.false_eq_true, if_false]
      rw [ih, h.keepM (by omega) hd]

omit [Env] in
/-- none that writes it has come from a place on -/
theorem cont_none (S : Array Bool) {i b : Nat} : ∀ (n : Nat), (∀ l, i ≤ l → l < i + n → D l b = true → S.getD l false = false) → cont M D S (i + n) b = cont M D S i b
  | 0, _ => rfl
  | n + 1, hno => by
    have ih := cont_none S (i := i) (b := b) n fun l h1 h2 => hno l h1 (by omega)
    show cont M D S (i + n + 1) b = _
    rw [← ih]
    conv => lhs; unfold cont
    cases hd : D (i + n) b with
    | true => rw [hno (i + n) (by omega) (by omega) hd]; rfl
    | false => simp

theorem Any.baseM (h : Any n0 P ev ops k t M D F N) {b : Nat} (hb : b < n0) : ∀ j, j ≤ k → Mg (M j) b = Mg (M 0) b
  | 0, _ => rfl
  | j + 1, hj => by
    obtain ⟨o, r, x, _, _, st⟩ := h.step j (by omega)
    rw [h.keepM (by omega) (st.base b hb), h.baseM hb j (by omega)]

theorem Any.baseC (h : Any n0 P ev ops k t M D F N) {b : Nat} (hb : b < n0) (S : Array Bool) : cont M D S k b = Mg (M 0) b := by
  rcases cont_cases (M := M) (D := D) S k b with h1 | ⟨j, h1, _, h3, _⟩
  · exact h1
  · obtain ⟨o, r, x, _, _, st⟩ := h.step j h1
    rw [st.base b hb] at h3
    simp at h3

theorem Any.mono (h : Any n0 P ev ops k t M D F N) {i : Nat} : ∀ (n : Nat), i + n ≤ k → (M i).n ≤ (M (i + n)).n
  | 0, _ => Nat.le_refl _
  | n + 1, hn => by
    obtain ⟨o, r, x, _, _, st⟩ := h.step (i + n) (by omega)
    exact Nat.le_trans (h.mono n (by omega)) st.mono

theorem Any.mono_le (h : Any n0 P ev ops k t M D F N) {i j : Nat} (hij : i ≤ j) (hj : j ≤ k) : (M i).n ≤ (M j).n := by
  have := h.mono (i := i) (j - i) (by omega)
  rwa [show i + (j - i) = j by omega] at this

theorem Any.same (h : Any n0 P ev ops k t M D F N) {i d : Nat} : ∀ (n : Nat), i + n ≤ k → (∀ j o, i ≤ j → j < i + n → ops[j]? = some o → o.dst ≠ some d) → (t (i + n)).get d = (t i).get d
  | 0, _, _ => rfl
  | n + 1, hn, hd => by
    obtain ⟨o, r, x, ho, _, st⟩ := h.step (i + n) (by omega)
    show (t (i + n + 1)).get d = _
    rw [st.get, if_neg (hd (i + n) o (by omega) (by omega) ho)]
    exact h.same n (by omega) fun j o h1 h2 => hd j o h1 (by omega)

theorem Any.num (h : Any n0 P ev ops k t M D F N) : ∀ (j : Nat), j ≤ k → (t j).n = (t 0).n
  | 0, _ => rfl
  | j + 1, hj => by
    obtain ⟨o, r, x, _, _, st⟩ := h.step j (by omega)
    rw [st.n]
    exact h.num j (by omega)

theorem Any.lows (h : Any n0 P ev ops k t M D F N) (h0 : tlt (M 0).n (t 0)) : ∀ (j : Nat), j ≤ k → tlt (M j).n (t j)
  | 0, _ => h0
  | j + 1, hj => by
    obtain ⟨o, r, x, _, _, st⟩ := h.step j (by omega)
    have ih := h.lows h0 j (by omega)
    intro d
    rw [st.get]
    split
    · exact st.below
    · exact below_mono st.mono _ (ih d)

theorem Any.kept (h : Any n0 P ev ops k t M D F N) {i j d : Nat} {o : Oper} (hi : i < j) (hj : j ≤ k) (ho : ops[i]? = some o) (hd : o.dst = some d) : (t j).get d = (t (i + 1)).get d := by
  have := h.same (i := i + 1) (d := d) (j - (i + 1)) (by omega) (fun l ol h1 h2 hl => (h.apart i l o ol (by omega) (by omega) (by omega) ho hl d hd).1)
  rwa [show i + 1 + (j - (i + 1)) = j by omega] at this

theorem Any.first (h : Any n0 P ev ops k t M D F N) {j d : Nat} (hj : j ≤ k) (hd : ∀ l o, l < j → ops[l]? = some o → o.dst ≠ some d) : (t j).get d = (t 0).get d := by
  have := h.same (i := 0) (d := d) j (by omega) (fun l o _ h2 => hd l o (by omega))
  rwa [Nat.zero_add] at this

/-- objects are of names below -/
theorem Any.lt (h : Any n0 P ev ops k t M D F N) (h0 : ∀ b o, (M 0).get b = some o → o.lt (M 0).n) : ∀ (j : Nat), j ≤ k → ∀ b o, (M j).get b = some o → o.lt (M j).n
  | 0, _ => h0
  | j + 1, hj => by
    obtain ⟨op, r, x, _, _, st⟩ := h.step j (by omega)
    intro b o hb
    cases hd : D j b with
    | true => exact newB_lt (st.objs b o hd hb)
    | false =>
      rw [st.keep b hd] at hb
      exact RObj.lt_mono st.mono (h.lt h0 j (by omega) b o hb)

theorem Any.wf (h : Any n0 P ev ops k t M D F N) (h0 : (M 0).wf) : ∀ (j : Nat), j ≤ k → (M j).wf
  | 0, _ => h0
  | j + 1, hj => by
    obtain ⟨op, r, x, _, _, st⟩ := h.step j (by omega)
    exact st.wf

theorem Any.new (h : Any n0 P ev ops k t M D F N) {i b : Nat} (hi : i < k) (h1 : (M i).n ≤ b) (h2 : b < (M (i + 1)).n) : D i b = true := by
  obtain ⟨op, r, x, _, _, st⟩ := h.step i hi
  cases hd : D i b with
  | true => rfl
  | false =>
    have := st.keep b hd
    obtain ⟨o, ho⟩ := get_wf st.wf h2
    rw [ho, get_ge' h1] at this
    simp at this

/-- an operation at a frame, its temporaries as the text has them -/
theorem eff_any (hev : EvOk P ev) (hN : NoOwn P) {o : Oper} {r : ROper} (hok : OpOk P ops o r) {t : RT} {W W' : RW} {x : RV} (h : effR P ev (r.op t W) W = some (x, W'))
    {m : Nat → Loc} {w : World} {fr : Frame} {cs : List Frame} {i : Nat} {rest : List Nat} {k : List Item} {arr : Array Value} (hr : Rel m W w) (hl : tlt W.n t) (htr : TR m t arr) (hm : fr.mode = .run)
    (hexec : execOp (evV arr) o = execOp (evV fr.tmps) o)
    (ht : fr.todo = .inRegion ops (i :: rest) :: k) (ho : ops[i]? = some o) (hw : Region.wanted o (yielded ops fr.tmps) = true) :
    ∃ m' w', Steps P (lone fr cs w) (lone (fr.finish (rv m' x)) cs w') ∧ Rel m' W' w' ∧ Post m W w m' W' w' ∧ below W'.n x = true := by
  have hd := noDefer hok.op
  unfold effR at h
  cases he : r.op t W with
  | none => rw [he] at h; simp at h
  | some e =>
    rw [he] at h
    have heff := decOp_ok (w := w) ⟨htr, hl, hr⟩ hok.op he
    rw [hexec] at heff
    cases e with
    | val y =>
      simp only [Option.some.injEq, Prod.mk.injEq] at h
      obtain ⟨rfl, rfl⟩ := h
      obtain ⟨h1, nx, h2, h3⟩ := heff
      exact ⟨m, w, step_op hm ht ho hw hd h2 h3, hr, Post.refl _ _ _, h1⟩
    | alloc ob mk =>
      simp only [fnat_eq, pushF_eq, Option.some.injEq, Prod.mk.injEq] at h
      obtain ⟨rfl, rfl⟩ := h
      obtain ⟨h1, robj, cap, nx, h2, h3⟩ := heff
      obtain ⟨h4, h5, h6⟩ := h3 (upd m W.n ⟨w.heap.size, 0, cap⟩) W.n (agree_upd _ _ _) (by simp [upd])
      obtain ⟨h7, h8⟩ := hr.push (l := ⟨w.heap.size, 0, cap⟩) rfl h5 (RObj.lt_mono (Nat.le_succ _) h1)
      exact ⟨_, _, step_op hm ht ho hw hd h2 h4, h7, h8, h6⟩
    | wr y W2 =>
      simp only [Option.some.injEq, Prod.mk.injEq] at h
      obtain ⟨rfl, rfl⟩ := h
      obtain ⟨m', w', nx, h1, h2, h3, h4, h5⟩ := heff
      exact ⟨m', w', step_op hm ht ho hw hd h1 h2, h3, h4, h5⟩
    | call f args =>
      obtain ⟨h1, h2, h3⟩ := heff
      obtain ⟨m', w', hcr, hr', hp', hx'⟩ := callV_ok hev hN h hr h1 h2 fr cs
      refine ⟨m', w', ?_, hr', hp', hx'⟩
      rcases hcr with ⟨g, as, hrun, hst⟩ | ⟨l, f', tm, a, b, hrun, hst⟩
      · exact (step_enter hm ht ho hw hd (by rw [h3]; exact hrun)).trans hst
      · exact (step_round hm ht ho hw hd (by rw [h3]; exact hrun)).trans hst

/-- what is known when some have come -/
structure AInv (ops : Array Oper) (k : Nat) (t : Nat → RT) (M : Nat → RW) (D : Nat → Nat → Bool) (m0 : Nat → Loc) (w : World) (S : Array Bool) (m : Nat → Loc) (w' : World) (arr : Array Value) : Prop where
  rel : Rel m (fnRW (M k).n (cont M D S k)) w'
  size : arr.size = (t 0).n
  wrote : ∀ j o d, j < k → S.getD j false = true → ops[j]? = some o → o.dst = some d → arr.getD d undef = rv m ((t k).get d)
  same : ∀ d, (∀ j o, j < k → S.getD j false = true → ops[j]? = some o → o.dst ≠ some d) → arr.getD d undef = rv m ((t 0).get d)
  post : Post m0 (M 0) w m (fnRW (M k).n (cont M D S k)) w'

variable {m0 : Nat → Loc} {w : World}

omit [Env] in
theorem Post.view {m m1 : Nat → Loc} {W W1 W2 : RW} {w w1 : World} (h : Post m W w m1 W1 w1) (hn : W.n ≤ W2.n) (ho : ∀ b o, W2.get b = some o → o.own = true → W1.get b = some o) : Post m W w m1 W2 w1 :=
  ⟨h.ag, hn, h.size, h.keep, fun b o hb hown => h.own b o (ho b o hb hown) hown, h.os, h.tape, h.output⟩

theorem Any.step_ok (hev : EvOk P ev) (hN : NoOwn P) (hE : Edges ops) (h : Any n0 P ev ops k t M D F N) (hr0 : Rel m0 (M 0) w) (h0 : tlt (M 0).n (t 0))
    {listed : Array Bool} {m : Nat → Loc} {w' : World} {fr : Frame} (inv : AInv ops k t M D m0 w listed m w' fr.tmps)
    {i : Nat} {o : Oper} (hi : i < k) (ho : ops[i]? = some o) (hun : listed.getD i true = false) (hl : ∀ e ∈ o.after, Region.binds .any e = true → listed.getD e.on false = true)
    (hc : Closed ops listed) (hs : listed.size = ops.size) {cs : List Frame} {rest : List Nat} {K : List Item} (hm : fr.mode = .run) (htd : fr.todo = .inRegion ops (i :: rest) :: K) :
    ∃ m' w'' arr', Steps P (lone fr cs w') (lone { fr with tmps := arr', todo := .inRegion ops rest :: K } cs w'') ∧ AInv ops k t M D m0 w (listed.setIfInBounds i true) m' w'' arr' := by
  have hi' : i < ops.size := (Array.getElem?_eq_some_iff.1 ho).1
  obtain ⟨o', r, x, ho', hok, st⟩ := h.step i hi
  have : o' = o := Option.some.inj (ho'.symm.trans ho)
  subst this
  have hik : i ≤ k := Nat.le_of_lt hi
  have hoff := off_both hun
  have hb : ∀ j, (bitsOf ops i).testBit j = true → listed.getD j false = true := closed_before hE hc i _ ho hl
  have hnT : ∀ j, j ≤ k → (t j).n = (t 0).n := h.num
  have hnN : (M (i + 1)).n ≤ (M k).n := h.mono_le hi (Nat.le_refl _)
  have hnM : (M i).n ≤ (M (i + 1)).n := st.mono
  have hset : ∀ j, (listed.setIfInBounds i true).getD j false = true ↔ (j = i ∨ listed.getD j false = true) := by
    intro j
    by_cases hij : i = j
    · subst hij
      simp [hs, hi']
    · rw [getD_set_ne false hij]
      constructor
      · exact .inr
      · rintro (h1 | h1)
        · exact absurd h1.symm hij
        · exact h1
  -- who writes what it looks at, or writes, is in order with it
  have hord : ∀ b, (D i b = true ∨ F i b = true) → ∀ l, l < k → l ≠ i → D l b = true → (l < i → listed.getD l false = true) ∧ (i < l → listed.getD l false = false) := by
    intro b hib l hlk hli hd
    rcases h.conflict l i b hlk hi hli hd hib with h1 | h1
    · refine ⟨fun _ => hb l h1, fun h2 => ?_⟩
      have := before_lt hE i l h1
      omega
    · have h2 := before_lt hE l i h1
      refine ⟨fun h3 => by omega, fun _ => ?_⟩
      cases hll : listed.getD l false with
      | false => rfl
      | true =>
        have := closed_bits hE hc hll h1
        rw [hoff] at this
        simp at this
  have hnow : ∀ b, (D i b = true ∨ F i b = true) → cont M D listed k b = Mg (M i) b := by
    intro b hib
    have h1 := cont_none (M := M) (D := D) listed (i := i) (b := b) (k - i) (fun l h1 h2 h3 => by
      by_cases hli : l = i
      · subst hli; exact hoff
      · exact (hord b hib l (by omega) hli h3).2 (by omega))
    rw [show i + (k - i) = k by omega] at h1
    rw [h1]
    exact h.cont_all listed i hik fun l h2 h3 => (hord b hib l (by omega) (by omega) h3).1 h2
  have hthen : ∀ b, D i b = true → cont M D (listed.setIfInBounds i true) k b = Mg (M (i + 1)) b := by
    intro b hib
    have h1 := cont_none (M := M) (D := D) (listed.setIfInBounds i true) (i := i + 1) (b := b) (k - (i + 1)) (fun l h1 h2 h3 => by
      rw [getD_set_ne false (by omega)]
      exact (hord b (.inl hib) l (by omega) (by omega) h3).2 (by omega))
    rw [show i + 1 + (k - (i + 1)) = k by omega] at h1
    rw [h1]
    exact h.cont_all _ (i + 1) hi fun l h2 h3 => by
      rw [hset]
      by_cases hli : l = i
      · exact .inl hli
      · exact .inr ((hord b (.inl hib) l (by omega) hli h3).1 (by omega))
  have hstay : ∀ b, D i b = false → cont M D (listed.setIfInBounds i true) k b = cont M D listed k b := by
    intro b hib
    have key : ∀ k, cont M D (listed.setIfInBounds i true) k b = cont M D listed k b := by
      intro k
      induction k with
      | zero => rfl
      | succ k ih =>
        unfold cont
        rw [ih]
        by_cases hki : i = k
        · subst hki
          simp [hib]
        · rw [getD_set_ne false hki]
    exact key _
  -- names that others know are none of its new ones
  have havoid : ∀ j, j < k → listed.getD j false = true → ∀ b, madeA (N j) (M j).n (M (j + 1)).n b = true → ¬ ((M i).n ≤ b ∧ b < (M (i + 1)).n) := by
    rintro j hj hlj b hmade ⟨h1, h2⟩
    have hji : j ≠ i := by
      rintro rfl
      rw [hoff] at hlj; simp at hlj
    have hdi := h.new hi h1 h2
    obtain ⟨oj, rj, xj, _, _, stj⟩ := h.step j hj
    unfold madeA at hmade
    rw [Bool.or_eq_true, Bool.and_eq_true] at hmade
    rcases hmade with hf | ⟨h3, h4⟩
    · have := closed_bits hE hc hlj (h.known i j b hi hj hf h1 h2)
      rw [hoff] at this; simp at this
    · have h3 := Nat.le_of_ble_eq_true h3
      rw [blt_eq, decide_eq_true_eq] at h4
      rcases Nat.lt_or_ge j i with h5 | h5
      · have := h.mono_le (show j + 1 ≤ i by omega) hik
        omega
      · have := h.mono_le (show i + 1 ≤ j by omega) (Nat.le_of_lt hj)
        omega
  -- temporaries as the text has them
  have hlate : ∀ d, (t 0).n ≤ d → ∀ j oj, j < k → ops[j]? = some oj → oj.dst ≠ some d := by
    intro d hd j oj hj hoj he
    obtain ⟨o2, r2, x2, ho2, _, st2⟩ := h.step j hj
    have : o2 = oj := Option.some.inj (ho2.symm.trans hoj)
    subst this
    have := st2.dn d he
    rw [hnT j (Nat.le_of_lt hj)] at this
    exact Nat.not_lt.2 hd this
  have htr : TR m (t i) ((List.range (t 0).n).map fun d => rv m ((t i).get d)).toArray := by
    refine ⟨by simp [hnT i hik], fun d => ?_⟩
    rw [Array.getD_eq_getD_getElem?]
    by_cases hd : d < (t 0).n
    · simp [hd]
    · rw [Array.getElem?_eq_none (by simpa using hd), h.first hik fun l ol hll hol => hlate d (by omega) l ol (by omega) hol]
      rw [← inv.same d fun j oj hj _ hoj => hlate d (by omega) j oj hj hoj]
      rw [Array.getD_eq_getD_getElem?, Array.getElem?_eq_none (by rw [inv.size]; omega)]
  have hlt : tlt (M i).n (t i) := h.lows h0 i hik
  have hlook : ∀ d, d ∈ looks ops o' → (((List.range (t 0).n).map fun d => rv m ((t i).get d)).toArray).getD d undef = fr.tmps.getD d undef := by
    intro d hd
    rw [htr.get]
    by_cases hw : ∃ j oj, j < k ∧ j ≠ i ∧ ops[j]? = some oj ∧ oj.dst = some d
    · obtain ⟨j, oj, hj, hji, hoj, hdj⟩ := hw
      rcases (h.apart j i oj _ hj hi hji hoj ho d hdj).2 hd with hbit | hbit
      · have hlj := hb j hbit
        have hjlt := before_lt hE i j hbit
        rw [inv.wrote j oj d hj hlj hoj hdj, h.kept hjlt hik hoj hdj, h.kept hj (Nat.le_refl _) hoj hdj]
      · have hilt := before_lt hE j i hbit
        have hlj : listed.getD j false = false := by
          cases hx : listed.getD j false with
          | false => rfl
          | true =>
            have := closed_bits hE hc hx hbit
            rw [hoff] at this
            simp at this
        rw [h.first hik fun l ol hll hol hld => (h.apart j l oj ol hj (by omega) (by omega) hoj hol d hdj).1 hld]
        refine (inv.same d fun l ol hl hll hol hld => ?_).symm
        by_cases e : l = j
        · subst e
          rw [hlj] at hll
          simp at hll
        · exact (h.apart j l oj ol hj hl (Ne.symm e) hoj hol d hdj).1 hld
    · have hno : ∀ j oj, j < k → j ≠ i → ops[j]? = some oj → oj.dst ≠ some d := fun j oj hj hji hoj hdj => hw ⟨j, oj, hj, hji, hoj, hdj⟩
      rw [h.first hik fun l ol hll hol => hno l ol (by omega) (by omega) hol]
      refine (inv.same d fun j oj hj hlj hoj => hno j oj hj (fun e => ?_) hoj).symm
      subst e
      rw [hoff] at hlj
      simp at hlj
  have hexec : execOp (evV ((List.range (t 0).n).map fun d => rv m ((t i).get d)).toArray) o' = execOp (evV fr.tmps) o' := by
    refine execOp_congr o' (noSelect hok.op) fun y hy => ?_
    cases y with
    | tmp d => exact hlook d (List.mem_append_left _ (List.mem_filterMap.2 ⟨.tmp d, by simpa using hy, rfl⟩))
    | _ => rfl
  have hwant : Region.wanted o' (yielded ops fr.tmps) = wantedR (t i) r.guard := by
    rw [← wanted_ok hok htr]
    unfold Region.wanted
    cases hg : o'.guard with
    | none => rfl
    | some gw =>
      obtain ⟨g, want⟩ := gw
      simp only
      rw [yielded_congr (a := fr.tmps) (b := ((List.range (t 0).n).map fun d => rv m ((t i).get d)).toArray) (by rw [inv.size]; simp)]
      intro d hd
      refine (hlook d (List.mem_append_right _ ?_)).symm
      rw [hg]
      simp [hd]
  have hdn : ∀ d, o'.dst = some d → d < (t 0).n := fun d hd => by rw [← hnT i hik]; exact st.dn d hd
  -- what has run, with its memory
  have fin : ∀ (m2 : Nat → Loc) (w2 : World) (V V' : RW), ViewA n0 (M i) (D i) (F i) V → (∀ b o, b < n0 → V.get b = some o → V'.get b = some o) → Rel m V w' → Rel m2 V' w2 → Post m V w' m2 V' w2 → V'.n = (M (i + 1)).n →
      (∀ b ob, D i b = true → (M (i + 1)).get b = some ob → ob = .dead ∨ V'.get b = some ob) → Steps P (lone fr cs w') (lone (fr.finish (rv m2 x)) cs w2) →
      ∃ m' w'' arr', Steps P (lone fr cs w') (lone { fr with tmps := arr', todo := .inRegion ops rest :: K } cs w'') ∧ AInv ops k t M D m0 w (listed.setIfInBounds i true) m' w'' arr' := by
    intro m2 w2 V V' hV hst hrV hr2 hp2 hn2 hobj hsteps
    let m' : Nat → Loc := fun c => if (M i).n ≤ c ∧ c < (M (i + 1)).n then m2 c else m c
    have hm'new : ∀ c, (M i).n ≤ c → c < (M (i + 1)).n → m' c = m2 c := fun c h1 h2 => by
      show (if _ then _ else _) = _
      rw [if_pos ⟨h1, h2⟩]
    have hm'old : ∀ c, ¬ ((M i).n ≤ c ∧ c < (M (i + 1)).n) → m' c = m c := fun c h1 => by
      show (if _ then _ else _) = _
      rw [if_neg h1]
    have hm2 : ∀ c, c < (M (i + 1)).n → m' c = m2 c := by
      intro c hcl
      rcases Nat.lt_or_ge c (M i).n with h1 | h1
      · rw [hm'old c (by omega)]
        exact (hp2.ag c (by rw [hV.n]; exact h1)).symm
      · exact hm'new c h1 hcl
    have hxv : rv m' x = rv m2 x := rv_agree (n := (M (i + 1)).n) (fun b hbl => hm2 b hbl) x st.below
    rw [finish_region htd ho, ← hxv] at hsteps
    have hM0 : (M 0).n ≤ (M i).n := h.mono_le (Nat.zero_le _) hik
    -- values of others
    have hval : ∀ j, j < k → listed.getD j false = true → ∀ y, below (M (j + 1)).n y = true → namesB (madeA (N j) (M j).n (M (j + 1)).n) y = true → rv m' y = rv m y := by
      intro j hj hlj y hy1 hy2
      exact rv_names (n := (M (j + 1)).n) (fun b _ hbn => hm'old b (havoid j hj hlj b hbn)) y hy1 hy2
    have hold : ∀ y, below (M 0).n y = true → rv m' y = rv m y := fun y hy => rv_agree (n := (M 0).n) (fun b hbl => hm'old b (by omega)) y hy
    -- where it may write
    have hown : ∀ b ob, V.get b = some ob → ob.own = true → (D i b = true ∨ b < n0) ∧ cont M D listed k b = ob ∧ b < (M i).n := by
      intro b ob hg ho1
      rcases hV.get b ob hg with rfl | ⟨hf, o1, h1, h2 | ⟨h2, h3⟩⟩ | ⟨h2, h1⟩
      · simp [RObj.own] at ho1
      · subst h2
        have : o1.toRo.own = false := by cases o1 <;> rfl
        rw [this] at ho1; simp at ho1
      · subst h2
        refine ⟨.inl h3, ?_, get_lt h1⟩
        rw [hnow b (.inl h3)]
        simp [Mg, h1]
      · refine ⟨.inr h2, ?_, get_lt h1⟩
        rw [h.baseC h2, ← h.baseM h2 i hik]
        simp [Mg, h1]
    -- those that it may write alone, and no base
    have hvis : ∀ b, (∃ ob, V.get b = some ob ∧ ob.own = true ∧ b < n0) ∨ ∀ ob, V.get b = some ob → ob.own = true → D i b = true := by
      intro b
      by_cases hb0 : ∃ ob, V.get b = some ob ∧ ob.own = true ∧ b < n0
      · exact .inl hb0
      · refine .inr fun ob hg ho1 => ?_
        rcases (hown b ob hg ho1).1 with h1 | h1
        · exact h1
        · exact absurd ⟨ob, hg, ho1, h1⟩ hb0
    have hMS : ∀ b, b < (M k).n → (fnRW (M k).n (cont M D listed k)).get b = some (cont M D listed k b) := fun b hbl => by rw [fnRW_get, if_pos hbl]
    -- blocks that it does not write lie still
    have hstill : ∀ b, b < (M k).n → D i b = false → (∀ ob, V.get b = some ob → ob.own = true → D i b = true) → (cont M D listed k b).live = true → w2.heap[(m b).blk]? = w'.heap[(m b).blk]? := by
      intro b hbl hd hno hlv
      refine hp2.keep _ ((inv.rel.obj b _ (hMS b hbl)).lt_size hlv) fun c oc hg ho1 => ?_
      obtain ⟨h1, h2, h3⟩ := hown c oc hg ho1
      have hne : c ≠ b := by rintro rfl; rw [hno oc hg ho1] at hd; simp at hd
      exact inv.rel.inj c b oc _ (by rw [hMS c (by omega), h2]) (hMS b hbl) ho1 hlv hne
    -- each block now
    have hgetD : ∀ b ob, (fnRW (M k).n (cont M D (listed.setIfInBounds i true) k)).get b = some ob →
        (D i b = true ∧ b < (M (i + 1)).n ∧ (ob = .dead ∨ (V'.get b = some ob ∧ (M (i + 1)).get b = some ob))) ∨ (D i b = true ∧ ob = .dead) ∨ (D i b = false ∧ b < (M k).n ∧ cont M D listed k b = ob) := by
      intro b ob hg
      rw [fnRW_get] at hg
      split at hg
      · rename_i hbl
        simp only [Option.some.injEq] at hg
        cases hd : D i b with
        | true =>
          rw [hthen b hd] at hg
          unfold Mg at hg
          cases hmg : (M (i + 1)).get b with
          | none =>
            rw [hmg] at hg
            exact .inr (.inl ⟨rfl, hg.symm⟩)
          | some o1 =>
            rw [hmg] at hg
            simp only [Option.getD_some] at hg
            subst hg
            rcases hobj b o1 hd hmg with h1 | h1
            · exact .inl ⟨rfl, get_lt hmg, .inl h1⟩
            · exact .inl ⟨rfl, get_lt hmg, .inr ⟨h1, rfl⟩⟩
        | false =>
          rw [hstay b hd] at hg
          exact .inr (.inr ⟨rfl, hbl, hg⟩)
      · simp at hg
    have hrel' : Rel m' (fnRW (M k).n (cont M D (listed.setIfInBounds i true) k)) w2 := by
      refine ⟨fnRW_wf _ _, ?_, ?_, ?_, ?_⟩
      · intro b ob hg
        rcases hgetD b ob hg with ⟨h1, h2, rfl | ⟨h3, h4⟩⟩ | ⟨h1, rfl⟩ | ⟨h1, h2, h3⟩
        · trivial
        · rw [hm2 b h2]
          exact (hr2.obj b ob h3).agree (newB_lt (st.objs b ob h1 h4)) fun c hcl => hm2 c hcl
        · trivial
        · have hob := inv.rel.obj b _ (hMS b h2)
          rw [h3] at hob
          by_cases hlv : ob.live = true
          · rcases hvis b with ⟨ob3, v1, v2, v3⟩ | hno
            · have v4 := (hown b ob3 v1 v2).2.1
              rw [h3] at v4
              subst v4
              have hbn : b < (M (i + 1)).n := by
                have := (hown b ob v1 v2).2.2
                omega
              rw [hm2 b hbn]
              refine (hr2.obj b ob (hst b ob v3 v1)).agree (n := (M (i + 1)).n) ?_ fun c hcl => hm2 c hcl
              have := hr2.lt b ob (hst b ob v3 v1)
              rwa [hn2] at this
            have hob2 := hob.heap fun _ => hstill b h2 h1 hno (by rw [h3]; exact hlv)
            have hmb : m' b = m b := hm'old b fun ⟨h5, h6⟩ => by rw [h.new hi h5 h6] at h1; simp at h1
            rw [hmb]
            rcases cont_cases (M := M) (D := D) listed k b with h5 | ⟨j, h5, h6, h7, h8⟩
            · rw [h3] at h5
              unfold Mg at h5
              cases hm0 : (M 0).get b with
              | none => rw [hm0] at h5; simp only [Option.getD_none] at h5; subst h5; trivial
              | some o0 =>
                rw [hm0] at h5
                simp only [Option.getD_some] at h5
                subst h5
                exact hob2.agree (hr0.lt b ob hm0) fun c hcl => hm'old c (by omega)
            · rw [h3] at h8
              unfold Mg at h8
              cases hmj : (M (j + 1)).get b with
              | none => rw [hmj] at h8; simp only [Option.getD_none] at h8; subst h8; trivial
              | some o0 =>
                rw [hmj] at h8
                simp only [Option.getD_some] at h8
                subst h8
                obtain ⟨oj, rj, xj, _, _, stj⟩ := h.step j h5
                exact ORel.names (stj.objs b ob h7 hmj) hob2 fun c _ hcn => hm'old c (havoid j h5 h6 c hcn)
          · cases ob with
            | link lb lo lk la =>
              rcases cont_cases (M := M) (D := D) listed k b with h5 | ⟨j, h5, h6, h7, h8⟩
              · rw [h3] at h5
                unfold Mg at h5
                cases hm0 : (M 0).get b with
                | none => rw [hm0] at h5; simp at h5
                | some o0 =>
                  rw [hm0] at h5
                  simp only [Option.getD_some] at h5
                  subst h5
                  exact hob.agree (hr0.lt b _ hm0) fun c hcl => hm'old c (by omega)
              · rw [h3] at h8
                unfold Mg at h8
                cases hmj : (M (j + 1)).get b with
                | none => rw [hmj] at h8; simp at h8
                | some o0 =>
                  rw [hmj] at h8
                  simp only [Option.getD_some] at h8
                  subst h8
                  obtain ⟨oj, rj, xj, _, _, stj⟩ := h.step j h5
                  have := stj.objs b _ h7 hmj
                  simp [newB] at this
            | _ => simp_all [RObj.live, ORel]
      · intro b ob hg
        show ob.lt (M k).n
        rcases hgetD b ob hg with ⟨h1, h2, rfl | ⟨h3, h4⟩⟩ | ⟨h1, rfl⟩ | ⟨h1, h2, h3⟩
        · trivial
        · exact RObj.lt_mono hnN (newB_lt (st.objs b ob h1 h4))
        · trivial
        · have := inv.rel.lt b _ (hMS b h2)
          rw [h3] at this
          exact this
      · intro a b xa yb ha hbg hxo hyl hab
        rcases hgetD a xa ha with ⟨a1, a2, rfl | ⟨a3, a4⟩⟩ | ⟨a1, rfl⟩ | ⟨a1, a2, a3⟩
        · simp [RObj.own] at hxo
        · rw [hm2 a a2]
          rcases hgetD b yb hbg with ⟨b1, b2, rfl | ⟨b3, b4⟩⟩ | ⟨b1, rfl⟩ | ⟨b1, b2, b3⟩
          · simp [RObj.live] at hyl
          · rw [hm2 b b2]
            exact hr2.inj a b xa yb a3 b3 hxo hyl hab
          · simp [RObj.live] at hyl
          · rcases hvis b with ⟨ob3, v1, v2, v3⟩ | hno
            · have v4 := (hown b ob3 v1 v2).2.1
              rw [b3] at v4
              subst v4
              rw [hm2 b (by have := (hown b yb v1 v2).2.2; omega)]
              exact hr2.inj a b xa yb a3 (hst b yb v3 v1) hxo hyl hab
            have hmb : m' b = m b := hm'old b fun ⟨h5, h6⟩ => by rw [h.new hi h5 h6] at b1; simp at b1
            rw [hmb]
            have hsz := (inv.rel.obj b _ (hMS b b2)).lt_size (by rw [b3]; exact hyl)
            rcases hp2.own a xa a3 hxo with h5 | ⟨c, oc, h5, h6, h7⟩
            · omega
            · rw [← h7]
              obtain ⟨h8, h9, h10⟩ := hown c oc h5 h6
              have hne : c ≠ b := by rintro rfl; rw [hno oc h5 h6] at b1; simp at b1
              exact inv.rel.inj c b oc _ (by rw [hMS c (by omega), h9]) (hMS b b2) h6 (by rw [b3]; exact hyl) hne
        · simp [RObj.own] at hxo
        · have hma : m' a = m a := hm'old a fun ⟨h5, h6⟩ => by rw [h.new hi h5 h6] at a1; simp at a1
          rcases hgetD b yb hbg with ⟨b1, b2, rfl | ⟨b3, b4⟩⟩ | ⟨b1, rfl⟩ | ⟨b1, b2, b3⟩
          · simp [RObj.live] at hyl
          case inr.inl => simp [RObj.live] at hyl
          case inr.inr =>
            have hmb : m' b = m b := hm'old b fun ⟨h5, h6⟩ => by rw [h.new hi h5 h6] at b1; simp at b1
            rw [hma, hmb]
            exact inv.rel.inj a b _ _ (hMS a a2) (hMS b b2) (by rw [a3]; exact hxo) (by rw [b3]; exact hyl) hab
          rcases hvis a with ⟨oa3, v1, v2, v3⟩ | hno
          · have v4 := (hown a oa3 v1 v2).2.1
            rw [a3] at v4
            subst v4
            rw [hm2 a (by have := (hown a xa v1 v2).2.2; omega), hm2 b b2]
            exact hr2.inj a b xa yb (hst a xa v3 v1) b3 hxo hyl hab
          rw [hma]
          have hxo' : (cont M D listed k a).own = true := by rw [a3]; exact hxo
          have hsz := (inv.rel.obj a _ (hMS a a2)).lt_size (own_live hxo')
          rw [hm2 b b2]
          -- a live block that it wrote or made lies elsewhere
          rcases Nat.lt_or_ge b (M i).n with h5 | h5
          · have hcur := hnow b (.inl b1)
            have hb2 : m2 b = m b := hp2.ag b (by rw [hV.n]; exact h5)
            rw [hb2]
            by_cases hlvb : (cont M D listed k b).live = true
            · exact inv.rel.inj a b _ _ (hMS a a2) (hMS b (by omega)) hxo' hlvb hab
            · -- it was not known before
              intro hblk
              rcases Decidable.em (yb.own = true) with hyo | hyo
              · rcases hp2.own b yb b3 hyo with h6 | ⟨c, oc, h6, h7, h8⟩
                · rw [hb2] at h6; omega
                · obtain ⟨h9, h10, h11⟩ := hown c oc h6 h7
                  rw [hb2] at h8
                  have hne : c ≠ a := by rintro rfl; rw [hno oc h6 h7] at a1; simp at a1
                  exact inv.rel.inj a c _ oc (hMS a a2) (by rw [hMS c (by omega), h10]) hxo' (own_live h7) (Ne.symm hne) (hblk.trans h8.symm)
              · exact (hyo (st.owns b yb b1 b4 hyl)).elim
          · rcases Decidable.em (yb.own = true) with hyo | hyo
            · rcases hp2.own b yb b3 hyo with h6 | ⟨c, oc, h6, h7, h8⟩
              · omega
              · obtain ⟨h9, h10, h11⟩ := hown c oc h6 h7
                rw [← h8]
                have hne : c ≠ a := by rintro rfl; rw [hno oc h6 h7] at a1; simp at a1
                exact inv.rel.inj a c _ oc (hMS a a2) (by rw [hMS c (by omega), h10]) hxo' (own_live h7) (Ne.symm hne)
            · exact (hyo (st.owns b yb b1 b4 hyl)).elim
      · intro j g hj
        have h1 := hr0.glb j g hj
        have h2 := inv.rel.glb j g hj
        refine ⟨h2.1, ?_⟩
        rw [hm'old j (by omega)]
        exact h2.2
    have hpost' : Post m0 (M 0) w m' (fnRW (M k).n (cont M D (listed.setIfInBounds i true) k)) w2 := by
      have hp := inv.post
      refine ⟨fun b hbn => ?_, hp.mono, Nat.le_trans hp.size hp2.size, ?_, ?_, hp2.os.trans hp.os, hp2.tape.trans hp.tape, hp2.output.trans hp.output⟩
      · rw [hm'old b (by omega)]
        exact hp.ag b hbn
      · intro q hq hno
        rw [← hp.keep q hq hno]
        refine hp2.keep q (Nat.lt_of_lt_of_le hq hp.size) fun c oc hg ho1 => ?_
        obtain ⟨h8, h9, h10⟩ := hown c oc hg ho1
        intro hcq
        rcases hp.own c oc (by rw [hMS c (by omega), h9]) ho1 with h5 | ⟨a, xa, h5, h6, h7⟩
        · omega
        · exact hno a xa h5 h6 (h7.trans hcq)
      · intro b ob hg hbo
        rcases hgetD b ob hg with ⟨h1, h2, rfl | ⟨h3, h4⟩⟩ | ⟨h1, rfl⟩ | ⟨h1, h2, h3⟩
        · simp [RObj.own] at hbo
        · rw [hm2 b h2]
          rcases hp2.own b ob h3 hbo with h5 | ⟨c, oc, h5, h6, h7⟩
          · exact .inl (Nat.le_trans hp.size h5)
          · obtain ⟨h8, h9, h10⟩ := hown c oc h5 h6
            rcases hp.own c oc (by rw [hMS c (by omega), h9]) h6 with h11 | ⟨a, xa, h11, h12, h13⟩
            · exact .inl (by omega)
            · exact .inr ⟨a, xa, h11, h12, h13.trans h7⟩
        · simp [RObj.own] at hbo
        · have hmb : m' b = m b := hm'old b fun ⟨h5, h6⟩ => by rw [h.new hi h5 h6] at h1; simp at h1
          rw [hmb]
          exact hp.own b _ (hMS b h2) (by rw [h3]; exact hbo) |>.imp id id
    refine ⟨m', w2, _, hsteps, hrel', dstSet_size.trans inv.size, ?_, ?_, hpost'⟩
    · intro j oj d hj hlj hoj hd
      by_cases hij : i = j
      · subst hij
        have : oj = o' := Option.some.inj (hoj.symm.trans ho)
        subst this
        rw [hd, dstSet_new (by rw [inv.size]; exact hdn d hd), h.kept hi (Nat.le_refl _) ho hd, st.get, if_pos hd]
      · have hlj' : listed.getD j false = true := by
          rw [getD_set_ne false hij] at hlj; exact hlj
        rw [dstSet_same (h.apart j i oj _ hj hi (Ne.symm hij) hoj ho d hd).1, inv.wrote j oj d hj hlj' hoj hd]
        obtain ⟨oj2, r2, y, ho2, _, stj⟩ := h.step j hj
        have : oj2 = oj := Option.some.inj (ho2.symm.trans hoj)
        subst this
        have hy : (t k).get d = y := by
          rw [h.kept hj (Nat.le_refl _) hoj hd, stj.get, if_pos hd]
        rw [hy]
        exact (hval j hj hlj' y stj.below stj.names).symm
    · intro d hd
      have h1 : o'.dst ≠ some d := hd i _ hi (by rw [hset]; exact .inl rfl) ho
      rw [dstSet_same h1, inv.same d fun j oj hj hlj hoj => hd j oj hj (by rw [hset]; exact .inr hlj) hoj]
      exact (hold _ (h0 d)).symm
  rcases st.kind with ⟨h1, h2, h3, h9⟩ | ⟨h1, V, V', hV, heff, hVn, hobj, hbase⟩
  · -- it is not wanted
    have hVw : ViewA n0 (M i) (D i) (F i) ⟨(M i).n, List.replicate (M i).n .dead⟩ := by
      refine ⟨by simp [RW.wf], rfl, fun b ob hb => .inl (blank_get hb)⟩
    have hrV : Rel m ⟨(M i).n, List.replicate (M i).n .dead⟩ w' := inv.rel.less (by simp [RW.wf]) (fun b ob hb => .inl (blank_get hb)) (fun b ob hb => by rw [blank_get hb]; trivial) (fun j g hj => by
      have := (hr0.glb j g hj).1
      have := h.mono_le (Nat.zero_le i) hik
      show j < (M i).n
      omega)
    refine fin m w' _ _ hVw (fun _ _ _ h => h) hrV hrV (Post.refl _ _ _) (by rw [h3]) ?_ ?_
    · intro b ob hd hg
      rw [h9 b] at hd
      simp at hd
    · rw [h2]
      exact step_op_skip' hm htd ho (by rw [hwant, h1])
  · have hrV : Rel m V w' := by
      refine inv.rel.less hV.wf ?_ ?_ ?_
      · intro b ob hb
        rcases hV.get b ob hb with h5 | ⟨hf, o1, h5, h6⟩ | ⟨h6, h5⟩
        · exact .inl h5
        rotate_left
        · refine .inr ⟨ob, ?_, .inr rfl⟩
          rw [fnRW_get, if_pos (by have := get_lt h5; omega), h.baseC h6, ← h.baseM h6 i hik]
          simp [Mg, h5]
        · refine .inr ⟨o1, ?_, h6.imp id And.left⟩
          rw [fnRW_get, if_pos (by have := get_lt h5; omega), hnow b (.inr hf)]
          simp [Mg, h5]
      · intro b ob hb
        rw [hV.n]
        rcases hV.get b ob hb with rfl | ⟨hf, o1, h5, h6 | ⟨h6, _⟩⟩ | ⟨_, h5⟩
        · trivial
        rotate_left 2
        · exact h.lt hr0.lt i hik b ob h5
        · rw [h6]
          exact toRo_lt (h.lt hr0.lt i hik b o1 h5)
        · rw [h6]
          exact h.lt hr0.lt i hik b o1 h5
      · intro j g hj
        have h5 := (hr0.glb j g hj).1
        have h6 := h.mono_le (Nat.zero_le i) hik
        rw [hV.n]
        omega
    obtain ⟨m2, w2, hst2, hr2, hp2, _⟩ := eff_any hev hN hok heff hrV (by rw [hV.n]; exact hlt) htr hm hexec htd ho (by rw [hwant, h1])
    exact fin m2 w2 V V' hV hbase hrV hr2 hp2 hVn hobj hst2


theorem Any.all (hev : EvOk P ev) (hN : NoOwn P) (hE : Edges ops) (hk : k = planTail (Region.before ops).toList ops.size) (h : Any n0 P ev ops k t M D F N) (hr0 : Rel m0 (M 0) w) (h0 : tlt (M 0).n (t 0)) (cs : List Frame) (K : List Item) :
    ∀ (fuel tp : Nat) (listed : Array Bool) (m : Nat → Loc) (w' : World) (fr : Frame), unl listed ops.size ≤ fuel → AInv ops k t M D m0 w listed m w' fr.tmps → Closed ops listed → listed.size = ops.size →
      (∀ i, k ≤ i → i < ops.size → listed.getD i true = false) → fr.mode = .run → fr.todo = .inRegion ops (Region.linearise.go .any ops fuel tp listed []) :: K →
      ∃ m' w'' arr' listed', Steps P (lone fr cs w') (lone { fr with tmps := arr', todo := .inRegion ops (List.range' k (ops.size - k)) :: K } cs w'') ∧ (∀ i, i < k → listed'.getD i false = true) ∧ AInv ops k t M D m0 w listed' m' w'' arr' := by
  intro fuel
  have hle := h.le
  induction fuel with
  | zero =>
    intro tp listed m w' fr hf inv hc hs ht hm htd
    have hall : ∀ i, i < k → listed.getD i false = true := by
      intro i hi
      rcases hb : listed.getD i false with _ | _
      · have := unl_pos (off_in (by omega) hb) ops.size (by omega)
        omega
      · rfl
    have hgo := go_tail hE hk (ops.size - k) k listed 0 tp rfl (Nat.le_refl _) hle hs hc hall ht (by
      have := unl_ge ops.size ht
      omega)
    rw [hgo] at htd
    exact ⟨m, w', fr.tmps, listed, todo_same htd, hall, inv⟩
  | succ fuel ih =>
    intro tp listed m w' fr hf inv hc hs ht hm htd
    by_cases hall : ∀ i, i < k → listed.getD i false = true
    · have hgo := go_tail hE hk (ops.size - k) k listed (fuel + 1) tp rfl (Nat.le_refl _) hle hs hc hall ht (by
        have := unl_ge ops.size ht
        omega)
      rw [hgo] at htd
      exact ⟨m, w', fr.tmps, listed, todo_same htd, hall, inv⟩
    · simp only [Classical.not_forall] at hall
      obtain ⟨j, hj, hoff⟩ := hall
      have hoff' : listed.getD j false = false := by simpa using hoff
      obtain ⟨i, o, t', ho, hun, hl, hgo⟩ := go_take hE hs (show j < ops.size by omega) (off_in (by omega) hoff') fuel tp
      rw [hgo] at htd
      have hin : i < ops.size := (Array.getElem?_eq_some_iff.1 ho).1
      have hi : i < k := by
        rcases Nat.lt_or_ge i k with h1 | h1
        · exact h1
        · have hb := tail_bits (ops := ops) (by omega) hin (show j < i by omega)
          rw [closed_before hE hc i o ho hl j hb] at hoff'
          simp at hoff'
      obtain ⟨m1, w1, arr1, st1, inv1⟩ := h.step_ok hev hN hE hr0 h0 inv hi ho hun hl hc hs (cs := cs) hm htd
      obtain ⟨m2, w2, arr2, listed2, st2, hall2, inv2⟩ := ih t' (listed.setIfInBounds i true) m1 w1 { fr with tmps := arr1, todo := .inRegion ops (Region.linearise.go .any ops fuel t' (listed.setIfInBounds i true) []) :: K } (by
        have := unl_set (by omega) hun ops.size hin
        omega) inv1 (hc.set ho hl) (by simp [hs]) (fun l h1 h2 => by rw [getD_set_ne true (by omega)]; exact ht l h1 h2) hm rfl
      exact ⟨m2, w2, arr2, listed2, st1.trans st2, hall2, inv2⟩

/-- the first operations of a region, in any order -/
theorem Any.first_ok (hev : EvOk P ev) (hN : NoOwn P) (hE : Edges ops) (hk : k = planTail (Region.before ops).toList ops.size) (h : Any n0 P ev ops k t M D F N)
    {m : Nat → Loc} {fr : Frame} {cs : List Frame} {K : List Item} {tp : Nat} (hr : Rel m (M 0) w) (hl : tlt (M 0).n (t 0)) (htr : TR m (t 0) fr.tmps) (hm : fr.mode = .run)
    (htd : fr.todo = .inRegion ops (Region.linearise.go .any ops ops.size tp (Array.replicate ops.size false) []) :: K) :
    ∃ m' w' tm, Steps P (lone fr cs w) (lone { fr with tmps := tm, todo := .inRegion ops (List.range' k (ops.size - k)) :: K } cs w') ∧ Rel m' (M k) w' ∧ Post m (M 0) w m' (M k) w' ∧ tlt (M k).n (t k) ∧ TR m' (t k) tm := by
  have hoff : ∀ i, (Array.replicate ops.size false).getD i false = false := fun i => by
    rcases Nat.lt_or_ge i ops.size with h | h
    · simp [h]
    · simp [h]
  have hc0 : ∀ b, cont M D (Array.replicate ops.size false) k b = Mg (M 0) b := by
    intro b
    rcases cont_cases (M := M) (D := D) (Array.replicate ops.size false) k b with h1 | ⟨j, h1, h2, _⟩
    · exact h1
    · rw [hoff] at h2; simp at h2
  have hle0 : (M 0).n ≤ (M k).n := h.mono_le (Nat.zero_le _) (Nat.le_refl _)
  have hget0 : ∀ b o, (fnRW (M k).n (cont M D (Array.replicate ops.size false) k)).get b = some o → (M 0).get b = some o ∨ o = .dead := by
    intro b o hb
    rw [fnRW_get] at hb
    split at hb
    · rw [hc0] at hb
      simp only [Option.some.injEq] at hb
      unfold Mg at hb
      cases hm0 : (M 0).get b with
      | none => rw [hm0] at hb; exact .inr hb.symm
      | some o0 => rw [hm0] at hb; simp only [Option.getD_some] at hb; exact .inl (by rw [hb])
    · simp at hb
  have hrel0 : Rel m (fnRW (M k).n (cont M D (Array.replicate ops.size false) k)) w := by
    refine hr.less (fnRW_wf _ _) ?_ ?_ ?_
    · intro b o hb
      rcases hget0 b o hb with h1 | h1
      · exact .inr ⟨o, h1, .inr rfl⟩
      · exact .inl h1
    · intro b o hb
      show o.lt (M k).n
      rcases hget0 b o hb with h1 | rfl
      · exact RObj.lt_mono hle0 (hr.lt b o h1)
      · trivial
    · intro i g hi
      show i < (M k).n
      have h1 : i < (M 0).n := (hr.glb i g hi).1
      omega
  have inv0 : AInv ops k t M D m w (Array.replicate ops.size false) m w fr.tmps := by
    refine ⟨hrel0, htr.size, fun j o d _ hlj _ _ => ?_, fun d _ => htr.get d, ⟨fun _ _ => rfl, hle0, Nat.le_refl _, fun _ _ _ => rfl, ?_, rfl, rfl, rfl⟩⟩
    · rw [hoff] at hlj; simp at hlj
    · intro b o hb ho
      rcases hget0 b o hb with h1 | rfl
      · exact .inr ⟨b, o, h1, ho, rfl⟩
      · simp [RObj.own] at ho
  obtain ⟨m1, w1, arr1, listed1, st2, hall1, inv1⟩ := h.all hev hN hE hk hr hl cs K ops.size tp (Array.replicate ops.size false) m w fr (unl_le _ _) inv0
    (fun j oj _ hlj => by rw [hoff] at hlj; simp at hlj) (by simp) (fun i _ hi => by simp [hi]) hm htd
  have hwfn := h.wf hr.wf k (Nat.le_refl _)
  have hcn : ∀ b, cont M D listed1 k b = Mg (M k) b := fun b => h.cont_all listed1 k (Nat.le_refl _) fun l hl1 _ => hall1 l hl1
  have hgetn : ∀ b o, (M k).get b = some o → (fnRW (M k).n (cont M D listed1 k)).get b = some o := by
    intro b o hb
    rw [fnRW_get, if_pos (get_lt hb), hcn]
    simp [Mg, hb]
  have hltn := h.lt hr.lt k (Nat.le_refl _)
  have hreln : Rel m1 (M k) w1 := inv1.rel.less hwfn (fun b o hb => .inr ⟨o, hgetn b o hb, .inr rfl⟩) hltn (fun i g hi => (inv1.rel.glb i g hi).1)
  have hpn : Post m (M 0) w m1 (M k) w1 := inv1.post.view hle0 fun b o hb _ => hgetn b o hb
  have htn : TR m1 (t k) arr1 := by
    refine ⟨?_, fun d => ?_⟩
    · rw [inv1.size, h.num _ (Nat.le_refl _)]
    · by_cases hw : ∃ j oj, j < k ∧ ops[j]? = some oj ∧ oj.dst = some d
      · obtain ⟨j, oj, hj, hoj, hdj⟩ := hw
        exact inv1.wrote j oj d hj (hall1 j hj) hoj hdj
      · have hno : ∀ j oj, j < k → ops[j]? = some oj → oj.dst ≠ some d := fun j oj hj hoj hdj => hw ⟨j, oj, hj, hoj, hdj⟩
        rw [inv1.same d fun j oj hj _ hoj => hno j oj hj hoj, h.first (Nat.le_refl _) fun l o hl1 hlo => hno l o hl1 hlo]
  exact ⟨m1, w1, arr1, st2, hreln, hpn, h.lows hl k (Nat.le_refl _), htn⟩
end
end Go.Rv
