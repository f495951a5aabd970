/- Operations that may come in any order: what is known while they come. -/
import Derived.Test.YtgchcfhbcaemoabGreatDoorRvU
namespace Go.Rv
open Go
variable [Env]
section
variable {P : Program} {ev : Ev}

abbrev bitsOf (ops : Array Oper) (j : Nat) : Nat := (Region.before ops).getD j 0

structure Pre (P : Program) (ev : Ev) (ops : Array Oper) (k L : Nat) (ws : Wrs) (T : Nat → PS) : Prop where
  step : ∀ j, j < k → ∃ o r x, ops[j]? = some o ∧ OpOk P ops o r ∧ PreStep P ev L ws j o r (bitsOf ops j) (T j) (T (j + 1)) x
  apart : ∀ i j oi oj, i < k → j < k → i ≠ j → ops[i]? = some oi → ops[j]? = some oj → ∀ d, oi.dst = some d → oj.dst ≠ some d ∧ (d ∈ looks ops oj → (bitsOf ops j).testBit i = true ∨ (bitsOf ops i).testBit j = true)
  start : (T 0).sl = []
  chain : ∀ i c bi j d bj, (i, c, bi) ∈ ws → (j, d, bj) ∈ ws → i < j → bj.testBit i = true

variable {ops : Array Oper} {k L : Nat} {ws : Wrs} {T : Nat → PS}

/-- what a place among the new blocks says of its operation -/
theorem Pre.entry (h : Pre P ev ops k L ws T) : ∀ (j : Nat), j ≤ k → ∀ (q i : Nat) (ob : RObj), (T j).sl.reverse[q]? = some (i, ob) →
    i < j ∧ (T i).sl.length ≤ q ∧ q < (T (i + 1)).sl.length ∧ (T (i + 1)).sl.reverse[q]? = some (i, ob) ∧
      newB (L + (T (i + 1)).sl.length) (madeN L (bitsOf ops i) (T i).sl (L + (T i).sl.length) (L + (T (i + 1)).sl.length)) ob = true
  | 0, _, q, i, ob, hq => by rw [h.start] at hq; simp at hq
  | j + 1, hj, q, i, ob, hq => by
    obtain ⟨o, r, x, _, _, st⟩ := h.step j (by omega)
    obtain ⟨news, h1, h2⟩ := st.grow
    have hq0 := hq
    rw [h1, List.reverse_append] at hq
    rcases Nat.lt_or_ge q (T j).sl.length with hlt | hge
    · rw [List.getElem?_append_left (by simpa using hlt)] at hq
      obtain ⟨h3, h4⟩ := h.entry j (by omega) q i ob hq
      exact ⟨by omega, h4⟩
    · rw [List.getElem?_append_right (by simpa using hge), ← List.map_reverse, List.getElem?_map] at hq
      cases hn : news.reverse[q - (T j).sl.reverse.length]? with
      | none => rw [hn] at hq; simp at hq
      | some o' =>
        rw [hn] at hq
        simp only [Option.map_some, Option.some.injEq, Prod.mk.injEq] at hq
        obtain ⟨rfl, rfl⟩ := hq
        have hmem : o' ∈ news := List.mem_reverse.1 (List.mem_of_getElem? hn)
        have hql : q < (T (j + 1)).sl.length := by
          have := (List.getElem?_eq_some_iff.1 hq0).1
          simpa using this
        exact ⟨by omega, hge, hql, hq0, h2 o' hmem⟩

theorem Pre.len (h : Pre P ev ops k L ws T) {i : Nat} : ∀ (d : Nat), i + d ≤ k → (T i).sl.length ≤ (T (i + d)).sl.length ∧ ∀ q, q < (T i).sl.length → (T (i + d)).sl.reverse[q]? = (T i).sl.reverse[q]?
  | 0, _ => ⟨Nat.le_refl _, fun _ _ => rfl⟩
  | d + 1, hd => by
    obtain ⟨h1, h2⟩ := h.len (i := i) d (by omega)
    obtain ⟨o, r, x, _, _, st⟩ := h.step (i + d) (by omega)
    rw [show i + (d + 1) = i + d + 1 by omega]
    obtain ⟨news, h3, _⟩ := st.grow
    rw [h3]
    refine ⟨by simp; omega, fun q hq => ?_⟩
    rw [List.reverse_append, List.getElem?_append_left (by simp; omega)]
    exact h2 q hq

theorem Pre.slot (h : Pre P ev ops k L ws T) {i j q : Nat} (hij : i ≤ j) (hj : j ≤ k) (hq : q < (T i).sl.length) : (T j).sl.reverse[q]? = (T i).sl.reverse[q]? := by
  have := (h.len (i := i) (j - i) (by omega)).2 q hq
  rwa [show i + (j - i) = j by omega] at this

theorem Pre.len_le (h : Pre P ev ops k L ws T) {i j : Nat} (hij : i ≤ j) (hj : j ≤ k) : (T i).sl.length ≤ (T j).sl.length := by
  have := (h.len (i := i) (j - i) (by omega)).1
  rwa [show i + (j - i) = j by omega] at this

/-- the places that an operation made are its own -/
theorem Pre.mine (h : Pre P ev ops k L ws T) {i q : Nat} (hi : i < k) (h1 : (T i).sl.length ≤ q) (h2 : q < (T (i + 1)).sl.length) : ∃ ob, (T k).sl.reverse[q]? = some (i, ob) ∧ (T (i + 1)).sl.reverse[q]? = some (i, ob) := by
  obtain ⟨o, r, x, _, _, st⟩ := h.step i hi
  obtain ⟨news, h3, _⟩ := st.grow
  have hq : (T (i + 1)).sl.reverse[q]? = some ((T (i + 1)).sl.reverse[q]'(by simpa using h2)) := List.getElem?_eq_getElem _
  generalize (T (i + 1)).sl.reverse[q]'(by simpa using h2) = y at hq
  obtain ⟨i', ob⟩ := y
  have hq' := hq
  rw [h3, List.reverse_append, List.getElem?_append_right (by simpa using h1), ← List.map_reverse, List.getElem?_map] at hq'
  cases hn : news.reverse[q - (T i).sl.reverse.length]? with
  | none => rw [hn] at hq'; simp at hq'
  | some o' =>
    rw [hn] at hq'
    simp only [Option.map_some, Option.some.injEq, Prod.mk.injEq] at hq'
    obtain ⟨rfl, rfl⟩ := hq'
    exact ⟨o', by rw [h.slot (i := i + 1) hi (Nat.le_refl k) h2]; exact hq, hq⟩

/-- a temporary that none of them writes -/
theorem Pre.same (h : Pre P ev ops k L ws T) {i d : Nat} : ∀ (n : Nat), i + n ≤ k → (∀ j o, i ≤ j → j < i + n → ops[j]? = some o → o.dst ≠ some d) → (T (i + n)).t.get d = (T i).t.get d
  | 0, _, _ => rfl
  | n + 1, hn, hd => by
    obtain ⟨o, r, x, ho, _, st⟩ := h.step (i + n) (by omega)
    rw [show i + (n + 1) = i + n + 1 by omega, st.get, if_neg (hd (i + n) o (by omega) (by omega) ho)]
    exact h.same n (by omega) fun j o h1 h2 => hd j o h1 (by omega)

theorem Pre.num (h : Pre P ev ops k L ws T) : ∀ (j : Nat), j ≤ k → (T j).t.n = (T 0).t.n
  | 0, _ => rfl
  | j + 1, hj => by
    obtain ⟨o, r, x, _, _, st⟩ := h.step j (by omega)
    rw [st.n]
    exact h.num j (by omega)

theorem Pre.lows (h : Pre P ev ops k L ws T) (h0 : tlt L (T 0).t) : ∀ (j : Nat), j ≤ k → tlt (L + (T j).sl.length) (T j).t
  | 0, _ => by rw [h.start]; exact h0
  | j + 1, hj => by
    obtain ⟨o, r, x, _, _, st⟩ := h.step j (by omega)
    have ih := h.lows h0 j (by omega)
    have hle : (T j).sl.length ≤ (T (j + 1)).sl.length := h.len_le (Nat.le_succ j) hj
    intro d
    rw [st.get]
    split
    · exact st.below
    · exact below_mono (by omega) _ (ih d)

/-- what one of them wrote stays -/
theorem Pre.kept (h : Pre P ev ops k L ws T) {i j d : Nat} {o : Oper} (hi : i < j) (hj : j ≤ k) (ho : ops[i]? = some o) (hd : o.dst = some d) : (T j).t.get d = (T (i + 1)).t.get d := by
  have := h.same (i := i + 1) (d := d) (j - (i + 1)) (by omega) (fun l ol h1 h2 hl => (h.apart i l o ol (by omega) (by omega) (by omega) ho hl d hd).1)
  rwa [show i + 1 + (j - (i + 1)) = j by omega] at this

theorem Pre.first (h : Pre P ev ops k L ws T) {j d : Nat} (hj : j ≤ k) (hd : ∀ l o, l < j → ops[l]? = some o → o.dst ≠ some d) : (T j).t.get d = (T 0).t.get d := by
  have := h.same (i := 0) (d := d) j (by omega) (fun l o _ h2 => hd l o (by omega))
  rwa [Nat.zero_add] at this

/-- the names that are known when some have come -/
def Known (L : Nat) (all : List (Nat × RObj)) (listed : Array Bool) (c : Nat) : Prop := c < L ∨ ∃ q i ob, c = L + q ∧ all.reverse[q]? = some (i, ob) ∧ listed.getD i false = true

theorem Pre.vis (h : Pre P ev ops k L ws T) {listed : Array Bool} {j c : Nat} (hj : j < k) (hb : ∀ i, (bitsOf ops j).testBit i = true → listed.getD i false = true)
    (hc : visN L (bitsOf ops j) (T j).sl c = true) : Known L (T k).sl listed c := by
  unfold visN at hc
  rw [Bool.or_eq_true] at hc
  rcases hc with hc | hc
  · rw [blt_eq, decide_eq_true_eq] at hc
    exact .inl hc
  · rcases Nat.lt_or_ge c L with hcl | hcl
    · exact .inl hcl
    · rw [lget_eq] at hc
      split at hc
      · rename_i x hx
        rw [Bool.and_eq_true, blt_eq, decide_eq_true_eq] at hc
        obtain ⟨i, ob⟩ := x
        refine .inr ⟨c - L, i, ob, by omega, ?_, hb i hc.2⟩
        rw [h.slot (Nat.le_of_lt hj) (Nat.le_refl k) (by omega), List.getElem?_reverse (by omega)]
        exact hx
      · simp at hc

theorem Pre.vis2 (h : Pre P ev ops k L ws T) {listed : Array Bool} {j c : Nat} (hj : j < k) (hlj : listed.getD j false = true) (hb : ∀ i, (bitsOf ops j).testBit i = true → listed.getD i false = true)
    (hc : madeN L (bitsOf ops j) (T j).sl (L + (T j).sl.length) (L + (T (j + 1)).sl.length) c = true) : Known L (T k).sl listed c := by
  unfold madeN at hc
  rw [Bool.or_eq_true] at hc
  rcases hc with hc | hc
  · rw [Bool.and_eq_true, blt_eq, decide_eq_true_eq] at hc
    have h1 := Nat.le_of_ble_eq_true hc.1
    obtain ⟨ob, h2, _⟩ := h.mine hj (q := c - L) (by omega) (by omega)
    exact .inr ⟨c - L, j, ob, by omega, h2, hlj⟩
  · exact h.vis hj hb hc

/-! old memory and its stores -/

/-- an operation may write a block -/
def Wr (ops : Array Oper) (ws : Wrs) (j c : Nat) : Prop := (j, c, bitsOf ops j) ∈ ws

theorem Pre.mem (h : Pre P ev ops k L ws T) {j : Nat} (hj : j < k) : (T (j + 1)).V = (T j).V ∨ ∃ c cs kd, c < L ∧ Wr ops ws j c ∧ belowC L cs = true ∧ (T (j + 1)).V = (T j).V.set (L - 1 - c) (.cells cs kd) := by
  obtain ⟨o, r, x, _, _, st⟩ := h.step j hj
  rcases st.kind with ⟨_, _, _, h1⟩ | ⟨_, e, _, ⟨_, _, h1⟩ | ⟨_, _, _, _, _, h1⟩ | ⟨_, _, _, _, _, h1, _⟩ | ⟨y, W', a, c, off, cs, kd, _, _, _, hc, hw, _, hb, _, _, h1⟩⟩
  · exact .inl h1
  · exact .inl h1
  · exact .inl h1
  · exact .inl h1
  · exact .inr ⟨c, cs, kd, hc, hw, hb, h1⟩

omit [Env] in
theorem get_at {V : List RObj} {L c : Nat} (hc : c < L) : (⟨L, V⟩ : RW).get c = V[L - 1 - c]? := by
  unfold RW.get
  simp only [blt_eq, hc, decide_true, if_true, lget_eq]

omit [Env] in
theorem get_ge {V : List RObj} {L c : Nat} (hc : L ≤ c) : (⟨L, V⟩ : RW).get c = none := by
  unfold RW.get
  simp only [blt_eq]
  rw [if_neg (by simp; omega)]

theorem Pre.vlen (h : Pre P ev ops k L ws T) (h0 : (T 0).V.length = L) : ∀ j, j ≤ k → (T j).V.length = L
  | 0, _ => h0
  | j + 1, hj => by
    rcases h.mem (show j < k by omega) with h1 | ⟨c, cs, kd, _, _, _, h1⟩
    · rw [h1]; exact h.vlen h0 j (by omega)
    · rw [h1, List.length_set]; exact h.vlen h0 j (by omega)

/-- a block that no store between writes -/
theorem Pre.vget (h : Pre P ev ops k L ws T) {i c : Nat} (hc : c < L) : ∀ (n : Nat), i + n ≤ k → (∀ j, i ≤ j → j < i + n → ¬ Wr ops ws j c) → (⟨L, (T (i + n)).V⟩ : RW).get c = (⟨L, (T i).V⟩ : RW).get c
  | 0, _, _ => rfl
  | n + 1, hn, hw => by
    have ih := h.vget hc n (by omega) fun j h1 h2 => hw j h1 (by omega)
    rw [show i + (n + 1) = i + n + 1 by omega]
    rcases h.mem (show i + n < k by omega) with h1 | ⟨c', cs, kd, hc', hw', _, h1⟩
    · rw [h1]; exact ih
    · have hne : c' ≠ c := fun e => hw (i + n) (by omega) (by omega) (e ▸ hw')
      rw [h1, get_at hc, List.getElem?_set_ne (by omega), ← get_at hc]
      exact ih

theorem Pre.vsame (h : Pre P ev ops k L ws T) {i : Nat} : ∀ (n : Nat), i + n ≤ k → (∀ j c, i ≤ j → j < i + n → ¬ Wr ops ws j c) → (T (i + n)).V = (T i).V
  | 0, _, _ => rfl
  | n + 1, hn, hw => by
    have ih := h.vsame n (by omega) fun j c h1 h2 => hw j c h1 (by omega)
    rw [show i + (n + 1) = i + n + 1 by omega]
    rcases h.mem (show i + n < k by omega) with h1 | ⟨c', cs, kd, hc', hw', _, h1⟩
    · rw [h1]; exact ih
    · exact absurd hw' (hw (i + n) c' (by omega) (by omega))

/-- what is not looked at where stores may come before or behind -/
def Ordered (i b : Nat) (e : Nat × Nat × Nat) : Prop := e.1 = i ∨ (e.1 < i ∧ b.testBit e.1 = true) ∨ (i < e.1 ∧ e.2.2.testBit i = true)

omit [Env] in
theorem kill_len (L b i : Nat) : ∀ (ws : Wrs) (V : List RObj), (killW L b i ws V).length = V.length
  | [], V => rfl
  | e :: r, V => by
    unfold killW
    rw [kill_len L b i r]
    split
    · rfl
    · simp

omit [Env] in
theorem kill_get {L b i c : Nat} (hc : c < L) : ∀ (ws : Wrs) (V : List RObj) (o : RObj), (⟨L, killW L b i ws V⟩ : RW).get c = some o → o = .dead ∨ ((⟨L, V⟩ : RW).get c = some o ∧ ∀ e ∈ ws, e.2.1 = c → Ordered i b e)
  | [], V, o, h => .inr ⟨h, by simp⟩
  | e :: r, V, o, h => by
    unfold killW at h
    rcases kill_get hc r _ o h with h1 | ⟨h1, h2⟩
    · exact .inl h1
    · split at h1
      · rename_i ho
        have hord : Ordered i b e := by
          simp only [Bool.or_eq_true, Bool.and_eq_true, blt_eq, decide_eq_true_eq] at ho
          rcases ho with (ho | ho) | ho
          · exact .inl (Nat.eq_of_beq_eq_true ho)
          · exact .inr (.inl ho)
          · exact .inr (.inr ho)
        refine .inr ⟨h1, fun e' he' hce => ?_⟩
        rcases List.mem_cons.1 he' with rfl | he'
        · exact hord
        · exact h2 e' he' hce
      · by_cases hidx : L - 1 - e.2.1 = L - 1 - c
        · left
          rw [get_at hc, hidx] at h1
          have hlen : L - 1 - c < (V.set (L - 1 - c) RObj.dead).length := (List.getElem?_eq_some_iff.1 h1).1
          rw [List.getElem?_set_self (by simpa using hlen)] at h1
          exact (Option.some.inj h1).symm
        · rw [get_at hc, List.getElem?_set_ne hidx, ← get_at hc] at h1
          refine .inr ⟨h1, fun e' he' hce => ?_⟩
          rcases List.mem_cons.1 he' with rfl | he'
          · exact absurd (by rw [hce]) hidx
          · exact h2 e' he' hce

/-- memory when some have come -/
def WS (W : RW) (all : List (Nat × RObj)) (listed : Array Bool) : RW := ⟨W.n + all.length, (all.map fun x => if listed.getD x.1 false then x.2 else .dead) ++ W.l⟩

omit [Env] in
theorem WS_get (W : RW) (all : List (Nat × RObj)) (listed : Array Bool) (b : Nat) :
    (WS W all listed).get b = if b < W.n then W.get b else (all.reverse[b - W.n]?).map fun x => if listed.getD x.1 false then x.2 else .dead := by
  have := get_over (A := all.map fun x => if listed.getD x.1 false then x.2 else RObj.dead) (B := W.l) (L := W.n) b
  rw [List.length_map] at this
  unfold WS
  rw [this, ← List.map_reverse, List.getElem?_map]

omit [Env] in
theorem WS_wf {W : RW} (h : W.wf) (all : List (Nat × RObj)) (listed : Array Bool) : (WS W all listed).wf := by
  unfold RW.wf at *
  simp [WS, h, Nat.add_comm]

omit [Env] in
theorem seen_get (L b : Nat) (V : List RObj) (sl : List (Nat × RObj)) (c : Nat) :
    (seen L b V sl).get c = if c < L then (⟨L, V⟩ : RW).get c else (sl.reverse[c - L]?).map fun x => if b.testBit x.1 then x.2.toRo else .dead := by
  have := get_over (A := slotW b sl) (B := V) (L := L) c
  rw [slotW_eq, List.length_map] at this
  unfold seen
  rw [slotW_eq, this, ← List.map_reverse, List.getElem?_map]

omit [Env] in
theorem seen_wf {L b : Nat} {V : List RObj} {sl : List (Nat × RObj)} (h : V.length = L) : (seen L b V sl).wf := by
  unfold RW.wf seen
  rw [slotW_eq]
  simp [h, Nat.add_comm]

structure Still (w w' : World) : Prop where
  size : w.heap.size ≤ w'.heap.size
  keep : ∀ r, r < w.heap.size → w'.heap[r]? = w.heap[r]?
  os : w'.os = w.os
  tape : w'.tape = w.tape
  output : w'.output = w.output

theorem Rel.still {m : Nat → Loc} {W : RW} {w w' : World} (h : Rel m W w) (hs : Still w w') : Rel m W w' :=
  ⟨h.wf, fun b o hb => (h.obj b o hb).heap fun hl => hs.keep _ ((h.obj b o hb).lt_size hl), h.lt, h.inj, h.glb⟩

omit [Env] in
theorem Post.still {m m' : Nat → Loc} {W W' : RW} {w w' w'' : World} (h : Post m W w m' W' w') (hs : Still w' w'') : Post m W w m' W' w'' :=
  ⟨h.ag, h.mono, Nat.le_trans h.size hs.size, fun r hr hn => (hs.keep r (Nat.lt_of_lt_of_le hr h.size)).trans (h.keep r hr hn), h.own, hs.os.trans h.os, hs.tape.trans h.tape, hs.output.trans h.output⟩

/-- what a store is -/
theorem store_spec {o : Oper} {op : ROp} (hop : decOp P o = some op) {a : Opd} (hst : storeTo o.op = some a) {t : RT} {W : RW} {e : Eff} (he : op t W = some e) :
    ∃ W' c off cs cs' kd, e = .wr ud W' ∧ a t = .ptr c off ∧ W.get c = some (.cells cs kd) ∧ (kd ≠ .ro ∧ kd ≠ .rx) ∧ W.set c (.cells cs' kd) = some W' := by
  obtain ⟨dst, oo, ty, pos, after, guard⟩ := o
  cases oo <;> simp only [storeTo] at hst <;> try (simp at hst; done)
  rename_i ty2 ax xx
  have ha : a = opd ax := by
    unfold opd
    exact (Option.some.inj hst).symm
  subst ha
  simp only [decOp] at hop
  split at hop
  · rename_i i hi
    obtain ⟨_, _, rfl⟩ := with2_spec hop
    unfold xSt at he
    simp only at he
    split at he
    · rename_i c off hp
      split at he
      · unfold storeAt at he
        split at he
        · rename_i cs kd hg
          cases kd with
          | ro => simp at he
          | rx => simp at he
          | ex =>
            simp only at he
            split at he
            · rename_i cs' _
              split at he
              · rename_i W' hs
                simp only [Option.some.injEq] at he
                subst he
                exact ⟨W', c, off, cs, cs', .ex, rfl, hp, hg, by simp, hs⟩
              · simp at he
            · simp at he
          | gr =>
            simp only at he
            split at he
            · rename_i cs' _
              split at he
              · rename_i W' hs
                simp only [Option.some.injEq] at he
                subst he
                exact ⟨W', c, off, cs, cs', .gr, rfl, hp, hg, by simp, hs⟩
              · simp at he
            · simp at he
          | bd ty =>
            simp only at he
            split at he
            · rename_i cs' _
              split at he
              · rename_i W' hs
                simp only [Option.some.injEq] at he
                subst he
                exact ⟨W', c, off, cs, cs', .bd ty, rfl, hp, hg, by simp, hs⟩
              · simp at he
            · simp at he
          | gy ty =>
            simp only at he
            split at he
            · rename_i cs' _
              split at he
              · rename_i W' hs
                simp only [Option.some.injEq] at he
                subst he
                exact ⟨W', c, off, cs, cs', .gy ty, rfl, hp, hg, by simp, hs⟩
              · simp at he
            · simp at he
        · simp at he
      · simp at he
    · simp at he
  · simp at hop

/-- what is in old memory stays what it was, and of old names -/
theorem Pre.old (h : Pre P ev ops k L ws T) (h0 : (T 0).V.length = L) (hlt : ∀ c o, (⟨L, (T 0).V⟩ : RW).get c = some o → o.lt L) : ∀ j, j ≤ k → ∀ c o, (⟨L, (T j).V⟩ : RW).get c = some o →
    o.lt L ∧ ∃ o0, (⟨L, (T 0).V⟩ : RW).get c = some o0 ∧ (o.own = true → o0.own = true) ∧ (o.live = true → o0.live = true)
  | 0, _, c, o, hg => ⟨hlt c o hg, o, hg, id, id⟩
  | j + 1, hj, c, o, hg => by
    obtain ⟨op, r, x, _, hok, st⟩ := h.step j (by omega)
    have ih := h.old h0 hlt j (by omega)
    have keep : (T (j + 1)).V = (T j).V → _ := fun hV => ih c o (by rw [← hV]; exact hg)
    rcases st.kind with ⟨_, _, _, h1⟩ | ⟨_, e, he, ⟨_, _, h1⟩ | ⟨_, _, _, _, _, h1⟩ | ⟨_, _, _, _, _, h1, _⟩ | ⟨y, W', a, c', off, cs, kd, rfl, hsa, ha, hc', hw, hg', hb, _, _, h1⟩⟩
    · exact keep h1
    · exact keep h1
    · exact keep h1
    · exact keep h1
    · have hcL : c < L := by
        rcases Nat.lt_or_ge c L with h2 | h2
        · exact h2
        · rw [get_ge h2] at hg; simp at hg
      by_cases hcc : c' = c
      · subst hcc
        rw [h1, get_at hcL, List.getElem?_set_self (by rw [h.vlen h0 j (by omega)]; omega)] at hg
        simp only [Option.some.injEq] at hg
        subst hg
        refine ⟨hb, ?_⟩
        obtain ⟨W2, c2, off2, cs2, cs3, kd2, he2, ha2, hg2, hro, hset⟩ := store_spec hok.op (by rw [← hok.st]; exact hsa) he
        simp only [Eff.wr.injEq] at he2
        obtain ⟨_, rfl⟩ := he2
        rw [ha] at ha2
        simp only [RV.ptr.injEq] at ha2
        obtain ⟨rfl, _⟩ := ha2
        obtain ⟨s1, s2, s3, s4⟩ := set_spec hset
        have hvw : viewOf L (bitsOf ops j) j ws r.st (T j) = seen L (bitsOf ops j) (T j).V (T j).sl := by
          unfold viewOf; rw [hsa]
        rw [hvw] at hg2 s4
        have hwf : (seen L (bitsOf ops j) (T j).V (T j).sl).wf := seen_wf (h.vlen h0 j (by omega))
        rw [s4 hwf, if_pos rfl] at hg'
        simp only [Option.some.injEq, RObj.cells.injEq] at hg'
        rw [seen_get, if_pos hcL] at hg2
        obtain ⟨_, o0, h5, h6, h7⟩ := ih _ _ hg2
        refine ⟨o0, h5, fun _ => h6 ?_, fun _ => h7 rfl⟩
        cases kd2 <;> simp_all [RObj.own]
      · rw [h1, get_at hcL, List.getElem?_set_ne (by omega), ← get_at hcL] at hg
        exact ih c o hg
end
end Go.Rv
