/- Operations that may come in any order: each as it comes. -/
import Derived.Test.YtgchcfhbcaemoabGreatDoorRvV
namespace Go.Rv
open Go
variable [Env]
section
variable {P : Program} {ev : Ev} {ops : Array Oper} {k : Nat} {ws : Wrs} {T : Nat → PS}

/-- what is known when some have come; 'th': how far the stores have come -/
structure Inv (ops : Array Oper) (k : Nat) (ws : Wrs) (T : Nat → PS) (m0 : Nat → Loc) (W : RW) (w : World) (listed : Array Bool) (m : Nat → Loc) (w' : World) (arr : Array Value) (th : Nat) : Prop where
  le : th ≤ k
  did : ∀ j c, j < th → Wr ops ws j c → listed.getD j false = true
  didnt : ∀ j c, th ≤ j → j < k → Wr ops ws j c → listed.getD j false = false
  rel : Rel m (WS ⟨W.n, (T th).V⟩ (T k).sl listed) w'
  size : arr.size = (T 0).t.n
  wrote : ∀ j o d, j < k → listed.getD j false = true → ops[j]? = some o → o.dst = some d → arr.getD d undef = rv m ((T k).t.get d)
  same : ∀ d, (∀ j o, j < k → listed.getD j false = true → ops[j]? = some o → o.dst ≠ some d) → arr.getD d undef = rv m ((T 0).t.get d)
  post : Post m0 W w m (WS ⟨W.n, (T th).V⟩ (T k).sl listed) w'

omit [Env] in
theorem dstSet_same {d : Option Nat} {arr : Array Value} {v : Value} {i : Nat} (h : d ≠ some i) : (dstSet d arr v).getD i undef = arr.getD i undef := by
  cases d with
  | none => rfl
  | some d =>
    have : d ≠ i := fun e => h (by rw [e])
    simp [dstSet, Array.getD_eq_getD_getElem?, Array.getElem?_setIfInBounds_ne this]

omit [Env] in
theorem dstSet_new {arr : Array Value} {v : Value} {i : Nat} (h : i < arr.size) : (dstSet (some i) arr v).getD i undef = v := by
  simp [dstSet, h]

omit [Env] in
theorem dstSet_size {d : Option Nat} {arr : Array Value} {v : Value} : (dstSet d arr v).size = arr.size := by
  cases d <;> simp [dstSet]

omit [Env] in
theorem yielded_congr {a b : Array Value} {j : Nat} (hs : a.size = b.size) (h : ∀ d, (ops[j]?).bind (·.dst) = some d → a.getD d undef = b.getD d undef) : yielded ops a j = yielded ops b j := by
  unfold yielded
  cases hd : (ops[j]?).bind (·.dst) with
  | none => rfl
  | some d =>
    have h1 := h d hd
    simp only [Option.bind_some]
    rcases Nat.lt_or_ge d a.size with hl | hl
    · have hl2 : d < b.size := hs ▸ hl
      rw [Array.getD_eq_getD_getElem?, Array.getD_eq_getD_getElem?, Array.getElem?_eq_getElem hl, Array.getElem?_eq_getElem hl2] at h1
      rw [Array.getElem?_eq_getElem hl, Array.getElem?_eq_getElem hl2]
      simp only [Option.getD_some] at h1
      rw [h1]
    · have hl2 : b.size ≤ d := hs ▸ hl
      rw [Array.getElem?_eq_none hl, Array.getElem?_eq_none hl2]

theorem noSelect {o : Oper} {op : ROp} (h : decOp P o = some op) (cs : Array SelectCase) (b : Bool) : o.op ≠ .select cs b := by
  intro hc
  unfold decOp at h
  rw [hc] at h
  simp at h

variable {m0 : Nat → Loc} {W : RW} {w : World}

theorem Pre.temps (h : Pre P ev ops k W.n ws T) {listed : Array Bool} {m m' : Nat → Loc} {w' : World} {arr : Array Value} {th : Nat} (inv : Inv ops k ws T m0 W w listed m w' arr th) (h0 : tlt W.n (T 0).t)
    {i : Nat} {o : Oper} {v : Value} (hi : i < k) (ho : ops[i]? = some o) (hs : listed.size = ops.size) (hx : ∀ d, o.dst = some d → d < (T 0).t.n ∧ rv m' ((T (i + 1)).t.get d) = v)
    (hm : ∀ b, Known W.n (T k).sl listed b → m' b = m b) (hE : Edges ops) (hc : Closed ops listed) :
    (dstSet o.dst arr v).size = (T 0).t.n ∧
    (∀ j oj d, j < k → (listed.setIfInBounds i true).getD j false = true → ops[j]? = some oj → oj.dst = some d → (dstSet o.dst arr v).getD d undef = rv m' ((T k).t.get d)) ∧
    (∀ d, (∀ j oj, j < k → (listed.setIfInBounds i true).getD j false = true → ops[j]? = some oj → oj.dst ≠ some d) → (dstSet o.dst arr v).getD d undef = rv m' ((T 0).t.get d)) := by
  refine ⟨dstSet_size.trans inv.size, ?_, ?_⟩
  · intro j oj d hj hlj hoj hd
    by_cases hij : i = j
    · subst hij
      have : oj = o := Option.some.inj (hoj.symm.trans ho)
      subst this
      obtain ⟨h1, h2⟩ := hx d hd
      rw [hd, dstSet_new (by rw [inv.size]; exact h1), h.kept hi (Nat.le_refl k) ho hd, h2]
    · rw [getD_set_ne false hij] at hlj
      rw [dstSet_same (h.apart j i oj o hj hi (Ne.symm hij) hoj ho d hd).1, inv.wrote j oj d hj hlj hoj hd]
      obtain ⟨oj2, r, y, ho2, _, st⟩ := h.step j hj
      have : oj2 = oj := Option.some.inj (ho2.symm.trans hoj)
      subst this
      have hy : (T k).t.get d = y := by
        rw [h.kept hj (Nat.le_refl k) hoj hd, st.get, if_pos hd]
      rw [hy]
      exact (rv_names (n := W.n + (T (j + 1)).sl.length) (fun b _ hb => hm b (h.vis2 hj hlj (fun l hl => closed_bits hE hc hlj hl) hb)) y st.below st.names).symm
  · intro d hd
    have h1 : o.dst ≠ some d := by
      have hin : i < ops.size := (Array.getElem?_eq_some_iff.1 ho).1
      exact hd i o hi (by simp [hs, hin]) ho
    rw [dstSet_same h1, inv.same d fun j oj hj hlj hoj => hd j oj hj (getD_set_true hlj) hoj]
    exact (rv_agree (n := W.n) (fun b hb => hm b (.inl hb)) _ (h0 d)).symm

/-- how far the stores have come when one more has -/
theorem Pre.threshold (h : Pre P ev ops k W.n ws T) {listed : Array Bool} {m : Nat → Loc} {w' : World} {arr : Array Value} {th : Nat} (inv : Inv ops k ws T m0 W w listed m w' arr th)
    {i : Nat} (hi : i < k) (hin : i < listed.size) (hun : listed.getD i true = false) (hb : ∀ j, (bitsOf ops i).testBit j = true → listed.getD j false = true) :
    ∃ th', th' ≤ k ∧ (∀ j c, j < th' → Wr ops ws j c → (listed.setIfInBounds i true).getD j false = true) ∧ (∀ j c, th' ≤ j → j < k → Wr ops ws j c → (listed.setIfInBounds i true).getD j false = false) ∧
      ((∃ c, Wr ops ws i c) → th' = i + 1 ∧ (T th).V = (T i).V) ∧ ((∀ c, ¬ Wr ops ws i c) → th' = th) := by
  have hoff := off_both hun
  by_cases hw : ∃ c, Wr ops ws i c
  · obtain ⟨c, hw⟩ := hw
    have hth : th ≤ i := by
      rcases Nat.lt_or_ge i th with h1 | h1
      · have := inv.did i c h1 hw
        rw [hoff] at this
        simp at this
      · exact h1
    refine ⟨i + 1, hi, ?_, ?_, fun _ => ⟨rfl, ?_⟩, fun hn => absurd hw (hn c)⟩
    · intro j d hj hwj
      by_cases hij : i = j
      · subst hij; simp [hin]
      · rw [getD_set_ne false hij]
        exact hb j (h.chain j d _ i c _ hwj hw (by omega))
    · intro j d hj hjk hwj
      rw [getD_set_ne false (show i ≠ j by omega)]
      exact inv.didnt j d (by omega) hjk hwj
    · have := h.vsame (i := th) (i - th) (by omega) fun j d h1 h2 hwj => by
        have h3 := inv.didnt j d h1 (by omega) hwj
        rw [hb j (h.chain j d _ i c _ hwj hw (by omega))] at h3
        simp at h3
      rw [show th + (i - th) = i by omega] at this
      exact this.symm
  · have hw' : ∀ c, ¬ Wr ops ws i c := fun c hc => hw ⟨c, hc⟩
    refine ⟨th, inv.le, ?_, ?_, fun hc => absurd hc hw, fun _ => rfl⟩
    · intro j d hj hwj
      exact getD_set_true (inv.did j d hj hwj)
    · intro j d hj hjk hwj
      have hij : i ≠ j := fun e => hw' d (e ▸ hwj)
      rw [getD_set_ne false hij]
      exact inv.didnt j d hj hjk hwj

/-- old blocks that it may look at are as they were when its turn came in the text -/
theorem Pre.now (h : Pre P ev ops k W.n ws T) (hE : Edges ops) {listed : Array Bool} (hc : Closed ops listed) {m : Nat → Loc} {w' : World} {arr : Array Value} {th : Nat} (inv : Inv ops k ws T m0 W w listed m w' arr th)
    {i : Nat} (hi : i < k) (hun : listed.getD i true = false) (hb : ∀ j, (bitsOf ops i).testBit j = true → listed.getD j false = true) {c : Nat} (hcl : c < W.n) (hord : ∀ e ∈ ws, e.2.1 = c → Ordered i (bitsOf ops i) e) :
    (⟨W.n, (T th).V⟩ : RW).get c = (⟨W.n, (T i).V⟩ : RW).get c := by
  have hoff := off_both hun
  have hle := inv.le
  rcases Nat.lt_or_ge i th with h1 | h1
  · have := h.vget (i := i) hcl (th - i) (by omega) fun j h2 h3 hwj => by
      have hlj := inv.did j c (by omega) hwj
      rcases hord _ hwj rfl with h4 | ⟨h4, _⟩ | ⟨h4, h5⟩
      · have : j = i := h4
        subst this
        rw [hoff] at hlj; simp at hlj
      · have : j < i := h4
        omega
      · have := closed_bits hE hc hlj h5
        rw [hoff] at this; simp at this
    rw [show i + (th - i) = th by omega] at this
    exact this
  · have := h.vget (i := th) hcl (i - th) (by omega) fun j h2 h3 hwj => by
      have hlj := inv.didnt j c h2 (by omega) hwj
      rcases hord _ hwj rfl with h4 | ⟨_, h5⟩ | ⟨h4, _⟩
      · have : j = i := h4
        omega
      · rw [hb j h5] at hlj; simp at hlj
      · have : i < j := h4
        omega
    rw [show th + (i - th) = i by omega] at this
    exact this.symm

theorem Pre.step_ok (hev : EvOk P ev) (hN : NoOwn P) (hE : Edges ops) (h : Pre P ev ops k W.n ws T) (hr0 : Rel m0 W w) (h0 : tlt W.n (T 0).t) (hV0 : (T 0).V = W.l)
    {listed : Array Bool} {m : Nat → Loc} {w' : World} {fr : Frame} {th : Nat} (inv : Inv ops k ws T m0 W w listed m w' fr.tmps th)
    {i : Nat} {o : Oper} (hi : i < k) (ho : ops[i]? = some o) (hun : listed.getD i true = false) (hl : ∀ e ∈ o.after, Region.binds .any e = true → listed.getD e.on false = true)
    (hc : Closed ops listed) (hs : listed.size = ops.size) {cs : List Frame} {rest : List Nat} {K : List Item} (hm : fr.mode = .run) (htd : fr.todo = .inRegion ops (i :: rest) :: K) :
    ∃ m' w'' arr' th', Steps P (lone fr cs w') (lone { fr with tmps := arr', todo := .inRegion ops rest :: K } cs w'') ∧ Inv ops k ws T m0 W w (listed.setIfInBounds i true) m' w'' arr' th' := by
  obtain ⟨o', r, x, ho', hok, st⟩ := h.step i hi
  have : o' = o := Option.some.inj (ho'.symm.trans ho)
  subst this
  have hik : i ≤ k := Nat.le_of_lt hi
  have hin : i < ops.size := (Array.getElem?_eq_some_iff.1 ho).1
  have hb : ∀ j, (bitsOf ops i).testBit j = true → listed.getD j false = true := closed_before hE hc i _ ho hl
  have hWn : W.l.length = W.n := hr0.wf
  have hVlen : ∀ j, j ≤ k → (T j).V.length = W.n := h.vlen (by rw [hV0]; exact hWn)
  have hold : ∀ j, j ≤ k → ∀ c ob, (⟨W.n, (T j).V⟩ : RW).get c = some ob → ob.lt W.n ∧ ∃ o0, W.get c = some o0 ∧ (ob.own = true → o0.own = true) ∧ (ob.live = true → o0.live = true) := by
    have := h.old (by rw [hV0]; exact hWn) (fun c ob hg => hr0.lt c ob (by rw [hV0] at hg; exact hg))
    rw [hV0] at this
    exact this
  have hnT : ∀ j, j ≤ k → (T j).t.n = (T 0).t.n := h.num
  obtain ⟨th', t1, t2, t3, t4, t5⟩ := h.threshold inv hi (by omega) hun hb
  -- the temporaries as the evaluator has them
  have hlate : ∀ d, (T 0).t.n ≤ d → ∀ j oj, j < k → ops[j]? = some oj → oj.dst ≠ some d := by
    intro d hd j oj hj hoj he
    obtain ⟨o2, r2, x2, ho2, _, st2⟩ := h.step j hj
    have : o2 = oj := Option.some.inj (ho2.symm.trans hoj)
    subst this
    have := st2.dn d he
    rw [hnT j (Nat.le_of_lt hj)] at this
    exact Nat.not_lt.2 hd this
  have htr : TR m (T i).t ((List.range (T 0).t.n).map fun d => rv m ((T i).t.get d)).toArray := by
    refine ⟨by simp [hnT i hik], fun d => ?_⟩
    rw [Array.getD_eq_getD_getElem?]
    by_cases hd : d < (T 0).t.n
    · simp [hd]
    · rw [Array.getElem?_eq_none (by simpa using hd), h.first hik fun l ol hl hol => hlate d (by omega) l ol (by omega) hol]
      rw [← inv.same d fun j oj hj _ hoj => hlate d (by omega) j oj hj hoj]
      rw [Array.getD_eq_getD_getElem?, Array.getElem?_eq_none (by rw [inv.size]; omega)]
  have hlt : tlt (W.n + (T i).sl.length) (T i).t := h.lows h0 i hik
  have hglb : ∀ j g, Env.ids[j]? = some g → j < W.n + (T i).sl.length := fun j g hj => by
    have := (hr0.glb j g hj).1
    omega
  -- new blocks as it sees them
  have hslots : ∀ c o2, W.n ≤ c → ((T i).sl.reverse[c - W.n]?).map (fun x => if (bitsOf ops i).testBit x.1 then x.2.toRo else RObj.dead) = some o2 →
      (o2 = .dead ∨ ∃ o1, (WS ⟨W.n, (T th).V⟩ (T k).sl listed).get c = some o1 ∧ (o2 = o1.toRo ∨ o2 = o1)) ∧ o2.lt (W.n + (T i).sl.length) := by
    intro c o2 hcl hg
    cases hx : (T i).sl.reverse[c - W.n]? with
    | none => rw [hx] at hg; simp at hg
    | some y =>
      rw [hx] at hg
      simp only [Option.map_some, Option.some.injEq] at hg
      have hq : c - W.n < (T i).sl.length := by
        have := (List.getElem?_eq_some_iff.1 hx).1
        simpa using this
      split at hg
      · rename_i hbit
        obtain ⟨j, ob⟩ := y
        obtain ⟨h1, h2, h3, _, h4⟩ := h.entry i hik _ j ob hx
        refine ⟨.inr ⟨ob, ?_, .inl hg.symm⟩, ?_⟩
        · rw [WS_get, if_neg (by simp only; omega), h.slot hik (Nat.le_refl k) hq, hx]
          simp only [Option.map_some, hb _ hbit, if_true]
        · rw [← hg]
          refine RObj.lt_mono ?_ (toRo_lt (newB_lt h4))
          have := h.len_le (show j + 1 ≤ i by omega) hik
          omega
      · exact ⟨.inl hg.symm, by rw [← hg]; trivial⟩
  -- what it looks at is as the evaluator has it
  have hlook : ∀ d, d ∈ looks ops o' → (((List.range (T 0).t.n).map fun d => rv m ((T i).t.get d)).toArray).getD d undef = fr.tmps.getD d undef := by
    intro d hd
    rw [htr.get]
    by_cases hw : ∃ j oj, j < k ∧ j ≠ i ∧ ops[j]? = some oj ∧ oj.dst = some d
    · obtain ⟨j, oj, hj, hji, hoj, hdj⟩ := hw
      rcases (h.apart j i oj _ hj hi hji hoj ho d hdj).2 hd with hbit | hbit
      · have hlj := hb j hbit
        have hjlt := before_lt hE i j hbit
        rw [inv.wrote j oj d hj hlj hoj hdj, h.kept hjlt hik hoj hdj, h.kept hj (Nat.le_refl k) hoj hdj]
      · have hilt := before_lt hE j i hbit
        have hlj : listed.getD j false = false := by
          cases hx : listed.getD j false with
          | false => rfl
          | true =>
            have := closed_bits hE hc hx hbit
            rw [off_both hun] at this
            simp at this
        rw [h.first hik fun l ol hll hol hld => (h.apart j l oj ol hj (by omega) (by omega) hoj hol d hdj).1 hld]
        refine (inv.same d fun l ol hl hll hol hld => ?_).symm
        by_cases e : l = j
        · subst e
          rw [hlj] at hll
          simp at hll
        · exact (h.apart j l oj ol hj hl (Ne.symm e) hoj hol d hdj).1 hld
    · have hno : ∀ j oj, j < k → j ≠ i → ops[j]? = some oj → oj.dst ≠ some d := fun j oj hj hji hoj hdj => hw ⟨j, oj, hj, hji, hoj, hdj⟩
      rw [h.first hik fun l ol hll hol => hno l ol (by omega) (by omega) hol]
      refine (inv.same d fun j oj hj hlj hoj => hno j oj hj (fun e => ?_) hoj).symm
      subst e
      rw [off_both hun] at hlj
      simp at hlj
  have hexec : execOp (evV ((List.range (T 0).t.n).map fun d => rv m ((T i).t.get d)).toArray) o' = execOp (evV fr.tmps) o' := by
    refine execOp_congr o' (noSelect hok.op) fun y hy => ?_
    cases y with
    | tmp d => exact hlook d (List.mem_append_left _ (List.mem_filterMap.2 ⟨.tmp d, by simpa using hy, rfl⟩))
    | _ => rfl
  have hwant : Region.wanted o' (yielded ops fr.tmps) = wantedR (T i).t r.guard := by
    rw [← wanted_ok hok htr]
    unfold Region.wanted
    cases hg : o'.guard with
    | none => rfl
    | some gw =>
      obtain ⟨g, want⟩ := gw
      simp only
      rw [yielded_congr (a := fr.tmps) (b := ((List.range (T 0).t.n).map fun d => rv m ((T i).t.get d)).toArray) (by rw [inv.size]; simp)]
      intro d hd
      refine (hlook d (List.mem_append_right _ ?_)).symm
      rw [hg]
      simp [hd]
  have hdn : ∀ d, o'.dst = some d → d < (T 0).t.n := fun d hd => by rw [← hnT i hik]; exact st.dn d hd
  have hlenk : (T (i + 1)).sl.length ≤ (T k).sl.length := h.len_le hi (Nat.le_refl k)
  have hleni : (T i).sl.length ≤ (T (i + 1)).sl.length := h.len_le (Nat.le_succ i) hi
  -- new blocks come, or none
  have extend : ∀ (w'' : World) (m2 : Nat → Loc), (T (i + 1)).V = (T i).V → Still w' w'' → Agree (W.n + (T i).sl.length) m m2 →
      (∀ q ob, (T i).sl.length ≤ q → (T (i + 1)).sl.reverse[q]? = some (i, ob) → ORel m2 ob (m2 (W.n + q)) w''.heap ∧ (ob.live = true → w'.heap.size ≤ (m2 (W.n + q)).blk)) →
      (∀ q1 q2 x y, (T i).sl.length ≤ q1 → (T i).sl.length ≤ q2 → (T (i + 1)).sl.reverse[q1]? = some (i, x) → (T (i + 1)).sl.reverse[q2]? = some (i, y) → x.own = true → y.live = true → q1 ≠ q2 → (m2 (W.n + q1)).blk ≠ (m2 (W.n + q2)).blk) →
      Steps P (lone fr cs w') (lone (fr.finish (rv m2 x)) cs w'') →
      ∃ m' w'' arr' th', Steps P (lone fr cs w') (lone { fr with tmps := arr', todo := .inRegion ops rest :: K } cs w'') ∧ Inv ops k ws T m0 W w (listed.setIfInBounds i true) m' w'' arr' th' := by
    intro w'' m2 hV hst hag hnew hinj hsteps
    -- where names lie from now on
    let m' : Nat → Loc := fun c => if W.n + (T i).sl.length ≤ c ∧ c < W.n + (T (i + 1)).sl.length then m2 c else m c
    have hm'new : ∀ c, W.n + (T i).sl.length ≤ c → c < W.n + (T (i + 1)).sl.length → m' c = m2 c := fun c h1 h2 => by
      show (if _ then _ else _) = _
      rw [if_pos ⟨h1, h2⟩]
    have hm'old : ∀ c, ¬ (W.n + (T i).sl.length ≤ c ∧ c < W.n + (T (i + 1)).sl.length) → m' c = m c := fun c h1 => by
      show (if _ then _ else _) = _
      rw [if_neg h1]
    have hknown : ∀ b, Known W.n (T k).sl listed b → m' b = m b := by
      intro b hbk
      apply hm'old
      rintro ⟨h1, h2⟩
      rcases hbk with hbk | ⟨q, j, ob, rfl, hqj, hlj⟩
      · omega
      · obtain ⟨ob2, h3, _⟩ := h.mine hi (q := q) (by omega) (by omega)
        rw [h3] at hqj
        simp only [Option.some.injEq, Prod.mk.injEq] at hqj
        rw [← hqj.1, off_both hun] at hlj
        simp at hlj
    have hm'low : ∀ c, c < W.n → m' c = m c := fun c hc => hm'old c (by omega)
    -- names that it may give
    have hmade : ∀ b, b < W.n + (T (i + 1)).sl.length → madeN W.n (bitsOf ops i) (T i).sl (W.n + (T i).sl.length) (W.n + (T (i + 1)).sl.length) b = true → m' b = m2 b := by
      intro b hb1 hb2
      by_cases hn : W.n + (T i).sl.length ≤ b
      · exact hm'new b hn hb1
      · have hv : visN W.n (bitsOf ops i) (T i).sl b = true := by
          unfold madeN at hb2
          rw [Bool.or_eq_true, Bool.and_eq_true] at hb2
          rcases hb2 with hb2 | hb2
          · exact absurd (Nat.le_of_ble_eq_true hb2.1) hn
          · exact hb2
        rw [hknown b (h.vis hi hb hv), hag b (by omega)]
    have hxv : rv m' x = rv m2 x := rv_names (n := W.n + (T (i + 1)).sl.length) (fun b h1 h2 => hmade b h1 h2) x st.below st.names
    rw [finish_region htd ho, ← hxv] at hsteps
    obtain ⟨s1, s2, s3⟩ := h.temps inv h0 hi ho hs (m' := m') (v := rv m' x) (fun d hd => ⟨hdn d hd, by rw [st.get, if_pos hd]⟩) hknown hE hc
    have hVth : (T th').V = (T th).V := by
      by_cases hw : ∃ c, Wr ops ws i c
      · obtain ⟨e1, e2⟩ := t4 hw
        rw [e1, hV, e2]
      · rw [t5 fun c hcw => hw ⟨c, hcw⟩]
    have hrel1 := inv.rel.still hst
    have hblk : ∀ c oc, (WS ⟨W.n, (T th).V⟩ (T k).sl listed).get c = some oc → oc.live = true → (m c).blk < w'.heap.size := fun c oc hc hlv => (inv.rel.obj c oc hc).lt_size hlv
    -- each block now: a new one, or as before
    have hget : ∀ c oc, (WS ⟨W.n, (T th').V⟩ (T k).sl (listed.setIfInBounds i true)).get c = some oc →
        (∃ q, c = W.n + q ∧ (T i).sl.length ≤ q ∧ q < (T (i + 1)).sl.length ∧ (T (i + 1)).sl.reverse[q]? = some (i, oc)) ∨
        (¬ (W.n + (T i).sl.length ≤ c ∧ c < W.n + (T (i + 1)).sl.length) ∧ (WS ⟨W.n, (T th).V⟩ (T k).sl listed).get c = some oc) := by
      intro c oc hgc
      rw [WS_get] at hgc
      simp only [hVth] at hgc
      split at hgc
      · rename_i hcl
        right
        refine ⟨by omega, ?_⟩
        rw [WS_get, if_pos hcl]
        exact hgc
      · rename_i hcl
        by_cases hn : W.n + (T i).sl.length ≤ c ∧ c < W.n + (T (i + 1)).sl.length
        · left
          obtain ⟨ob, h1, h2⟩ := h.mine hi (q := c - W.n) (by omega) (by omega)
          rw [h1] at hgc
          simp [hs, hin] at hgc
          subst hgc
          exact ⟨c - W.n, by omega, by omega, by omega, h2⟩
        · right
          refine ⟨hn, ?_⟩
          rw [WS_get, if_neg hcl]
          cases hq : (T k).sl.reverse[c - W.n]? with
          | none => rw [hq] at hgc; simp at hgc
          | some y =>
            obtain ⟨j, ob2⟩ := y
            rw [hq] at hgc
            obtain ⟨_, h5, h6, _⟩ := h.entry k (Nat.le_refl k) _ j ob2 hq
            have hji : i ≠ j := by
              intro e
              subst e
              have hcl' : ¬ c < W.n := hcl
              omega
            simp only [Option.map_some, getD_set_ne false hji] at hgc ⊢
            exact hgc
    refine ⟨m', w'', _, th', hsteps, t1, t2, t3, ⟨WS_wf (by show (T th').V.length = W.n; exact hVlen th' t1) _ _, ?_, ?_, ?_, ?_⟩, s1, s2, s3, ?_⟩
    · intro c oc hgc
      rcases hget c oc hgc with ⟨q, rfl, h1, h2, h3⟩ | ⟨hn, hgo⟩
      · rw [hm'new _ (by omega) (by omega)]
        obtain ⟨_, _, _, _, h8⟩ := h.entry (i + 1) hi q i oc h3
        exact ORel.names h8 (hnew q oc h1 h3).1 hmade
      · rw [hm'old c hn]
        have hoc := hrel1.obj c oc hgo
        rw [WS_get] at hgo
        split at hgo
        · refine hoc.agree (hold th inv.le c oc hgo).1 fun b hbl => hm'low b hbl
        · cases hq : (T k).sl.reverse[c - W.n]? with
          | none => simp only at hgo; rw [hq] at hgo; simp at hgo
          | some y =>
            obtain ⟨j, ob2⟩ := y
            simp only at hgo
            rw [hq] at hgo
            simp only [Option.map_some, Option.some.injEq] at hgo
            split at hgo
            · rename_i hlj
              subst hgo
              obtain ⟨hjk, _, _, _, h8⟩ := h.entry k (Nat.le_refl k) _ j ob2 hq
              exact ORel.names h8 hoc fun b _ hbn => hknown b (h.vis2 hjk hlj (fun l hl => closed_bits hE hc hlj hl) hbn)
            · subst hgo
              trivial
    · intro c oc hgc
      show oc.lt (W.n + (T k).sl.length)
      rcases hget c oc hgc with ⟨q, rfl, h1, h2, h3⟩ | ⟨hn, hgo⟩
      · obtain ⟨_, _, _, _, h8⟩ := h.entry (i + 1) hi q i oc h3
        exact RObj.lt_mono (by omega) (newB_lt h8)
      · exact inv.rel.lt c oc hgo
    · intro a b xa yb ha hbg hxo hyl hab
      rcases hget a xa ha with ⟨q1, rfl, h1, h2, h3⟩ | ⟨hn1, hg1⟩
      · rw [hm'new _ (by omega) (by omega)]
        have hsz1 := (hnew q1 xa h1 h3).2 (own_live hxo)
        rcases hget b yb hbg with ⟨q2, rfl, h4, h5, h6⟩ | ⟨hn2, hg2⟩
        · rw [hm'new _ (by omega) (by omega)]
          exact hinj q1 q2 xa yb h1 h4 h3 h6 hxo hyl (by omega)
        · rw [hm'old b hn2]
          have := hblk b yb hg2 hyl
          omega
      · rw [hm'old a hn1]
        have hsz1 := hblk a xa hg1 (own_live hxo)
        rcases hget b yb hbg with ⟨q2, rfl, h4, h5, h6⟩ | ⟨hn2, hg2⟩
        · rw [hm'new _ (by omega) (by omega)]
          have := (hnew q2 yb h4 h6).2 hyl
          omega
        · rw [hm'old b hn2]
          exact inv.rel.inj a b xa yb hg1 hg2 hxo hyl hab
    · intro j g hj
      have h1 := hr0.glb j g hj
      have h2 := inv.rel.glb j g hj
      refine ⟨Nat.lt_of_lt_of_le h1.1 (Nat.le_add_right _ _), ?_⟩
      rw [hm'low j h1.1]
      exact h2.2
    · have hp := inv.post.still hst
      refine ⟨fun b hbn => ?_, Nat.le_add_right _ _, hp.size, hp.keep, ?_, hp.os, hp.tape, hp.output⟩
      · rw [hm'low b hbn]
        exact hp.ag b hbn
      · intro c oc hgc hoc
        rcases hget c oc hgc with ⟨q, rfl, h1, h2, h3⟩ | ⟨hn, hgo⟩
        · left
          rw [hm'new _ (by omega) (by omega)]
          exact Nat.le_trans inv.post.size ((hnew q oc h1 h3).2 (own_live hoc))
        · rw [hm'old c hn]
          exact hp.own c oc hgo hoc
  have same : Still w' w' := ⟨Nat.le_refl _, fun _ _ => rfl, rfl, rfl, rfl⟩
  -- no new blocks
  have none_new : (T (i + 1)).sl = (T i).sl → ∀ q ob, (T i).sl.length ≤ q → (T (i + 1)).sl.reverse[q]? = some (i, ob) → False := by
    intro hS q ob h1 h2
    rw [hS] at h2
    have := (List.getElem?_eq_some_iff.1 h2).1
    simp at this
    omega
  have quiet : ∀ (w'' : World), (T (i + 1)).sl = (T i).sl → (T (i + 1)).V = (T i).V → Still w' w'' → Steps P (lone fr cs w') (lone (fr.finish (rv m x)) cs w'') →
      ∃ m' w'' arr' th', Steps P (lone fr cs w') (lone { fr with tmps := arr', todo := .inRegion ops rest :: K } cs w'') ∧ Inv ops k ws T m0 W w (listed.setIfInBounds i true) m' w'' arr' th' := by
    intro w'' hS hV hst hsteps
    exact extend w'' m hV hst (fun _ _ => rfl) (fun q ob h1 h2 => (none_new hS q ob h1 h2).elim) (fun q1 _ x1 _ h1 _ h2 _ _ _ _ => (none_new hS q1 x1 h1 h2).elim) hsteps
  rcases st.kind with ⟨h1, h2, h3, h4⟩ | ⟨h1, e, he, hk⟩
  · refine quiet w' h3 h4 same ?_
    rw [h2]
    exact step_op_skip' hm htd ho (by rw [hwant, h1])
  · have hw := hwant.trans h1
    have hd := noDefer hok.op
    -- memory as it sees it, where it is no store
    have hview : r.st = none → Rel m (viewOf W.n (bitsOf ops i) i ws r.st (T i)) w' ∧ (viewOf W.n (bitsOf ops i) i ws r.st (T i)).n = W.n + (T i).sl.length ∧ ∀ c ob, (viewOf W.n (bitsOf ops i) i ws r.st (T i)).get c = some ob → ob.own = false := by
      intro hst
      have hvw : viewOf W.n (bitsOf ops i) i ws r.st (T i) = seen W.n (bitsOf ops i) ((killW W.n (bitsOf ops i) i ws (T i).V).map RObj.toRo) (T i).sl := by
        unfold viewOf; rw [hst]
      rw [hvw]
      have hro : ∀ y : RObj, y.toRo.own = false := fun y => by cases y <;> rfl
      have hlow : ∀ c o2, c < W.n → (⟨W.n, (killW W.n (bitsOf ops i) i ws (T i).V).map RObj.toRo⟩ : RW).get c = some o2 → o2.own = false ∧
          (o2 = .dead ∨ ∃ o1, (WS ⟨W.n, (T th).V⟩ (T k).sl listed).get c = some o1 ∧ (o2 = o1.toRo ∨ o2 = o1)) ∧ o2.lt (W.n + (T i).sl.length) := by
        intro c o2 hcl hg
        rw [get_map] at hg
        cases hkg : (⟨W.n, killW W.n (bitsOf ops i) i ws (T i).V⟩ : RW).get c with
        | none => rw [hkg] at hg; simp at hg
        | some o1 =>
          rw [hkg] at hg
          simp only [Option.map_some, Option.some.injEq] at hg
          subst hg
          refine ⟨hro o1, ?_⟩
          rcases kill_get hcl ws _ o1 hkg with rfl | ⟨h5, h6⟩
          · exact ⟨.inl rfl, trivial⟩
          · refine ⟨.inr ⟨o1, ?_, .inl rfl⟩, RObj.lt_mono (Nat.le_add_right _ _) (toRo_lt (hold i hik c o1 h5).1)⟩
            rw [WS_get, if_pos hcl]
            exact (h.now hE hc inv hi hun hb hcl h6).trans h5
      refine ⟨inv.rel.less (seen_wf (by rw [List.length_map, kill_len]; exact hVlen i hik)) ?_ ?_ hglb, rfl, ?_⟩
      · intro c o2 hg
        rw [seen_get] at hg
        split at hg
        · rename_i hcl
          exact (hlow c o2 hcl hg).2.1
        · rename_i hcl
          exact (hslots c o2 (by omega) hg).1
      · intro c o2 hg
        rw [seen_get] at hg
        show o2.lt (W.n + (T i).sl.length)
        split at hg
        · rename_i hcl
          exact (hlow c o2 hcl hg).2.2
        · rename_i hcl
          exact (hslots c o2 (by omega) hg).2
      · intro c o2 hg
        rw [seen_get] at hg
        split at hg
        · rename_i hcl
          exact (hlow c o2 hcl hg).1
        · cases hq : (T i).sl.reverse[c - W.n]? with
          | none => rw [hq] at hg; simp at hg
          | some y =>
            rw [hq] at hg
            simp only [Option.map_some, Option.some.injEq] at hg
            rw [← hg]
            split
            · exact hro _
            · rfl
    have nost : (∀ y W', e ≠ .wr y W') → r.st = none := by
      intro hne
      cases hst : r.st with
      | none => rfl
      | some a =>
        obtain ⟨W', c, off, c1, c2, kd, he2, _⟩ := store_spec hok.op (by rw [← hok.st]; exact hst) he
        exact absurd he2 (hne _ _)
    rcases hk with ⟨rfl, h3, h4⟩ | ⟨ob, mk, rfl, hx, h3, h4⟩ | ⟨f, args, W2, rfl, hcall, h4, hsl⟩ | ⟨y, W2, a, c, off, cells, kd, rfl, hsa, ha, hcl, hwr, hg2, hbl, hxu, h3, h4⟩
    · obtain ⟨hrel, hvn, _⟩ := hview (nost (by simp))
      have heff := decOp_ok (w := w') ⟨htr, by rw [hvn]; exact hlt, hrel⟩ hok.op he
      rw [hexec] at heff
      obtain ⟨_, nx, h5, h6⟩ := heff
      exact quiet w' h3 h4 same (step_op hm htd ho hw hd h5 h6)
    · -- a new block
      obtain ⟨hrel, hvn, _⟩ := hview (nost (by simp))
      have heff := decOp_ok (w := w') ⟨htr, by rw [hvn]; exact hlt, hrel⟩ hok.op he
      rw [hexec] at heff
      obtain ⟨_, robj, cap, nx, hrun, hall⟩ := heff
      rw [hvn] at hall
      obtain ⟨hdone, horel, _⟩ := hall (upd m (W.n + (T i).sl.length) ⟨w'.heap.size, 0, cap⟩) (W.n + (T i).sl.length) (agree_upd _ _ _) (by simp [upd])
      rw [← hx] at hdone
      have hone : ∀ q oc, (T i).sl.length ≤ q → (T (i + 1)).sl.reverse[q]? = some (i, oc) → q = (T i).sl.length ∧ oc = ob := by
        intro q oc hq1 hq2
        have hql : q < (T (i + 1)).sl.length := by
          have := (List.getElem?_eq_some_iff.1 hq2).1
          simpa using this
        rw [h3] at hql hq2
        have hqe : q = (T i).sl.length := by simp at hql; omega
        refine ⟨hqe, ?_⟩
        rw [hqe, List.reverse_cons, List.getElem?_append_right (by simp)] at hq2
        simp at hq2
        exact hq2.symm
      refine extend { w' with heap := w'.heap.push robj } (upd m (W.n + (T i).sl.length) ⟨w'.heap.size, 0, cap⟩) h4 ⟨by simp, fun q hq => by simp [Array.getElem?_push, Nat.ne_of_lt hq], rfl, rfl, rfl⟩ (agree_upd _ _ _) ?_ ?_ (step_op hm htd ho hw hd hrun hdone)
      · intro q oc hq1 hq2
        obtain ⟨rfl, rfl⟩ := hone q oc hq1 hq2
        have : upd m (W.n + (T i).sl.length) ⟨w'.heap.size, 0, cap⟩ (W.n + (T i).sl.length) = ⟨w'.heap.size, 0, cap⟩ := by simp [upd]
        rw [this]
        exact ⟨horel, fun _ => Nat.le_refl _⟩
      · intro q1 q2 x1 y1 hq1 hq2 hx1 hy1 _ _ hne
        exact absurd ((hone q1 x1 hq1 hx1).1.trans (hone q2 y1 hq2 hy1).1.symm) hne
    · -- a call
      obtain ⟨hrel, hvn, hvown⟩ := hview (nost (by simp))
      have heff := decOp_ok (w := w') ⟨htr, by rw [hvn]; exact hlt, hrel⟩ hok.op he
      rw [hexec] at heff
      obtain ⟨h5, h6, h7⟩ := heff
      obtain ⟨m2, w2, hcr, hr2, hp2, hx2⟩ := callV_ok hev hN hcall hrel h5 h6 fr cs
      have hst : Still w' w2 := ⟨hp2.size, fun q hq => hp2.keep q hq fun b ob hg hown => by rw [hvown b ob hg] at hown; simp at hown, hp2.os, hp2.tape, hp2.output⟩
      have hsteps : Steps P (lone fr cs w') (lone (fr.finish (rv m2 x)) cs w2) := by
        rcases hcr with ⟨g, as, hrun, hst2⟩ | ⟨l, f', tm, a, b, hrun, hst2⟩
        · exact (step_enter hm htd ho hw hd (by rw [h7]; exact hrun)).trans hst2
        · exact (step_round hm htd ho hw hd (by rw [h7]; exact hrun)).trans hst2
      have hag : Agree (W.n + (T i).sl.length) m m2 := by
        have := hp2.ag
        rw [hvn] at this
        exact this
      rcases hsl with hsl | ⟨hlen, l, hlt2, hsl⟩
      · exact extend w2 m2 h4 hst hag (fun q ob hq1 hq2 => (none_new hsl q ob hq1 hq2).elim) (fun q1 _ x1 _ hq1 _ hq2 _ _ _ _ => (none_new hsl q1 x1 hq1 hq2).elim) hsteps
      · obtain ⟨hl1, hl2⟩ := ltake_spec _ _ hlt2
        have hwf2 : W2.l.length = W2.n := hr2.wf
        -- a new block is one of the call's
        have hblock : ∀ q oc, (T i).sl.length ≤ q → (T (i + 1)).sl.reverse[q]? = some (i, oc) → ∃ o1, W2.get (W.n + q) = some o1 ∧ (oc = .dead ∨ (oc = o1 ∧ o1.own = true)) := by
          intro q oc hq1 hq2
          have hql : q < (T (i + 1)).sl.length := by
            have := (List.getElem?_eq_some_iff.1 hq2).1
            simpa using this
          rw [hsl, List.reverse_append, List.getElem?_append_right (by simpa using hq1), ← List.map_reverse, List.getElem?_map] at hq2
          cases hn : l.reverse[q - (T i).sl.reverse.length]? with
          | none => rw [hn] at hq2; simp at hq2
          | some o1 =>
            rw [hn] at hq2
            simp only [Option.map_some, Option.some.injEq, Prod.mk.injEq, true_and] at hq2
            have hll : l.length = W2.n - (W.n + (T i).sl.length) := by rw [hl2, List.length_take]; omega
            refine ⟨o1, ?_, ?_⟩
            · unfold RW.get
              simp only [blt_eq]
              rw [if_pos (by simp; omega), lget_eq]
              rw [List.length_reverse] at hn
              have hidx : q - (T i).sl.length < l.length := by
                have := (List.getElem?_eq_some_iff.1 hn).1
                simpa using this
              rw [List.getElem?_reverse hidx] at hn
              rw [show l.length - 1 - (q - (T i).sl.length) = W2.n - 1 - (W.n + q) by omega] at hn
              rw [hl2, List.getElem?_take] at hn
              split at hn
              · exact hn
              · simp at hn
            · rw [← hq2]
              exact (keepB_spec o1).2
        refine extend w2 m2 h4 hst hag ?_ ?_ hsteps
        · intro q oc hq1 hq2
          obtain ⟨o1, hg1, hoc⟩ := hblock q oc hq1 hq2
          have ho1 := hr2.obj _ o1 hg1
          rcases hoc with rfl | ⟨rfl, hown⟩
          · exact ⟨trivial, fun hlv => by simp [RObj.live] at hlv⟩
          · refine ⟨ho1, fun _ => ?_⟩
            rcases hp2.own _ oc hg1 hown with h8 | ⟨a, xa, h8, h9, _⟩
            · exact h8
            · rw [hvown a xa h8] at h9; simp at h9
        · intro q1 q2 x1 y1 hq1 hq2 hx1 hy1 hxo hyl hne
          obtain ⟨o1, hg1, hoc1⟩ := hblock q1 x1 hq1 hx1
          obtain ⟨o2, hg3, hoc2⟩ := hblock q2 y1 hq2 hy1
          rcases hoc1 with rfl | ⟨rfl, _⟩
          · simp [RObj.own] at hxo
          · rcases hoc2 with rfl | ⟨rfl, _⟩
            · simp [RObj.live] at hyl
            · exact hr2.inj _ _ _ _ hg1 hg3 hxo hyl (by omega)
    · -- a store
      obtain ⟨hth', hVth⟩ := t4 ⟨c, hwr⟩
      subst hth'
      have hvw : viewOf W.n (bitsOf ops i) i ws r.st (T i) = seen W.n (bitsOf ops i) (T i).V (T i).sl := by
        unfold viewOf; rw [hsa]
      rw [hvw] at he
      obtain ⟨W3, c3, off3, cs0, cs3, kd3, he3, ha3, hg3, hro3, hset⟩ := store_spec hok.op (by rw [← hok.st]; exact hsa) he
      simp only [Eff.wr.injEq] at he3
      obtain ⟨rfl, rfl⟩ := he3
      rw [ha] at ha3
      simp only [RV.ptr.injEq] at ha3
      obtain ⟨rfl, _⟩ := ha3
      have hro : ∀ y : RObj, y.toRo.own = false := fun y => by cases y <;> rfl
      have hlowget : ∀ d, d < W.n → (seen W.n (bitsOf ops i) (T i).V (T i).sl).get d = (WS ⟨W.n, (T th).V⟩ (T k).sl listed).get d := by
        intro d hdl
        rw [seen_get, if_pos hdl, WS_get, if_pos hdl, hVth]
      have hviewown : ∀ d od, (seen W.n (bitsOf ops i) (T i).V (T i).sl).get d = some od → od.own = true → d < W.n := by
        intro d od hg hown
        rcases Nat.lt_or_ge d W.n with h8 | h8
        · exact h8
        · rw [seen_get, if_neg (by omega)] at hg
          cases hq : (T i).sl.reverse[d - W.n]? with
          | none => rw [hq] at hg; simp at hg
          | some z =>
            rw [hq] at hg
            simp only [Option.map_some, Option.some.injEq] at hg
            rw [← hg] at hown
            split at hown
            · rw [hro] at hown; simp at hown
            · simp [RObj.own] at hown
      have hrel : Rel m (seen W.n (bitsOf ops i) (T i).V (T i).sl) w' := by
        refine inv.rel.less (seen_wf (hVlen i hik)) ?_ ?_ hglb
        · intro d o2 hg
          rcases Nat.lt_or_ge d W.n with h8 | h8
          · rw [hlowget d h8] at hg
            exact .inr ⟨o2, hg, .inr rfl⟩
          · rw [seen_get, if_neg (by omega)] at hg
            exact (hslots d o2 h8 hg).1
        · intro d o2 hg
          show o2.lt (W.n + (T i).sl.length)
          rw [seen_get] at hg
          split at hg
          · exact RObj.lt_mono (Nat.le_add_right _ _) (hold i hik d o2 hg).1
          · rename_i h8
            exact (hslots d o2 (by omega) hg).2
      have heff := decOp_ok (w := w') ⟨htr, hlt, hrel⟩ hok.op he
      rw [hexec] at heff
      obtain ⟨m2, w2, nx, hrun, hdone, hr2, hp2, _⟩ := heff
      obtain ⟨s1, s2, s3, s4⟩ := set_spec hset
      have s4 := s4 (seen_wf (hVlen i hik))
      have hag : Agree (W.n + (T i).sl.length) m m2 := hp2.ag
      have hagL : Agree W.n m2 m := fun b hbn => (hag b (by omega)).symm
      have hsteps := step_op (cs := cs) hm htd ho hw hd hrun hdone
      rw [finish_region htd ho] at hsteps
      have hcV : c < (T i).V.length := by rw [hVlen i hik]; exact hcl
      have hcells : W2.get c = some (.cells cs3 kd3) := by rw [s4, if_pos rfl]
      rw [hcells] at hg2
      simp only [Option.some.injEq, RObj.cells.injEq] at hg2
      obtain ⟨rfl, rfl⟩ := hg2
      -- memory behind it
      have hget : ∀ d, (WS ⟨W.n, (T (i + 1)).V⟩ (T k).sl (listed.setIfInBounds i true)).get d = if d < W.n then W2.get d else (WS ⟨W.n, (T th).V⟩ (T k).sl listed).get d := by
        intro d
        rw [WS_get]
        by_cases hdl : d < W.n
        · simp only [hdl, if_true]
          rw [h4, s4]
          by_cases hdc : d = c
          · subst hdc
            rw [get_at hdl, List.getElem?_set_self (by rw [hVlen i hik]; omega), if_pos rfl]
          · rw [if_neg hdc, get_at hdl, List.getElem?_set_ne (by omega), ← get_at hdl, seen_get, if_pos hdl]
        · simp only [hdl, if_false]
          rw [WS_get, if_neg hdl]
          cases hq : (T k).sl.reverse[d - W.n]? with
          | none => rfl
          | some z =>
            obtain ⟨j, ob2⟩ := z
            obtain ⟨_, h5, h6, _⟩ := h.entry k (Nat.le_refl k) _ j ob2 hq
            have hji : i ≠ j := by
              intro e
              subst e
              rw [h3] at h6
              omega
            simp only [Option.map_some, getD_set_ne false hji]
      -- own and live are as they were
      have hkind : ∀ d od, (WS ⟨W.n, (T (i + 1)).V⟩ (T k).sl (listed.setIfInBounds i true)).get d = some od → ∃ o0, (WS ⟨W.n, (T th).V⟩ (T k).sl listed).get d = some o0 ∧ (od.own = true → o0.own = true) ∧ (od.live = true → o0.live = true) := by
        intro d od hg
        rw [hget] at hg
        split at hg
        · rename_i hdl
          rw [s4] at hg
          by_cases hdc : d = c
          · subst hdc
            rw [hlowget d hdl] at hg3
            refine ⟨_, hg3, fun _ => ?_, fun _ => rfl⟩
            cases kd3 with
            | ro => exact absurd rfl hro3.1
            | rx => exact absurd rfl hro3.2
            | ex => rfl
            | gr => rfl
            | bd _ => rfl
            | gy _ => rfl
          · rw [if_neg hdc, hlowget d hdl] at hg
            exact ⟨od, hg, id, id⟩
        · exact ⟨od, hg, id, id⟩
      obtain ⟨u1, u2, u3⟩ := h.temps inv h0 hi ho hs (m' := m) (v := rv m2 ud) (fun d hd => ⟨hdn d hd, by rw [st.get, if_pos hd, hxu]; rfl⟩) (fun _ _ => rfl) hE hc
      have hmst : ∀ d od, (WS ⟨W.n, (T th).V⟩ (T k).sl listed).get d = some od → od.live = true → W.n ≤ d → w2.heap[(m d).blk]? = w'.heap[(m d).blk]? := by
        intro d od hg hlv hdn
        refine hp2.keep _ ((inv.rel.obj d od hg).lt_size hlv) fun b ob hgb hown => ?_
        have hbl := hviewown b ob hgb hown
        rw [hlowget b hbl] at hgb
        exact inv.rel.inj b d ob od hgb hg hown hlv (by omega)
      refine ⟨m, w2, _, i + 1, hsteps, t1, t2, t3, ⟨WS_wf (by show (T (i + 1)).V.length = W.n; exact hVlen (i + 1) hi) _ _, ?_, ?_, ?_, ?_⟩, u1, u2, u3, ?_⟩
      · intro d od hg
        have hg' := hg
        rw [hget] at hg
        split at hg
        · rename_i hdl
          have h8 := hr2.obj d od hg
          rw [hag d (by omega)] at h8
          refine h8.agree (n := W.n) ?_ hagL
          rw [WS_get, if_pos hdl] at hg'
          exact (hold (i + 1) hi d od hg').1
        · rename_i hdl
          exact (inv.rel.obj d od hg).heap fun hlv => hmst d od hg hlv (by omega)
      · intro d od hg
        show od.lt (W.n + (T k).sl.length)
        have hg' := hg
        rw [hget] at hg
        split at hg
        · rename_i hdl
          rw [WS_get, if_pos hdl] at hg'
          exact RObj.lt_mono (Nat.le_add_right _ _) (hold (i + 1) hi d od hg').1
        · exact inv.rel.lt d od hg
      · intro a1 b1 x1 y1 hga hgb hxo hyl hab
        obtain ⟨x0, hx0, hx0o, _⟩ := hkind a1 x1 hga
        obtain ⟨y0, hy0, _, hy0l⟩ := hkind b1 y1 hgb
        exact inv.rel.inj a1 b1 x0 y0 hx0 hy0 (hx0o hxo) (hy0l hyl) hab
      · intro j g hj
        exact ⟨Nat.lt_of_lt_of_le (hr0.glb j g hj).1 (Nat.le_add_right _ _), (inv.rel.glb j g hj).2⟩
      · refine ⟨inv.post.ag, Nat.le_add_right _ _, Nat.le_trans inv.post.size hp2.size, ?_, ?_, hp2.os.trans inv.post.os, hp2.tape.trans inv.post.tape, hp2.output.trans inv.post.output⟩
        · intro q hq hno
          rw [← inv.post.keep q hq hno]
          refine hp2.keep q (Nat.lt_of_lt_of_le hq inv.post.size) fun b ob hgb hown => ?_
          have hbl := hviewown b ob hgb hown
          rw [seen_get, if_pos hbl] at hgb
          obtain ⟨_, o0, h8, h9, _⟩ := hold i hik b ob hgb
          rw [inv.post.ag b hbl]
          exact hno b o0 h8 (h9 hown)
        · intro d od hg hown
          obtain ⟨o0, h8, h9, _⟩ := hkind d od hg
          exact inv.post.own d o0 h8 (h9 hown)
end
end Go.Rv
