/- Regions in the order of their text; control. -/
import Derived.Test.YtgchcfhbcaemoabGreatDoorRvP
namespace Go.Rv
open Go
variable [Env]
section
variable {P : Program} {ev : Ev}

structure OpOk (P : Program) (ops : Array Oper) (o : Oper) (r : ROper) : Prop where
  op : decOp P o = some r.op
  st : r.st = storeTo o.op
  put : PutOk r.put o.dst
  guard : (o.guard = none ∧ r.guard = none) ∨ ∃ j b d, o.guard = some (j, b) ∧ (ops[j]?).bind (·.dst) = some d ∧ r.guard = some (fun t => t.get d, b)

omit [Env] in
theorem fst_eq {β : Type} (x : Option Opd) (k : Option Opd → β) : fst x k = k x := by cases x <;> rfl

theorem decOper_ok {ops : Array Oper} {o : Oper} {r : ROper} (h : decOper P ops o = some r) : OpOk P ops o r := by
  unfold decOper at h
  split at h
  · rename_i op hop
    obtain ⟨g, hg, hput⟩ := putB_ok o.dst
    rw [hg] at h
    simp only at h
    split at h
    · rename_i hgd
      rw [fst_eq] at h
      simp only [Option.some.injEq] at h
      subst h
      exact ⟨hop, rfl, hput, .inl ⟨hgd, rfl⟩⟩
    · rename_i j b hgd
      split at h
      · rename_i d hd
        rw [tmpB_eq] at h
        simp only [fst_eq, Option.some.injEq] at h
        subst h
        exact ⟨hop, rfl, hput, .inr ⟨j, b, d, hgd, hd, rfl⟩⟩
      · simp at h
  · simp at h

theorem wanted_ok {ops : Array Oper} {o : Oper} {r : ROper} (h : OpOk P ops o r) {m : Nat → Loc} {t : RT} {arr : Array Value} (ht : TR m t arr) : Region.wanted o (yielded ops arr) = wantedR t r.guard := by
  rcases h.guard with ⟨h1, h2⟩ | ⟨j, b, d, h1, h2, h3⟩
  · simp [Region.wanted, h1, h2, wantedR]
  · have hget := ht.get d
    have hy : yielded ops arr j = match rv m (t.get d) with | .bool b => some b | _ => none := by
      unfold yielded
      rw [h2]
      simp only [Option.bind_some]
      rw [← hget, Array.getD_eq_getD_getElem?]
      cases arr[d]? with
      | none => rfl
      | some v => cases v <;> rfl
    simp only [Region.wanted, h1, h3, wantedR, hy]
    cases hx : t.get d with
    | v x => cases x <;> simp [rv]
    | _ => simp [rv]

theorem noDefer {o : Oper} {op : ROp} (h : decOp P o = some op) (c : Call) : o.op ≠ .defer c := by
  intro hc
  unfold decOp at h
  rw [hc] at h
  simp at h

def dstSet (d : Option Nat) (arr : Array Value) (v : Value) : Array Value := match d with
  | some d => arr.setIfInBounds d v
  | none => arr

omit [Env] in
theorem put_TR {m : Nat → Loc} {t t' : RT} {arr : Array Value} {g : Put} {d : Option Nat} {x : RV} {n : Nat} (hp : PutOk g d) (h : g t x = some t') (ht : TR m t arr) (hl : tlt n t) (hx : below n x = true) :
    TR m t' (dstSet d arr (rv m x)) ∧ tlt n t' := by
  obtain ⟨h1, h2, h3⟩ := hp t t' x h
  refine ⟨?_, fun i => by
    rw [h3 i]
    split
    · exact hx
    · exact hl i⟩
  cases d with
  | none =>
    exact ⟨by show arr.size = t'.n; rw [ht.size, h1], fun i => by rw [h3 i, if_neg (by simp)]; exact ht.get i⟩
  | some d =>
    refine ⟨by simp [dstSet, ht.size, h1], fun i => ?_⟩
    rw [h3 i]
    by_cases hi : d = i
    · subst hi
      have : d < arr.size := by rw [ht.size]; exact h2 d rfl
      simp [dstSet, this]
    · rw [if_neg (by simpa using hi), ← ht.get i]
      simp [dstSet, Array.getD_eq_getD_getElem?, Array.getElem?_setIfInBounds_ne hi]

omit [Env] in
theorem finish_region {fr : Frame} {ops : Array Oper} {i : Nat} {rest : List Nat} {k : List Item} {o : Oper} (ht : fr.todo = .inRegion ops (i :: rest) :: k) (ho : ops[i]? = some o) (v : Value) :
    fr.finish v = { fr with tmps := dstSet o.dst fr.tmps v, todo := .inRegion ops rest :: k } := by
  simp only [Frame.finish, ht, ho, Option.bind_some]
  cases o.dst <;> rfl

/-- an operation's effect, at its frame -/
theorem eff_ok (hev : EvOk P ev) (hN : NoOwn P) {ops : Array Oper} {o : Oper} {r : ROper} (hok : OpOk P ops o r) {t : RT} {W W' : RW} {x : RV} (h : effR P ev (r.op t W) W = some (x, W'))
    {m : Nat → Loc} {w : World} {fr : Frame} {cs : List Frame} {i : Nat} {rest : List Nat} {k : List Item} (hr : Rel m W w) (hl : tlt W.n t) (htr : TR m t fr.tmps) (hm : fr.mode = .run)
    (ht : fr.todo = .inRegion ops (i :: rest) :: k) (ho : ops[i]? = some o) (hw : Region.wanted o (yielded ops fr.tmps) = true) :
    ∃ m' w', Steps P (lone fr cs w) (lone (fr.finish (rv m' x)) cs w') ∧ Rel m' W' w' ∧ Post m W w m' W' w' ∧ below W'.n x = true := by
  have hd := noDefer hok.op
  unfold effR at h
  cases he : r.op t W with
  | none => rw [he] at h; simp at h
  | some e =>
    rw [he] at h
    have heff := decOp_ok (w := w) ⟨htr, hl, hr⟩ hok.op he
    cases e with
    | val y =>
      simp only [Option.some.injEq, Prod.mk.injEq] at h
      obtain ⟨rfl, rfl⟩ := h
      obtain ⟨h1, nx, h2, h3⟩ := heff
      exact ⟨m, w, step_op hm ht ho hw hd h2 h3, hr, Post.refl _ _ _, h1⟩
    | alloc ob mk =>
      simp only [fnat_eq, pushF_eq, Option.some.injEq, Prod.mk.injEq] at h
      obtain ⟨rfl, rfl⟩ := h
      obtain ⟨h1, robj, cap, nx, h2, h3⟩ := heff
      obtain ⟨h4, h5, h6⟩ := h3 (upd m W.n ⟨w.heap.size, 0, cap⟩) W.n (agree_upd _ _ _) (by simp [upd])
      obtain ⟨h7, h8⟩ := hr.push (l := ⟨w.heap.size, 0, cap⟩) rfl h5 (RObj.lt_mono (Nat.le_succ _) h1)
      exact ⟨_, _, step_op hm ht ho hw hd h2 h4, h7, h8, h6⟩
    | wr y W2 =>
      simp only [Option.some.injEq, Prod.mk.injEq] at h
      obtain ⟨rfl, rfl⟩ := h
      obtain ⟨m', w', nx, h1, h2, h3, h4, h5⟩ := heff
      exact ⟨m', w', step_op hm ht ho hw hd h1 h2, h3, h4, h5⟩
    | call f args =>
      obtain ⟨h1, h2, h3⟩ := heff
      obtain ⟨m', w', hcr, hr', hp', hx'⟩ := callV_ok hev hN h hr h1 h2 fr cs
      refine ⟨m', w', ?_, hr', hp', hx'⟩
      rcases hcr with ⟨g, as, hrun, hst⟩ | ⟨l, f', tm, a, b, hrun, hst⟩
      · exact (step_enter hm ht ho hw hd (by rw [h3]; exact hrun)).trans hst
      · exact (step_round hm ht ho hw hd (by rw [h3]; exact hrun)).trans hst

theorem oneR_ok (hev : EvOk P ev) (hN : NoOwn P) {ops : Array Oper} {o : Oper} {r : ROper} (hok : OpOk P ops o r) {t t' : RT} {W W' : RW} (h : oneR P ev r t W = some (t', W'))
    {m : Nat → Loc} {w : World} {fr : Frame} {cs : List Frame} {i : Nat} {rest : List Nat} {k : List Item} (hr : Rel m W w) (hl : tlt W.n t) (htr : TR m t fr.tmps) (hm : fr.mode = .run)
    (ht : fr.todo = .inRegion ops (i :: rest) :: k) (ho : ops[i]? = some o) :
    ∃ m' w' tm, Steps P (lone fr cs w) (lone { fr with tmps := tm, todo := .inRegion ops rest :: k } cs w') ∧ Rel m' W' w' ∧ Post m W w m' W' w' ∧ tlt W'.n t' ∧ TR m' t' tm := by
  unfold oneR at h
  have hwant := wanted_ok hok htr
  split at h
  · rename_i hw
    rw [hw] at hwant
    unfold doneR at h
    cases he : effR P ev (r.op t W) W with
    | none => rw [he] at h; simp at h
    | some q =>
      obtain ⟨x, W2⟩ := q
      rw [he] at h
      simp only at h
      split at h
      · rename_i t2 hput
        simp only [Option.some.injEq, Prod.mk.injEq] at h
        obtain ⟨rfl, rfl⟩ := h
        obtain ⟨m', w', st, hr', hp', hx'⟩ := eff_ok hev hN hok he hr hl htr hm ht ho hwant
        rw [finish_region ht ho] at st
        have hl' : tlt W2.n t := fun i => below_mono hp'.mono _ (hl i)
        obtain ⟨h1, h2⟩ := put_TR hok.put hput (htr.agree hl hp'.ag) hl' hx'
        exact ⟨m', w', _, st, hr', hp', h2, h1⟩
      · simp at h
  · rename_i hw
    have hw' : wantedR t r.guard = false := by simpa using hw
    rw [hw'] at hwant
    unfold doneR at h
    simp only at h
    split at h
    · rename_i t2 hput
      simp only [Option.some.injEq, Prod.mk.injEq] at h
      obtain ⟨rfl, rfl⟩ := h
      have st := step_op_skip' (P := P) (cs := cs) (w := w) hm ht ho hwant
      rw [finish_region ht ho] at st
      obtain ⟨h1, h2⟩ := put_TR (x := ud) hok.put hput htr hl rfl
      exact ⟨m, w, _, st, hr, Post.refl _ _ _, h2, h1⟩
    · simp at h

theorem seqR_ok (hev : EvOk P ev) (hN : NoOwn P) {ops : Array Oper} : ∀ (rs : List ROper) (is : List Nat) (t t' : RT) (W W' : RW), seqR P ev rs t W = some (t', W') →
    is.length = rs.length → (∀ (j i : Nat) (r : ROper), is[j]? = some i → rs[j]? = some r → ∃ o, ops[i]? = some o ∧ OpOk P ops o r) →
    ∀ (m : Nat → Loc) (w : World) (fr : Frame) (cs : List Frame) (k : List Item), Rel m W w → tlt W.n t → TR m t fr.tmps → fr.mode = .run → fr.todo = .inRegion ops is :: k →
    ∃ m' w' tm, Steps P (lone fr cs w) (lone { fr with tmps := tm, todo := k } cs w') ∧ Rel m' W' w' ∧ Post m W w m' W' w' ∧ tlt W'.n t' ∧ TR m' t' tm
  | [], is, t, t', W, W', h, hlen, hall, m, w, fr, cs, k, hr, hl, htr, hm, htd => by
    have h' : some (t, W) = some (t', W') := h
    simp only [Option.some.injEq, Prod.mk.injEq] at h'
    obtain ⟨rfl, rfl⟩ := h'
    have : is = [] := List.eq_nil_of_length_eq_zero hlen
    subst this
    exact ⟨m, w, fr.tmps, s_regionEnd hm htd, hr, Post.refl _ _ _, hl, htr⟩
  | r :: rs, is, t, t', W, W', h, hlen, hall, m, w, fr, cs, k, hr, hl, htr, hm, htd => by
    have h' : Option.rec (motive := fun _ => Option (RT × RW)) none (fun q => seqR P ev rs q.1 q.2) (oneR P ev r t W) = some (t', W') := h
    cases he : oneR P ev r t W with
    | none => rw [he] at h'; simp at h'
    | some q =>
      rw [he] at h'
      obtain ⟨t1, W1⟩ := q
      cases is with
      | nil => simp at hlen
      | cons i is =>
        obtain ⟨o, ho, hok⟩ := hall 0 i r rfl rfl
        obtain ⟨m1, w1, tm1, st1, hr1, hp1, hl1, ht1⟩ := oneR_ok hev hN hok he (cs := cs) hr hl htr hm htd ho
        obtain ⟨m2, w2, tm2, st2, hr2, hp2, hl2, ht2⟩ := seqR_ok hev hN rs is t1 t' W1 W' h' (by simpa using hlen) (fun j i r hi hr => hall (j + 1) i r (by simpa using hi) (by simpa using hr)) m1 w1 { fr with tmps := tm1, todo := .inRegion ops is :: k } cs k hr1 hl1 ht1 hm rfl
        exact ⟨m2, w2, tm2, st1.trans st2, hr2, hp1.trans hp2, hl2, ht2⟩

theorem decRegs_ok {ops : Array Oper} {l : List ROper} (h : omap (decOper P ops) ops.toList = some l) :
    l.length = ops.size ∧ ∀ (j : Nat) (r : ROper), l[j]? = some r → ∃ o, ops[j]? = some o ∧ OpOk P ops o r := by
  refine ⟨by rw [omap_length h]; simp, ?_⟩
  intro j r hj
  have hlen : l.length = ops.size := by rw [omap_length h]; simp
  have hjl : j < ops.size := by rw [← hlen]; exact (List.getElem?_eq_some_iff.1 hj).1
  obtain ⟨y, h1, h2⟩ := omap_get h j ops[j] (by simp [hjl])
  rw [hj] at h1
  simp only [Option.some.injEq] at h1
  subst h1
  exact ⟨ops[j], by simp [hjl], decOper_ok h2⟩
end
end Go.Rv
