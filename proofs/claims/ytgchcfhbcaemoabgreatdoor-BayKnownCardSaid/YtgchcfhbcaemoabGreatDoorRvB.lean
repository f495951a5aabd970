/- How the evaluator's values and memory stand for the machine's. -/
import Derived.Test.YtgchcfhbcaemoabGreatDoorRvA
namespace Go.Rv
open Go

structure Loc where
  blk : Nat
  off : Nat
  cap : Nat

mutual
def rv (m : Nat → Loc) : RV → Value
  | .v x => x
  | .ptr b o => .pointer (some ⟨(m b).blk, (m b).off + o, none⟩)
  | .sl b o n e => .slice (some ⟨(m b).blk, (m b).off + o, none⟩) n (((m b).cap - ((m b).off + o)) / e)
  | .mp b => .map (some (m b).blk)
  | .it b => .pointer (some ⟨(m b).blk, 0, none⟩)
  | .fn f a c => .func f (rvL m a).toArray (rvL m c).toArray
  | .yld b => .func (.yield (m b).blk) #[] #[]
  | .agg cs => .agg (rvL m cs).toArray
  | .tup cs => .tuple (rvL m cs).toArray
def rvL (m : Nat → Loc) : List RV → List Value
  | [] => []
  | x :: r => rv m x :: rvL m r
end

theorem rvL_eq (m : Nat → Loc) (l : List RV) : rvL m l = l.map (rv m) := by
  induction l with
  | nil => rfl
  | cons x r ih => simp [rvL, ih]

theorem belowL_iff (n : Nat) (l : List RV) : belowL n l = true ↔ ∀ x ∈ l, below n x = true := by
  induction l with
  | nil => simp [belowL]
  | cons x r ih => simp [belowL, ih]

theorem belowC_iff (n : Nat) (l : List RV) : belowC n l = true ↔ ∀ x ∈ l, oneB x = true ∧ below n x = true := by
  induction l with
  | nil => simp [belowC]
  | cons x r ih => simp [belowC, ih, and_assoc]

theorem belowC_L {n : Nat} {l : List RV} (h : belowC n l = true) : belowL n l = true :=
  (belowL_iff n l).2 fun x hx => ((belowC_iff n l).1 h x hx).2

def Agree (n : Nat) (m m' : Nat → Loc) : Prop := ∀ b, b < n → m' b = m b

mutual
theorem rv_agree {n : Nat} {m m' : Nat → Loc} (h : Agree n m m') : ∀ (x : RV), below n x = true → rv m' x = rv m x
  | .v _, _ => rfl
  | .ptr b o, hx => by
    have hb : b < n := by simpa [below, blt_eq] using hx
    simp only [rv, h b hb]
  | .sl b o k e, hx => by
    have hb : b < n := by simpa [below, blt_eq] using hx
    simp only [rv, h b hb]
  | .mp b, hx => by
    have hb : b < n := by simpa [below, blt_eq] using hx
    simp only [rv, h b hb]
  | .it b, hx => by
    have hb : b < n := by simpa [below, blt_eq] using hx
    simp only [rv, h b hb]
  | .yld b, hx => by
    have hb : b < n := by simpa [below, blt_eq] using hx
    simp only [rv, h b hb]
  | .fn f a c, hx => by
    have hx' : belowL n a = true ∧ belowL n c = true := by simpa [below] using hx
    simp only [rv, rvL_agree h a hx'.1, rvL_agree h c hx'.2]
  | .agg cs, hx => by
    have hx' : belowC n cs = true := by simpa [below] using hx
    simp only [rv, rvC_agree h cs hx']
  | .tup cs, hx => by
    have hx' : belowL n cs = true := by simpa [below] using hx
    simp only [rv, rvL_agree h cs hx']
theorem rvL_agree {n : Nat} {m m' : Nat → Loc} (h : Agree n m m') : ∀ (l : List RV), belowL n l = true → rvL m' l = rvL m l
  | [], _ => rfl
  | x :: r, hx => by
    have hx' : below n x = true ∧ belowL n r = true := by simpa [belowL] using hx
    simp only [rvL, rv_agree h x hx'.1, rvL_agree h r hx'.2]
theorem rvC_agree {n : Nat} {m m' : Nat → Loc} (h : Agree n m m') : ∀ (l : List RV), belowC n l = true → rvL m' l = rvL m l
  | [], _ => rfl
  | x :: r, hx => by
    have hx' : (oneB x = true ∧ below n x = true) ∧ belowC n r = true := by simpa [belowC] using hx
    simp only [rvL, rv_agree h x hx'.1.2, rvC_agree h r hx'.2]
end

mutual
theorem below_mono {n k : Nat} (h : n ≤ k) : ∀ (x : RV), below n x = true → below k x = true
  | .v _, hx => by simpa [below] using hx
  | .ptr b o, hx => by simp [below, blt_eq] at hx ⊢; omega
  | .sl b o _ _, hx => by simp [below, blt_eq] at hx ⊢; omega
  | .mp b, hx => by simp [below, blt_eq] at hx ⊢; omega
  | .it b, hx => by simp [below, blt_eq] at hx ⊢; omega
  | .yld b, hx => by simp [below, blt_eq] at hx ⊢; omega
  | .fn f a c, hx => by
    simp [below] at hx ⊢
    exact ⟨belowL_mono h a hx.1, belowL_mono h c hx.2⟩
  | .agg cs, hx => by
    simp [below] at hx ⊢
    exact belowC_mono h cs hx
  | .tup cs, hx => by
    simp [below] at hx ⊢
    exact belowL_mono h cs hx
theorem belowL_mono {n k : Nat} (h : n ≤ k) : ∀ (l : List RV), belowL n l = true → belowL k l = true
  | [], _ => rfl
  | x :: r, hx => by
    simp [belowL] at hx ⊢
    exact ⟨below_mono h x hx.1, belowL_mono h r hx.2⟩
theorem belowC_mono {n k : Nat} (h : n ≤ k) : ∀ (l : List RV), belowC n l = true → belowC k l = true
  | [], _ => rfl
  | x :: r, hx => by
    simp [belowC] at hx ⊢
    exact ⟨⟨hx.1.1, below_mono h x hx.1.2⟩, belowC_mono h r hx.2⟩
end

/-- temporaries -/
structure TR (m : Nat → Loc) (t : RT) (arr : Array Value) : Prop where
  size : arr.size = t.n
  get : ∀ i, arr.getD i undef = rv m (t.get i)

def tlt (n : Nat) (t : RT) : Prop := ∀ i, below n (t.get i) = true

theorem TR.agree {m m' : Nat → Loc} {n : Nat} {t : RT} {arr : Array Value} (h : TR m t arr) (ht : tlt n t) (ha : Agree n m m') : TR m' t arr :=
  ⟨h.size, fun i => by rw [h.get i, rv_agree ha _ (ht i)]⟩

/-- what a block may be changed by -/
def RObj.own : RObj → Bool
  | .dead => false
  | .cells _ .ro => false
  | .cells _ .rx => false
  | .map _ _ true => false
  | .link _ _ _ _ => false
  | _ => true

def RObj.live : RObj → Bool
  | .dead => false
  | .link _ _ _ _ => false
  | _ => true

def RObj.lt (n : Nat) : RObj → Prop
  | .dead => True
  | .cells c _ => belowC n c = true
  | .map es _ _ => ∀ e ∈ es, below n e.1 = true ∧ below n e.2.1 = true
  | .miter b _ _ _ => b < n
  | .siter _ _ => True
  | .loop _ _ _ t _ _ _ d => tlt n t ∧ d < n
  | .dfr _ => True
  | .link b _ _ a => b < n ∧ a < n

def entryOf (m : Nat → Loc) (e : RV × RV × Nat) : MapEntry := ⟨rv m e.1, rv m e.2.1, e.2.2⟩

/-- what is known of a block's type -/
def Kd.tyOk (k : Kd) (ty : TypeId) (off size n : Nat) : Prop := match k with
  | .bd t => ty = t ∧ off = 0 ∧ size = n
  | .gy t => ty = t ∧ off = 0
  | _ => True

/-- a block -/
def ORel (m : Nat → Loc) (o : RObj) (l : Loc) (heap : Array Obj) : Prop := match o with
  | .dead => True
  | .cells c k => ∃ arr ty fz, heap[l.blk]? = some (.cells arr ty fz) ∧ (∀ j x, c[j]? = some x → arr[l.off + j]? = some (rv m x)) ∧
      (k ≠ .ro → k ≠ .rx → fz = (0, 0)) ∧ l.off + c.length ≤ l.cap ∧ l.cap ≤ arr.size ∧ (k = .ex ∨ k = .rx → l.cap = l.off + c.length) ∧ k.tyOk ty l.off arr.size c.length
  | .map es clock _ => heap[l.blk]? = some (.map (es.map (entryOf m)).toArray clock)
  | .miter b since seen stepped => heap[l.blk]? = some (.mapIter (some (m b).blk) since seen.toArray stepped)
  | .siter s pos => heap[l.blk]? = some (.stringIter s pos)
  | .loop st pend fn t params assign body d => ∃ arr, TR m t arr ∧ heap[l.blk]? = some (.loop ⟨st, pend, fn, arr, params, assign, body, (m d).blk⟩)
  | .dfr taken => heap[l.blk]? = some (.deferred (if taken then none else some []))
  | .link b o k a => m a = ⟨(m b).blk, (m b).off + o, (m b).off + o + k⟩

theorem ORel.agree {m m' : Nat → Loc} {n : Nat} {o : RObj} {l : Loc} {heap : Array Obj} (h : ORel m o l heap) (hl : o.lt n) (ha : Agree n m m') : ORel m' o l heap := by
  cases o with
  | dead => trivial
  | cells c k =>
    obtain ⟨arr, ty, fz, h1, h2, h3⟩ := h
    refine ⟨arr, ty, fz, h1, fun j x hj => ?_, h3⟩
    rw [h2 j x hj, rv_agree ha x ((belowC_iff n c).1 hl x (List.mem_of_getElem? hj)).2]
  | map es clock ro =>
    show heap[l.blk]? = _
    have h' : heap[l.blk]? = some (.map (es.map (entryOf m)).toArray clock) := h
    rw [h']
    have : es.map (entryOf m) = es.map (entryOf m') := List.map_congr_left fun e he => by
      have := hl e he
      simp only [entryOf, rv_agree ha _ this.1, rv_agree ha _ this.2]
    rw [this]
  | miter b since seen stepped =>
    have h' : heap[l.blk]? = some (.mapIter (some (m b).blk) since seen.toArray stepped) := h
    show heap[l.blk]? = some (.mapIter (some (m' b).blk) since seen.toArray stepped)
    rw [ha b hl]; exact h'
  | siter s pos => exact h
  | loop st pend fn t params assign body d =>
    obtain ⟨arr, h1, h2⟩ := h
    exact ⟨arr, h1.agree hl.1 ha, by rw [ha d hl.2]; exact h2⟩
  | dfr taken => exact h
  | link b o k a =>
    have h' : m a = ⟨(m b).blk, (m b).off + o, (m b).off + o + k⟩ := h
    show m' a = ⟨(m' b).blk, (m' b).off + o, (m' b).off + o + k⟩
    rw [ha b hl.1, ha a hl.2]; exact h'

theorem ORel.lt_size {m : Nat → Loc} {o : RObj} {l : Loc} {heap : Array Obj} (h : ORel m o l heap) (hl : o.live = true) : l.blk < heap.size := by
  have key : ∀ x, heap[l.blk]? = some x → l.blk < heap.size := fun x hx => (Array.getElem?_eq_some_iff.1 hx).1
  cases o with
  | dead => simp [RObj.live] at hl
  | cells c k => obtain ⟨_, _, _, h1, _⟩ := h; exact key _ h1
  | map es clock ro => exact key _ h
  | miter b since seen stepped => exact key _ h
  | siter s pos => exact key _ h
  | loop st pend fn t params assign body d => obtain ⟨_, _, h2⟩ := h; exact key _ h2
  | dfr taken => exact key _ h
  | link b o k a => simp [RObj.live] at hl

theorem ORel.heap {m : Nat → Loc} {o : RObj} {l : Loc} {heap heap' : Array Obj} (h : ORel m o l heap) (he : o.live = true → heap'[l.blk]? = heap[l.blk]?) : ORel m o l heap' := by
  cases o with
  | dead => trivial
  | cells c k => obtain ⟨arr, ty, fz, h1, h2⟩ := h; exact ⟨arr, ty, fz, by rw [he rfl]; exact h1, h2⟩
  | map es clock ro => exact (he rfl).trans h
  | miter b since seen stepped => exact (he rfl).trans h
  | siter s pos => exact (he rfl).trans h
  | loop st pend fn t params assign body d => obtain ⟨arr, h1, h2⟩ := h; exact ⟨arr, h1, (he rfl).trans h2⟩
  | dfr taken => exact (he rfl).trans h
  | link b o k a => exact h

theorem own_live {o : RObj} (h : o.own = true) : o.live = true := by
  cases o <;> simp_all [RObj.own, RObj.live]

variable [Env]
structure Rel (m : Nat → Loc) (W : RW) (w : World) : Prop where
  wf : W.wf
  obj : ∀ b o, W.get b = some o → ORel m o (m b) w.heap
  lt : ∀ b o, W.get b = some o → o.lt W.n
  inj : ∀ a b x y, W.get a = some x → W.get b = some y → x.own = true → y.live = true → a ≠ b → (m a).blk ≠ (m b).blk
  glb : ∀ i g, Env.ids[i]? = some g → i < W.n ∧ (m i).blk = g ∧ (m i).off = 0

/-- what a run leaves as it was -/
structure Post (m : Nat → Loc) (W : RW) (w : World) (m' : Nat → Loc) (W' : RW) (w' : World) : Prop where
  ag : Agree W.n m m'
  mono : W.n ≤ W'.n
  size : w.heap.size ≤ w'.heap.size
  keep : ∀ r, r < w.heap.size → (∀ b o, W.get b = some o → o.own = true → (m b).blk ≠ r) → w'.heap[r]? = w.heap[r]?
  own : ∀ b o, W'.get b = some o → o.own = true → w.heap.size ≤ (m' b).blk ∨ ∃ a x, W.get a = some x ∧ x.own = true ∧ (m a).blk = (m' b).blk
  os : w'.os = w.os
  tape : w'.tape = w.tape
  output : w'.output = w.output

omit [Env] in
theorem Post.refl (m : Nat → Loc) (W : RW) (w : World) : Post m W w m W w :=
  ⟨fun _ _ => rfl, Nat.le_refl _, Nat.le_refl _, fun _ _ _ => rfl, fun b o h1 h2 => .inr ⟨b, o, h1, h2, rfl⟩, rfl, rfl, rfl⟩

omit [Env] in
theorem Post.trans {m m1 m2 : Nat → Loc} {W W1 W2 : RW} {w w1 w2 : World} (h : Post m W w m1 W1 w1) (k : Post m1 W1 w1 m2 W2 w2) : Post m W w m2 W2 w2 := by
  refine ⟨fun b hb => (k.ag b (Nat.lt_of_lt_of_le hb h.mono)).trans (h.ag b hb), Nat.le_trans h.mono k.mono, Nat.le_trans h.size k.size, ?_, ?_, k.os.trans h.os, k.tape.trans h.tape, k.output.trans h.output⟩
  · intro r hr hn
    rw [k.keep r (Nat.lt_of_lt_of_le hr h.size), h.keep r hr hn]
    intro b o hb ho hbr
    rcases h.own b o hb ho with h1 | ⟨a, x, h1, h2, h3⟩
    · omega
    · exact hn a x h1 h2 (h3.trans hbr)
  · intro b o hb ho
    rcases k.own b o hb ho with h1 | ⟨a, x, h1, h2, h3⟩
    · exact .inl (Nat.le_trans h.size h1)
    · rcases h.own a x h1 h2 with h4 | ⟨a', x', h4, h5, h6⟩
      · exact .inl (by omega)
      · exact .inr ⟨a', x', h4, h5, h6.trans h3⟩

/-- a draw is not seen -/
theorem Rel.same {m : Nat → Loc} {W : RW} {w w' : World} (h : Rel m W w) (he : w'.heap = w.heap) : Rel m W w' :=
  ⟨h.wf, fun b o hb => by rw [he]; exact h.obj b o hb, h.lt, h.inj, h.glb⟩

def upd (m : Nat → Loc) (n : Nat) (l : Loc) : Nat → Loc := fun b => if b = n then l else m b

omit [Env] in
theorem agree_upd (m : Nat → Loc) (n : Nat) (l : Loc) : Agree n m (upd m n l) := fun b hb => by simp [upd, Nat.ne_of_lt hb]

omit [Env] in
theorem RObj.lt_mono {n k : Nat} (h : n ≤ k) {o : RObj} (ho : o.lt n) : o.lt k := by
  cases o with
  | dead => trivial
  | cells c kd => exact belowC_mono h c ho
  | map es clock ro => exact fun e he => ⟨below_mono h _ (ho e he).1, below_mono h _ (ho e he).2⟩
  | miter b since seen stepped => exact Nat.lt_of_lt_of_le ho h
  | siter s pos => trivial
  | loop st pend fn t params assign body d => exact ⟨fun i => below_mono h _ (ho.1 i), Nat.lt_of_lt_of_le ho.2 h⟩
  | dfr taken => trivial
  | link b o k a => exact ⟨Nat.lt_of_lt_of_le ho.1 h, Nat.lt_of_lt_of_le ho.2 h⟩

/-- a new block -/
theorem Rel.push {m : Nat → Loc} {W : RW} {w : World} (h : Rel m W w) {o : RObj} {robj : Obj} {l : Loc} (hl : l.blk = w.heap.size)
    (ho : ORel (upd m W.n l) o l (w.heap.push robj)) (hlt : o.lt (W.n + 1)) :
    Rel (upd m W.n l) (W.push o) { w with heap := w.heap.push robj } ∧ Post m W w (upd m W.n l) (W.push o) { w with heap := w.heap.push robj } := by
  have hne : ∀ b o', W.get b = some o' → b ≠ W.n := fun b o' hb => Nat.ne_of_lt (get_lt hb)
  have hup : ∀ b o', W.get b = some o' → upd m W.n l b = m b := fun b o' hb => by simp [upd, hne b o' hb]
  have hblk : ∀ b o', W.get b = some o' → o'.live = true → (m b).blk < w.heap.size := fun b o' hb hl => (h.obj b o' hb).lt_size hl
  refine ⟨⟨wf_push h.wf o, ?_, ?_, ?_, fun i g hi => ⟨Nat.lt_succ_of_lt (h.glb i g hi).1, by rw [agree_upd m W.n l i (h.glb i g hi).1]; exact (h.glb i g hi).2⟩⟩, ⟨agree_upd _ _ _, Nat.le_succ _, by simp, ?_, ?_, rfl, rfl, rfl⟩⟩
  · intro b o' hb
    rw [get_push] at hb
    by_cases hbn : b = W.n
    · rw [if_pos hbn] at hb
      simp only [Option.some.injEq] at hb
      subst hb
      simpa [upd, hbn] using ho
    · rw [if_neg hbn] at hb
      rw [hup b o' hb]
      refine ((h.obj b o' hb).agree (h.lt b o' hb) (agree_upd _ _ _)).heap fun hlv => ?_
      have := hblk b o' hb hlv
      show (w.heap.push robj)[(m b).blk]? = _
      rw [Array.getElem?_push]
      simp [Nat.ne_of_lt this]
  · intro b o' hb
    rw [get_push] at hb
    by_cases hbn : b = W.n
    · rw [if_pos hbn] at hb
      simp only [Option.some.injEq] at hb
      subst hb
      exact hlt
    · rw [if_neg hbn] at hb
      exact RObj.lt_mono (Nat.le_succ _) (h.lt b o' hb)
  · intro a b x y ha hb hx hy hab
    rw [get_push] at ha hb
    by_cases han : a = W.n
    · by_cases hbn : b = W.n
      · omega
      · rw [if_neg hbn] at hb
        have := hblk b y hb hy
        simp only [upd, han, if_true, hbn, if_false, hl]
        omega
    · rw [if_neg han] at ha
      by_cases hbn : b = W.n
      · have := hblk a x ha (own_live hx)
        simp only [upd, han, if_false, hbn, if_true, hl]
        omega
      · rw [if_neg hbn] at hb
        rw [hup a x ha, hup b y hb]
        exact h.inj a b x y ha hb hx hy hab
  · intro r hr _
    simp [Array.getElem?_push, Nat.ne_of_lt hr]
  · intro b o' hb ho'
    rw [get_push] at hb
    by_cases hbn : b = W.n
    · exact .inl (by simp [upd, hbn, hl])
    · rw [if_neg hbn] at hb
      exact .inr ⟨b, o', hb, ho', by rw [hup b o' hb]⟩

omit [Env] in
theorem upd_at (m : Nat → Loc) (n : Nat) (l : Loc) : upd m n l n = l := by simp [upd]

/-- a name for what is not looked at -/
theorem Rel.pushDead {m : Nat → Loc} {W : RW} {w : World} (h : Rel m W w) (l : Loc) : Rel (upd m W.n l) (W.push .dead) w ∧ Post m W w (upd m W.n l) (W.push .dead) w := by
  have hget : ∀ b o, (W.push .dead).get b = some o → (b = W.n ∧ o = .dead) ∨ (b ≠ W.n ∧ W.get b = some o) := by
    intro b o hb
    rw [get_push] at hb
    by_cases hbn : b = W.n
    · rw [if_pos hbn] at hb
      exact .inl ⟨hbn, (Option.some.inj hb).symm⟩
    · rw [if_neg hbn] at hb
      exact .inr ⟨hbn, hb⟩
  have hup : ∀ b, b ≠ W.n → upd m W.n l b = m b := fun b hb => by simp [upd, hb]
  refine ⟨⟨wf_push h.wf _, ?_, ?_, ?_, fun i g hi => ⟨Nat.lt_succ_of_lt (h.glb i g hi).1, by rw [agree_upd m W.n l i (h.glb i g hi).1]; exact (h.glb i g hi).2⟩⟩, ⟨agree_upd _ _ _, Nat.le_succ _, Nat.le_refl _, fun _ _ _ => rfl, ?_, rfl, rfl, rfl⟩⟩
  · intro b o hb
    rcases hget b o hb with ⟨rfl, rfl⟩ | ⟨hbn, hb⟩
    · trivial
    · rw [hup b hbn]
      exact (h.obj b o hb).agree (h.lt b o hb) (agree_upd _ _ _)
  · intro b o hb
    rcases hget b o hb with ⟨rfl, rfl⟩ | ⟨hbn, hb⟩
    · trivial
    · exact RObj.lt_mono (Nat.le_succ _) (h.lt b o hb)
  · intro a b x y ha hb hx hy hab
    rcases hget a x ha with ⟨rfl, rfl⟩ | ⟨han, ha⟩
    · simp [RObj.own] at hx
    · rcases hget b y hb with ⟨rfl, rfl⟩ | ⟨hbn, hb⟩
      · simp [RObj.live] at hy
      · rw [hup a han, hup b hbn]
        exact h.inj a b x y ha hb hx hy hab
  · intro b o hb ho
    rcases hget b o hb with ⟨rfl, rfl⟩ | ⟨hbn, hb⟩
    · simp [RObj.own] at ho
    · exact .inr ⟨b, o, hb, ho, by rw [hup b hbn]⟩

/-- a block of the evaluator's own is changed -/
theorem Rel.set {m : Nat → Loc} {W W' : RW} {w w' : World} (h : Rel m W w) {b : Nat} {o o' : RObj} (hb : W.get b = some o) (ho : o.own = true) (hs : W.set b o' = some W')
    (hh : ∀ r, r ≠ (m b).blk → w'.heap[r]? = w.heap[r]?) (hsz : w'.heap.size = w.heap.size) (hr : ORel m o' (m b) w'.heap) (hlt : o'.lt W.n)
    (hos : w'.os = w.os) (htape : w'.tape = w.tape) (hout : w'.output = w.output) :
    Rel m W' w' ∧ Post m W w m W' w' := by
  obtain ⟨h1, h2, h3, h4⟩ := set_spec hs
  have hg := h4 h.wf
  refine ⟨⟨h3 h.wf, ?_, ?_, ?_, by rw [h1]; exact h.glb⟩, ⟨fun _ _ => rfl, by omega, by omega, ?_, ?_, hos, htape, hout⟩⟩
  · intro a x ha
    rw [hg] at ha
    by_cases hab : a = b
    · rw [if_pos hab] at ha
      simp only [Option.some.injEq] at ha
      subst ha
      rw [hab]; exact hr
    · rw [if_neg hab] at ha
      exact (h.obj a x ha).heap fun hlv => hh _ (h.inj b a o x hb ha ho hlv (Ne.symm hab)).symm
  · intro a x ha
    rw [hg] at ha
    rw [h1]
    by_cases hab : a = b
    · rw [if_pos hab] at ha
      simp only [Option.some.injEq] at ha
      subst ha
      exact hlt
    · rw [if_neg hab] at ha
      exact h.lt a x ha
  · intro a c x y ha hc hx hy hac
    rw [hg] at ha hc
    by_cases hab : a = b
    · subst hab
      rw [if_neg (Ne.symm hac)] at hc
      exact h.inj a c o y hb hc ho hy hac
    · rw [if_neg hab] at ha
      by_cases hcb : c = b
      · subst hcb
        exact h.inj a c x o ha hb hx (own_live ho) hac
      · rw [if_neg hcb] at hc
        exact h.inj a c x y ha hc hx hy hac
  · intro r _ hn
    exact hh r fun e => hn b o hb ho e.symm
  · intro a x ha hx
    rw [hg] at ha
    by_cases hab : a = b
    · subst hab
      exact .inr ⟨a, o, hb, ho, rfl⟩
    · rw [if_neg hab] at ha
      exact .inr ⟨a, x, ha, hx, rfl⟩

/-- a block is given up -/
theorem Rel.drop {m : Nat → Loc} {W W' : RW} {w : World} (h : Rel m W w) {b : Nat} (hs : W.set b .dead = some W') : Rel m W' w := by
  obtain ⟨h1, h2, h3, h4⟩ := set_spec hs
  have hg := h4 h.wf
  refine ⟨h3 h.wf, ?_, ?_, ?_, by rw [h1]; exact h.glb⟩
  · intro a x ha
    rw [hg] at ha
    by_cases hab : a = b
    · rw [if_pos hab] at ha
      simp only [Option.some.injEq] at ha
      subst ha
      trivial
    · rw [if_neg hab] at ha
      exact h.obj a x ha
  · intro a x ha
    rw [hg] at ha
    rw [h1]
    by_cases hab : a = b
    · rw [if_pos hab] at ha
      simp only [Option.some.injEq] at ha
      subst ha
      trivial
    · rw [if_neg hab] at ha
      exact h.lt a x ha
  · intro a c x y ha hc hx hy hac
    rw [hg] at ha hc
    by_cases hab : a = b
    · rw [if_pos hab] at ha
      simp only [Option.some.injEq] at ha
      subst ha
      simp [RObj.own] at hx
    · rw [if_neg hab] at ha
      by_cases hcb : c = b
      · rw [if_pos hcb] at hc
        simp only [Option.some.injEq] at hc
        subst hc
        simp [RObj.live] at hy
      · rw [if_neg hcb] at hc
        exact h.inj a c x y ha hc hx hy hac
end Go.Rv
