/- What the evaluator says of operations that may come in any order. -/
import Derived.Test.YtgchcfhbcaemoabGreatDoorRvT
namespace Go.Rv
open Go

theorem namesB_all {p : Nat → Bool} : ∀ (l : List RV), RV.rec_1 (motive_1 := fun _ => Bool) (motive_2 := fun _ => Bool)
  (fun _ => true) (fun b _ => p b) (fun b _ _ _ => p b) (fun b => p b) (fun b => p b) (fun _ _ _ a c => a && c) (fun b => p b) (fun _ a => a) (fun _ a => a)
  true (fun _ _ a c => a && c) l = l.all (namesB p)
  | [] => rfl
  | x :: r => by
    have := namesB_all (p := p) r
    show (namesB p x && _) = _
    rw [this]
    rfl

mutual
theorem rv_names {p : Nat → Bool} {n : Nat} {m m' : Nat → Loc} (h : ∀ b, b < n → p b = true → m' b = m b) : ∀ (x : RV), below n x = true → namesB p x = true → rv m' x = rv m x
  | .v _, _, _ => rfl
  | .ptr b o, hx, hp => by
    have hb : b < n := by simpa [below, blt_eq] using hx
    simp only [rv, h b hb hp]
  | .sl b o k e, hx, hp => by
    have hb : b < n := by simpa [below, blt_eq] using hx
    simp only [rv, h b hb hp]
  | .mp b, hx, hp => by
    have hb : b < n := by simpa [below, blt_eq] using hx
    simp only [rv, h b hb hp]
  | .it b, hx, hp => by
    have hb : b < n := by simpa [below, blt_eq] using hx
    simp only [rv, h b hb hp]
  | .yld b, hx, hp => by
    have hb : b < n := by simpa [below, blt_eq] using hx
    simp only [rv, h b hb hp]
  | .fn f a c, hx, hp => by
    have hx' : belowL n a = true ∧ belowL n c = true := by simpa [below] using hx
    have hp' : (a.all (namesB p) && c.all (namesB p)) = true := by rw [← namesB_all, ← namesB_all]; exact hp
    rw [Bool.and_eq_true] at hp'
    simp only [rv, rvL_names h a hx'.1 hp'.1, rvL_names h c hx'.2 hp'.2]
  | .agg cs, hx, hp => by
    have hx' : belowL n cs = true := belowC_L (by simpa [below] using hx)
    have hp' : cs.all (namesB p) = true := by rw [← namesB_all]; exact hp
    simp only [rv, rvL_names h cs hx' hp']
  | .tup cs, hx, hp => by
    have hx' : belowL n cs = true := by simpa [below] using hx
    have hp' : cs.all (namesB p) = true := by rw [← namesB_all]; exact hp
    simp only [rv, rvL_names h cs hx' hp']
theorem rvL_names {p : Nat → Bool} {n : Nat} {m m' : Nat → Loc} (h : ∀ b, b < n → p b = true → m' b = m b) : ∀ (l : List RV), belowL n l = true → l.all (namesB p) = true → rvL m' l = rvL m l
  | [], _, _ => rfl
  | x :: r, hx, hp => by
    have hx' : below n x = true ∧ belowL n r = true := by simpa [belowL] using hx
    have hp' : namesB p x = true ∧ r.all (namesB p) = true := by simpa using hp
    simp only [rvL, rv_names h x hx'.1 hp'.1, rvL_names h r hx'.2 hp'.2]
end

theorem slotW_eq (b : Nat) : ∀ (l : List (Nat × RObj)), slotW b l = l.map fun x => if b.testBit x.1 then x.2.toRo else .dead
  | [] => rfl
  | (i, o) :: r => by simp only [slotW, slotW_eq b r, List.map_cons]

/-- new blocks over old ones -/
theorem get_over {A B : List RObj} {L : Nat} (b : Nat) : (⟨L + A.length, A ++ B⟩ : RW).get b = if b < L then (⟨L, B⟩ : RW).get b else A.reverse[b - L]? := by
  unfold RW.get
  simp only [blt_eq, decide_eq_true_eq, lget_eq]
  by_cases h : b < L
  · rw [if_pos h, if_pos (by omega), if_pos h, List.getElem?_append_right (by omega)]
    congr 1
    omega
  · rw [if_neg h]
    by_cases h2 : b < L + A.length
    · rw [if_pos h2, List.getElem?_append_left (by omega), List.getElem?_reverse (by omega)]
      congr 1
      omega
    · rw [if_neg h2, List.getElem?_eq_none (by simp; omega)]

theorem get_map {B : List RObj} {L : Nat} (f : RObj → RObj) (b : Nat) : (⟨L, B.map f⟩ : RW).get b = ((⟨L, B⟩ : RW).get b).map f := by
  unfold RW.get
  simp only [lget_eq]
  split
  · simp
  · rfl

section
variable [Env] {P : Program} {ev : Ev}

/-- the blocks that new operations see: fewer, or not to be written -/
theorem Rel.less {m : Nat → Loc} {W1 W2 : RW} {w : World} (h : Rel m W1 w) (hwf : W2.wf) (hg : ∀ b o2, W2.get b = some o2 → o2 = .dead ∨ ∃ o1, W1.get b = some o1 ∧ (o2 = o1.toRo ∨ o2 = o1))
    (hlt : ∀ b o, W2.get b = some o → o.lt W2.n) (hglb : ∀ i g, Env.ids[i]? = some g → i < W2.n) : Rel m W2 w := by
  have hro : ∀ o : RObj, o.toRo.own = false := fun o => by cases o <;> rfl
  have hlive : ∀ o : RObj, o.toRo.live = true → o.live = true := fun o h => by cases o <;> first | rfl | simp [RObj.toRo, RObj.live] at h
  refine ⟨hwf, ?_, hlt, ?_, fun i g hi => ⟨hglb i g hi, (h.glb i g hi).2⟩⟩
  · intro b o2 hb
    rcases hg b o2 hb with rfl | ⟨o1, h1, rfl | rfl⟩
    · trivial
    · have ho := h.obj b o1 h1
      cases o1 with
      | cells c k =>
        obtain ⟨arr, ty, fz, h1, h2, h3, h4, h5, h6, _⟩ := ho
        exact ⟨arr, ty, fz, h1, h2, fun hk => absurd rfl hk, h4, h5, fun hk => by simp at hk, trivial⟩
      | map es clock ro => exact ho
      | dead => trivial
      | miter _ _ _ _ => trivial
      | siter _ _ => trivial
      | loop _ _ _ _ _ _ _ _ => trivial
      | dfr _ => trivial
      | link b o k a => exact ho
    · exact h.obj b o2 h1
  · intro a b x y ha hb hx hy hab
    rcases hg a x ha with rfl | ⟨x1, hx1, rfl | rfl⟩
    · simp [RObj.own] at hx
    · rw [hro] at hx; simp at hx
    · rcases hg b y hb with rfl | ⟨y1, hy1, rfl | rfl⟩
      · simp [RObj.live] at hy
      · exact h.inj a b x y1 hx1 hy1 hx (hlive y1 hy) hab
      · exact h.inj a b x y hx1 hy1 hx hy hab

omit [Env] in
theorem toRo_lt {n : Nat} {o : RObj} (h : o.lt n) : o.toRo.lt n := by
  cases o <;> first | exact h | trivial

omit [Env] in
theorem names_mono {p q : Nat → Bool} (h : ∀ c, p c = true → q c = true) : ∀ (x : RV), namesB p x = true → namesB q x = true := by
  intro x
  refine RV.rec (motive_1 := fun x => namesB p x = true → namesB q x = true) (motive_2 := fun l => l.all (namesB p) = true → l.all (namesB q) = true)
    (fun _ _ => rfl) (fun b _ hp => h b hp) (fun b _ _ _ hp => h b hp) (fun b hp => h b hp) (fun b hp => h b hp) ?_ (fun b hp => h b hp) ?_ ?_ (fun _ => rfl) ?_ x
  · intro f a c ha hc hp
    have hp' : (a.all (namesB p) && c.all (namesB p)) = true := by rw [← namesB_all, ← namesB_all]; exact hp
    rw [Bool.and_eq_true] at hp'
    have : (a.all (namesB q) && c.all (namesB q)) = true := by rw [ha hp'.1, hc hp'.2]; rfl
    rw [← namesB_all, ← namesB_all] at this
    exact this
  · intro cs hcs hp
    have hp' : cs.all (namesB p) = true := by rw [← namesB_all]; exact hp
    have := hcs hp'
    rw [← namesB_all] at this
    exact this
  · intro cs hcs hp
    have hp' : cs.all (namesB p) = true := by rw [← namesB_all]; exact hp
    have := hcs hp'
    rw [← namesB_all] at this
    exact this
  · intro y l hy hl hp
    have hp' : namesB p y = true ∧ l.all (namesB p) = true := by simpa using hp
    simp only [List.all_cons, hy hp'.1, hl hp'.2, Bool.and_self]

omit [Env] in
theorem newB_mono {n n' : Nat} {p q : Nat → Bool} (hn : n ≤ n') (h : ∀ c, p c = true → q c = true) {o : RObj} (ho : newB n p o = true) : newB n' q o = true := by
  cases o with
  | cells c k =>
    simp only [newB, Bool.and_eq_true, List.all_eq_true] at ho ⊢
    exact ⟨belowC_mono hn c ho.1, fun x hx => names_mono h x (ho.2 x hx)⟩
  | map es clock ro =>
    simp only [newB, Bool.and_eq_true, List.all_eq_true] at ho ⊢
    intro e he
    obtain ⟨⟨⟨h1, h2⟩, h3⟩, h4⟩ := ho e he
    exact ⟨⟨⟨below_mono hn _ h1, names_mono h _ h2⟩, below_mono hn _ h3⟩, names_mono h _ h4⟩
  | dead => rfl
  | _ => simp [newB] at ho

omit [Env] in
theorem keepB_spec {n : Nat} {p : Nat → Bool} (o : RObj) : newB n p (keepB n p o) = true ∧ (keepB n p o = .dead ∨ (keepB n p o = o ∧ o.own = true)) := by
  have key : ∀ o' : RObj, o'.own = true → newB n p (if newB n p o' then o' else .dead) = true ∧ ((if newB n p o' then o' else .dead) = .dead ∨ ((if newB n p o' then o' else .dead) = o' ∧ o'.own = true)) := by
    intro o' ho
    split
    · rename_i hb
      exact ⟨hb, .inr ⟨rfl, ho⟩⟩
    · exact ⟨rfl, .inl rfl⟩
  cases o with
  | cells c k => cases k with
    | ro => exact ⟨rfl, .inl rfl⟩
    | rx => exact ⟨rfl, .inl rfl⟩
    | ex => exact key _ rfl
    | gr => exact key _ rfl
    | bd _ => exact key _ rfl
    | gy _ => exact key _ rfl
  | map es clock ro => cases ro with
    | true => exact ⟨rfl, .inl rfl⟩
    | false => exact key _ rfl
  | _ => exact ⟨rfl, .inl rfl⟩

omit [Env] in
theorem newB_lt {n : Nat} {p : Nat → Bool} {o : RObj} (h : newB n p o = true) : o.lt n := by
  cases o with
  | cells c k =>
    simp only [newB, Bool.and_eq_true] at h
    exact h.1
  | map es clock ro =>
    simp only [newB, Bool.and_eq_true, List.all_eq_true] at h
    intro e he
    obtain ⟨⟨⟨h1, _⟩, h3⟩, _⟩ := h e he
    exact ⟨h1, h3⟩
  | dead => trivial
  | _ => simp [newB] at h

omit [Env] in
theorem ORel.names {n : Nat} {p : Nat → Bool} {m m' : Nat → Loc} {o : RObj} {l : Loc} {heap : Array Obj} (hn : newB n p o = true) (h : ORel m o l heap) (hm : ∀ b, b < n → p b = true → m' b = m b) : ORel m' o l heap := by
  cases o with
  | cells c kd =>
    simp only [newB, Bool.and_eq_true, List.all_eq_true] at hn
    obtain ⟨arr, ty, fz, h1, h2, h3⟩ := h
    refine ⟨arr, ty, fz, h1, fun j x hj => ?_, h3⟩
    have hmem := List.mem_of_getElem? hj
    rw [h2 j x hj, rv_names hm x ((belowC_iff n c).1 hn.1 x hmem).2 (hn.2 x hmem)]
  | map es clock ro =>
    simp only [newB, Bool.and_eq_true, List.all_eq_true] at hn
    have h' : heap[l.blk]? = some (.map (es.map (entryOf m)).toArray clock) := h
    show heap[l.blk]? = _
    rw [h']
    have : es.map (entryOf m) = es.map (entryOf m') := List.map_congr_left fun e he => by
      obtain ⟨⟨⟨h1, h2⟩, h3⟩, h4⟩ := hn e he
      simp only [entryOf, rv_names hm _ h1 h2, rv_names hm _ h3 h4]
    rw [this]
  | dead => trivial
  | _ => simp [newB] at hn

/-- what the evaluator does at one operation -/
structure PreStep (P : Program) (ev : Ev) (L : Nat) (ws : Wrs) (j : Nat) (o : Oper) (r : ROper) (b : Nat) (s s' : PS) (x : RV) : Prop where
  n : s'.t.n = s.t.n
  dn : ∀ d, o.dst = some d → d < s.t.n
  get : ∀ i, s'.t.get i = if o.dst = some i then x else s.t.get i
  kind : (wantedR s.t r.guard = false ∧ x = ud ∧ s'.sl = s.sl ∧ s'.V = s.V) ∨
    (wantedR s.t r.guard = true ∧ ∃ e, r.op s.t (viewOf L b j ws r.st s) = some e ∧ ((e = .val x ∧ s'.sl = s.sl ∧ s'.V = s.V) ∨
      (∃ ob mk, e = .alloc ob mk ∧ x = mk (L + s.sl.length) ∧ s'.sl = (j, ob) :: s.sl ∧ s'.V = s.V) ∨
      (∃ f args W', e = .call f args ∧ callV P ev f args (viewOf L b j ws r.st s) = some (x, W') ∧ s'.V = s.V ∧
        (s'.sl = s.sl ∨ (L + s'.sl.length = W'.n ∧ ∃ l, ltake (W'.n - (L + s.sl.length)) W'.l = some l ∧ s'.sl = (l.map fun o => (j, keepB W'.n (madeN L b s.sl (L + s.sl.length) W'.n) o)) ++ s.sl))) ∨
      (∃ y W' a c off cs k, e = .wr y W' ∧ r.st = some a ∧ a s.t = .ptr c off ∧ c < L ∧ (j, c, b) ∈ ws ∧ W'.get c = some (.cells cs k) ∧ belowC L cs = true ∧ x = ud ∧ s'.sl = s.sl ∧ s'.V = s.V.set (L - 1 - c) (.cells cs k))))
  below : below (L + s'.sl.length) x = true
  names : namesB (madeN L b s.sl (L + s.sl.length) (L + s'.sl.length)) x = true
  grow : ∃ news : List RObj, s'.sl = (news.map fun o => (j, o)) ++ s.sl ∧ ∀ o ∈ news, newB (L + s'.sl.length) (madeN L b s.sl (L + s.sl.length) (L + s'.sl.length)) o = true

theorem preOne_ok {L j b : Nat} {ws : Wrs} {o : Oper} {r : ROper} {s s' : PS} (hput : PutOk r.put o.dst) (h : preOne P ev L ws r b j s = some s') :
    ∃ x, PreStep P ev L ws j o r b s s' x := by
  have vismade : ∀ n c, visN L b s.sl c = true → madeN L b s.sl (L + s.sl.length) n c = true := fun n c hc => by simp [madeN, hc]
  have hn0 : (viewOf L b j ws r.st s).n = L + s.sl.length := by unfold viewOf seen; split <;> rfl
  unfold preOne at h
  split at h
  · rename_i hw
    unfold preE at h
    cases he : r.op s.t (viewOf L b j ws r.st s) with
    | none => rw [he] at h; simp at h
    | some e =>
      rw [he] at h
      cases e with
      | val x =>
        simp only at h
        split at h
        · rename_i hc
          rw [Bool.and_eq_true, hn0] at hc
          split at h
          · rename_i t2 hp
            simp only [Option.some.injEq] at h
            subst h
            obtain ⟨h1, h2, h3⟩ := hput s.t t2 x hp
            exact ⟨x, h1, h2, h3, .inr ⟨hw, _, he, .inl ⟨rfl, rfl, rfl⟩⟩, hc.1, names_mono (vismade _) x hc.2, [], rfl, by simp⟩
          · simp at h
        · simp at h
      | alloc ob mk =>
        simp only [fnat_eq, hn0] at h
        split at h
        · rename_i hc
          simp only [Bool.and_eq_true] at hc
          split at h
          · rename_i t2 hp
            simp only [Option.some.injEq] at h
            subst h
            obtain ⟨h1, h2, h3⟩ := hput s.t t2 _ hp
            refine ⟨mk (L + s.sl.length), h1, h2, h3, .inr ⟨hw, _, he, .inr (.inl ⟨ob, mk, rfl, rfl, rfl, rfl⟩)⟩, hc.1.2, hc.2, [ob], rfl, fun o ho => ?_⟩
            simp only [List.mem_singleton] at ho
            subst ho
            exact newB_mono (by simp) (vismade _) hc.1.1
          · simp at h
        · simp at h
      | wr y W =>
        simp only [preS] at h
        split at h
        · rename_i a hst
          split at h
          · rename_i c off ha
            split at h
            · rename_i hc
              simp only [Bool.and_eq_true, List.any_eq_true, blt_eq, decide_eq_true_eq] at hc
              obtain ⟨hc1, e', he', ⟨he1, he2⟩, he3⟩ := hc
              have h1 := Nat.eq_of_beq_eq_true he1
              have h2 := Nat.eq_of_beq_eq_true he2
              have h3 := Nat.eq_of_beq_eq_true he3
              obtain ⟨e1, e2, e3⟩ := e'
              simp only at h1 h2 h3
              subst h1 h2 h3
              split at h
              · rename_i cs k hg
                split at h
                · rename_i hb
                  split at h
                  · rename_i t2 hp
                    simp only [Option.some.injEq] at h
                    subst h
                    obtain ⟨h1, h2, h3⟩ := hput s.t t2 ud hp
                    exact ⟨ud, h1, h2, h3, .inr ⟨hw, _, he, .inr (.inr (.inr ⟨y, W, a, e2, off, cs, k, rfl, hst, ha, hc1, he', hg, hb, rfl, rfl, rfl⟩))⟩, rfl, rfl, [], rfl, by simp⟩
                  · simp at h
                · simp at h
              · simp at h
            · simp at h
          · simp at h
        · simp at h
      | call f args =>
        simp only at h
        split at h
        · rename_i rr hcv
          obtain ⟨x, W'⟩ := rr
          simp only [preC] at h
          split at h
          · rename_i hc
            rw [Bool.and_eq_true] at hc
            split at h
            · rename_i t2 hp
              simp only [Option.some.injEq] at h
              subst h
              obtain ⟨h1, h2, h3⟩ := hput s.t t2 x hp
              exact ⟨x, h1, h2, h3, .inr ⟨hw, _, he, .inr (.inr (.inl ⟨f, args, W', rfl, hcv, rfl, .inl rfl⟩))⟩, hc.1, names_mono (vismade _) x hc.2, [], rfl, by simp⟩
            · simp at h
          · rw [fnat_eq] at h
            split at h
            · rename_i hc
              simp only [Bool.and_eq_true] at hc
              have hle := Nat.le_of_ble_eq_true hc.1.1
              split at h
              · rename_i t2 hp
                split at h
                · rename_i l hl
                  simp only [Option.some.injEq] at h
                  subst h
                  obtain ⟨h1, h2, h3⟩ := hput s.t t2 x hp
                  obtain ⟨hl1, hl2⟩ := ltake_spec _ _ hl
                  have hlen : L + ((l.map fun o => (j, keepB W'.n (madeN L b s.sl (L + s.sl.length) W'.n) o)) ++ s.sl).length = W'.n := by
                    rw [List.length_append, List.length_map, hl2, List.length_take]
                    omega
                  refine ⟨x, h1, h2, h3, .inr ⟨hw, _, he, .inr (.inr (.inl ⟨f, args, W', rfl, hcv, rfl, .inr ⟨hlen, l, hl, rfl⟩⟩))⟩, by rw [hlen]; exact hc.1.2, by rw [hlen]; exact hc.2,
                    l.map (keepB W'.n (madeN L b s.sl (L + s.sl.length) W'.n)), by rw [List.map_map]; rfl, fun o ho => ?_⟩
                  rw [hlen]
                  obtain ⟨o', _, rfl⟩ := List.mem_map.1 ho
                  exact (keepB_spec o').1
                · simp at h
              · simp at h
            · simp at h
        · simp at h
  · rename_i hw
    split at h
    · rename_i t2 hp
      simp only [Option.some.injEq] at h
      subst h
      obtain ⟨h1, h2, h3⟩ := hput s.t t2 ud hp
      exact ⟨ud, h1, h2, h3, .inl ⟨by simpa using hw, rfl, rfl, rfl⟩, rfl, rfl, [], rfl, by simp⟩
    · simp at h

/-- the evaluator's way through them -/
theorem preR_trace (L : Nat) (ws : Wrs) : ∀ (l : List (ROper × Nat)) (i : Nat) (s s' : PS), preR P ev L ws l i s = some s' →
    ∃ Tr : Nat → PS, Tr 0 = s ∧ Tr l.length = s' ∧ ∀ (j : Nat) (x : ROper × Nat), l[j]? = some x → preOne P ev L ws x.1 x.2 (i + j) (Tr j) = some (Tr (j + 1))
  | [], i, s, s', h => by
    have h' : some s = some s' := h
    simp only [Option.some.injEq] at h'
    exact ⟨fun _ => s, rfl, h', fun j x hx => by simp at hx⟩
  | y :: l, i, s, s', h => by
    have h' : Option.rec (motive := fun _ => Option PS) none (fun r => fnat i fun i => preR P ev L ws l (i + 1) r) (preOne P ev L ws y.1 y.2 i s) = some s' := h
    simp only [fnat_eq] at h'
    cases he : preOne P ev L ws y.1 y.2 i s with
    | none => rw [he] at h'; simp at h'
    | some q =>
      rw [he] at h'
      obtain ⟨Tr, h1, h2, h3⟩ := preR_trace L ws l (i + 1) q s' h'
      refine ⟨fun j => match j with | 0 => s | j + 1 => Tr j, rfl, h2, ?_⟩
      intro j x hx
      cases j with
      | zero =>
        simp only [List.getElem?_cons_zero, Option.some.injEq] at hx
        subst hx
        simp only [Nat.add_zero, he, h1]
      | succ j =>
        have := h3 j x (by simpa using hx)
        rw [show i + (j + 1) = i + 1 + j by omega]
        exact this
end
end Go.Rv
