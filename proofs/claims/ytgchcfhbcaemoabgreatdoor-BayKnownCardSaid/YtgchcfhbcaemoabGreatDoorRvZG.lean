/- Known runs over tables that give rows which they made. -/
import Derived.Test.YtgchcfhbcaemoabGreatDoorRvZE
namespace Go.Rv
open Go
noncomputable section
/-- a known run over tables: its result leads to the rows 'new' -/
def MemoR.OkT (ids : List Nat) (T : List (List RV)) (P : Program) (e : MemoR) : Prop := (∃ x1 W1 bs, @CallOk (plainEnv ids) P e.m.g e.m.args (memW (T ++ e.m.mem)) x1 W1 ∧ mArgs W1 e.new (unt e.m.x) (unt x1) [] = some bs ∧ isT e.m.x = isT x1 ∧ bs.length = e.new.length ∧ (bs.all (freshB W1 (T ++ e.m.mem).length)) = true ∧ nodupB bs = true) ∧
  (e.new.all fun c => belowC 0 c) = true ∧ ∃ fn, P.funcs[e.m.g]? = some fn ∧ fn.body.isSome = true

def memoRTFind (T : List (List RV)) (l : List MemoR) (k : Nat) (g : FuncId) (args : List RV) (W : RW) : Option (RV × RW) := match l with
  | [] => none
  | e :: r => match Nat.beq e.m.key k && Nat.beq e.m.g g with
    | true => match mArgs W (T ++ e.m.mem) (tabSl 0 T ++ e.m.args) (tabSl 0 T ++ args) [] with
      | some bs => match Nat.beq bs.length (T ++ e.m.mem).length && stays bs T.length with
        | true => fnat W.n fun n => match withR W e.new with
          | ⟨n', l'⟩ => some (shR n e.m.x, ⟨n', l'⟩)
        | false => memoRTFind T r k g args W
      | none => memoRTFind T r k g args W
    | false => memoRTFind T r k g args W

def memoRTRun (T : List (List RV)) (fs : List FuncId) (l : List MemoR) (g : FuncId) (args : List RV) (W : RW) : Option (RV × RW) := match fs.any (fun k => Nat.beq k g) with
  | true => fnat (hashA args 0) fun k => memoRTFind T l k g args W
  | false => none
end

theorem memoRT_lift {ids : List Nat} {T : List (List RV)} {e2 : Env} (hid : e2.ids = ids) (hk : ids.length ≤ T.length) {P : Program} {e : MemoR} (h : e.OkT ids T P) {args : List RV} {W : RW} {as : List Nat}
    (hm : mArgs W (T ++ e.m.mem) (tabSl 0 T ++ e.m.args) (tabSl 0 T ++ args) [] = some as) (hs : stays as T.length = true) (hl : as.length = (T ++ e.m.mem).length) :
    @CallOk e2 P e.m.g args W (shR W.n e.m.x) (withR W e.new) := by
  obtain ⟨⟨x1, W1, bs, hc, hxm, hxt, hbl, hbf, hnd⟩, hplain, _⟩ := h
  have hnodup := nodupB_ok hnd
  obtain ⟨_, hmet, hargs, hbel⟩ := mArgs_spec hm
  obtain ⟨_, xmet, hxv, xbel⟩ := mArgs_spec hxm
  intro m w cs hr hb
  let m0 : Nat → Loc := fun i => match as[i]? with
    | some b => m b
    | none => ⟨0, 0, 0⟩
  have hm0 : ∀ i b, as[i]? = some b → m0 i = m b := fun i b hi => by simp only [m0, hi]
  have hr1 : @Rel (plainEnv []) m0 (memW (T ++ e.m.mem)) w := memW_rel hr hmet hl hm0
  have hr0 : @Rel (plainEnv ids) m0 (memW (T ++ e.m.mem)) w := by
    refine @Rel.mk (plainEnv ids) _ _ _ (@Rel.wf (plainEnv []) _ _ _ hr1) (@Rel.obj (plainEnv []) _ _ _ hr1) (@Rel.lt (plainEnv []) _ _ _ hr1) (@Rel.inj (plainEnv []) _ _ _ hr1) ?_
    intro i g hi
    have hi1 : ids[i]? = some g := hi
    have hil := (List.getElem?_eq_some_iff.1 hi1).1
    have hbi := stays_get hs i (by omega)
    obtain ⟨_, h2⟩ := hr.glb i g (by rw [hid]; exact hi1)
    rw [hm0 i i hbi]
    refine ⟨?_, h2⟩
    show i < (T ++ e.m.mem).length
    rw [List.length_append]
    omega
  obtain ⟨m', w', fr, st, hlv, hf, hr', hp, hx'⟩ := hc m0 w cs hr0 (by
    show belowL (T ++ e.m.mem).length e.m.args = true
    rw [← hl]
    exact belowL_right _ hbel)
  have hst := hp.toStill fun b o hb => by
    obtain ⟨c, _, rfl⟩ := memW_get hb
    rfl
  let m2 : Nat → Loc := fun b => if b < W.n then m b else match bs[b - W.n]? with
    | some c => m' c
    | none => ⟨0, 0, 0⟩
  have hag : Agree W.n m m2 := fun b hb => by simp only [m2, if_pos hb]
  have hm2 : ∀ i b, bs[i]? = some b → m2 (W.n + i) = m' b := fun i b hi => by
    simp only [m2]
    rw [if_neg (by omega), Nat.add_sub_cancel_left, hi]
  have hres : rv m2 (shR W.n e.m.x) = rv m' x1 := by
    rw [shR_rv]
    exact unt_rv hxt (hxv m' (fun i => m2 (W.n + i)) hm2)
  have hrs := @Rel.still e2 m W w w' hr hst
  have plainE : ∀ (m1 m3 : Nat → Loc) (x : RV), below 0 x = true → rv m1 x = rv m3 x := fun m1 m3 x hx => rv_agree (n := 0) (fun b hb => absurd hb (Nat.not_lt_zero b)) x hx
  have fresh : ∀ (i : Nat) (c0 : List RV), e.new[i]? = some c0 → ∃ b c, bs[i]? = some b ∧ W1.get b = some (.cells c .gr) ∧ w.heap.size ≤ (m' b).blk ∧ belowC 0 c0 = true ∧ ORel m2 (.cells c0 .gr) (m' b) w'.heap := by
    intro i c0 hi
    have hil := (List.getElem?_eq_some_iff.1 hi).1
    have hbi : bs[i]? = some (bs[i]'(by omega)) := List.getElem?_eq_getElem (by omega)
    obtain ⟨c0', c, h1, h2, h3, _⟩ := xmet i _ (Nat.zero_le _) (by omega) hbi
    rw [hi] at h1
    simp only [Option.some.injEq] at h1
    subst h1
    obtain ⟨k, hk⟩ := cellsAt_spec h2
    have hf := List.all_eq_true.1 hbf _ (List.mem_of_getElem? hbi)
    have hkg : k = .gr := by
      simp only [freshB, hk, Bool.and_eq_true] at hf
      have := hf.2
      cases k <;> first | rfl | simp at this
    subst hkg
    have hp0 := List.all_eq_true.1 hplain c0 (List.mem_of_getElem? hi)
    refine ⟨_, c, hbi, hk, ?_, hp0, ?_⟩
    · rcases hp.own _ _ hk rfl with h | ⟨a, x, ha, hx, _⟩
      · exact h
      · obtain ⟨c', _, rfl⟩ := memW_get ha
        simp [RObj.own] at hx
    · have h3 := h3 m' (fun i => m2 (W.n + i)) hm2
      have hlen : c0.length = c.length := by simpa using congrArg List.length h3
      obtain ⟨arr, ty, fz, q1, q2, q3, q4, q5, _⟩ := @Rel.obj (plainEnv ids) _ _ _ hr' _ _ hk
      refine ⟨arr, ty, fz, q1, fun j x hj => ?_, q3, by rw [hlen]; exact q4, q5, fun hh => by simp at hh, trivial⟩
      have hjl := (List.getElem?_eq_some_iff.1 hj).1
      have hj' : c[j]? = some (c[j]'(by omega)) := List.getElem?_eq_getElem (by omega)
      rw [q2 j _ hj']
      have := congrArg (·[j]?) h3
      simp only [List.getElem?_map, hj, hj', Option.map_some, Option.some.injEq] at this
      rw [← this]
      exact congrArg some (plainE _ _ x ((belowC_iff 0 c0).1 hp0 x (List.mem_of_getElem? hj)).2)
  have hget := fun {b : Nat} {o : RObj} (hb : (withR W e.new).get b = some o) => withR_get hr.wf hb
  have hn : (withR W e.new).n = W.n + e.new.length := by rw [withR_eq]
  have newAt : ∀ i c0, e.new[i]? = some c0 → ∃ b, m2 (W.n + i) = m' b ∧ w.heap.size ≤ (m' b).blk ∧ belowC 0 c0 = true ∧ ORel m2 (.cells c0 .gr) (m2 (W.n + i)) w'.heap ∧ bs[i]? = some b ∧ ∃ c, W1.get b = some (.cells c .gr) := by
    intro i c0 hi
    obtain ⟨b, c, h1, hk, h2, h3, h4⟩ := fresh i c0 hi
    exact ⟨b, hm2 i b h1, h2, h3, by rw [hm2 i b h1]; exact h4, h1, c, hk⟩
  have blkOld : ∀ b o, W.get b = some o → o.live = true → (m b).blk < w.heap.size := fun b o hb ho => (hr.obj b o hb).lt_size ho
  have hxb : below (withR W e.new).n (shR W.n e.m.x) = true := by
    rw [hn]
    refine shR_below W.n e.new.length e.m.x ?_
    rw [← hbl]
    exact unt_below xbel
  refine ⟨m2, w', fr, ?_, ?_, hf, ?_, ?_, hxb⟩
  · have ha := hargs m m0 hm0
    rw [List.map_append, List.map_append] at ha
    rw [← List.append_inj_right ha (by simp)]
    exact st
  · rw [hres]
    exact hlv
  · refine @Rel.mk e2 _ _ _ ?_ ?_ ?_ ?_ ?_
    · rw [withR_eq]
      have : W.l.length = W.n := hr.wf
      simp [RW.wf, this]
      omega
    · intro b o hb
      rcases hget hb with ⟨hbn, hb⟩ | ⟨i, c, rfl, hi, rfl⟩
      · rw [hag b hbn]
        exact (hrs.obj b o hb).agree (hr.lt b o hb) hag
      · exact (newAt i c hi).choose_spec.2.2.2.1
    · intro b o hb
      rw [hn]
      rcases hget hb with ⟨hbn, hb⟩ | ⟨i, c, rfl, hi, rfl⟩
      · exact RObj.lt_mono (Nat.le_add_right _ _) (hr.lt b o hb)
      · exact belowC_mono (Nat.zero_le _) c (newAt i c hi).choose_spec.2.2.1
    · intro a b x y ha hb hx hy hab
      rcases hget ha with ⟨han, ha⟩ | ⟨i, c, rfl, hi, rfl⟩
      · rcases hget hb with ⟨hbn, hb⟩ | ⟨i, c, rfl, hi, rfl⟩
        · rw [hag a han, hag b hbn]
          exact hr.inj a b x y ha hb hx hy hab
        · obtain ⟨b', h1, h2, _⟩ := newAt i c hi
          rw [hag a han, h1]
          have := (hr.obj a x ha).lt_size (own_live hx)
          omega
      · obtain ⟨a', g1, g2, g3, g4, g5, cg, g6⟩ := newAt i c hi
        rcases hget hb with ⟨hbn, hb⟩ | ⟨j, c2, rfl, hj, rfl⟩
        · have := blkOld b y hb hy
          rw [hag b hbn, g1]
          omega
        · obtain ⟨b', f1, f2, f3, f4, f5, cf, f6⟩ := newAt j c2 hj
          rw [g1, f1]
          refine @Rel.inj (plainEnv ids) _ _ _ hr' a' b' _ _ g6 f6 rfl rfl ?_
          intro hab'
          subst hab'
          obtain ⟨i1, i2⟩ := List.getElem?_eq_some_iff.1 g5
          obtain ⟨j1, j2⟩ := List.getElem?_eq_some_iff.1 f5
          have hp2 := List.pairwise_iff_getElem.1 hnodup
          rcases Nat.lt_trichotomy i j with h9 | h9 | h9
          · exact hp2 _ _ i1 j1 h9 (i2.trans j2.symm)
          · subst h9; exact hab rfl
          · exact hp2 _ _ j1 i1 h9 (j2.trans i2.symm)
    · intro i g hi
      obtain ⟨h1, h2⟩ := hr.glb i g hi
      rw [hn, hag i h1]
      exact ⟨by omega, h2⟩
  · refine ⟨hag, by rw [hn]; omega, hst.size, fun r hr' _ => hst.keep r hr', fun b o hb ho => ?_, hst.os, hst.tape, hst.output⟩
    rcases hget hb with ⟨hbn, hb⟩ | ⟨i, c, rfl, hi, rfl⟩
    · exact .inr ⟨b, o, hb, ho, by rw [hag b hbn]⟩
    · obtain ⟨b', h1, h2, _⟩ := newAt i c hi
      exact .inl (by rw [h1]; exact h2)


/-- what gives rows over tables, beside what is known already -/
@[reducible] noncomputable def plusRT (e : Env) (fsT : List Nat) (T : List (List RV)) (lT : List MemoR) : Env :=
  ⟨e.ids, fun g args W => match @Env.ext e g args W with
    | some r => some r
    | none => memoRTRun T fsT lT g args W, @Env.gc e⟩

theorem noOwn_plusRT {P : Program} {e : Env} (h : @NoOwn e P) (fsT : List Nat) {T : List (List RV)} (hk : e.ids.length ≤ T.length) {lT : List MemoR} (hT : ∀ m ∈ lT, m.OkT e.ids T P) : @NoOwn (plusRT e fsT T lT) P := by
  refine @NoOwn.mk (plusRT e fsT T lT) P (@NoOwn.name e P h) ?_
  intro g args W x W' hx0
  have key : ∀ (k : Nat) (l' : List MemoR), (∀ m ∈ l', m.OkT e.ids T P) → memoRTFind T l' k g args W = some (x, W') → @CallOk (plusRT e fsT T lT) P g args W x W' ∧ ∃ fn, P.funcs[g]? = some fn ∧ fn.body.isSome = true := by
    intro k l'
    induction l' with
    | nil => intro _ hx; simp [memoRTFind] at hx
    | cons q r ih =>
      intro hl hx
      have ih := ih fun p hp => hl p (List.mem_cons_of_mem _ hp)
      unfold memoRTFind at hx
      split at hx
      · rename_i hg
        simp only [Bool.and_eq_true] at hg
        have h1 := Nat.eq_of_beq_eq_true hg.2
        subst h1
        split at hx
        · rename_i bs hm
          split at hx
          · rename_i hn
            simp only [Bool.and_eq_true] at hn
            rw [fnat_eq] at hx
            have hx' : some (shR W.n q.m.x, withR W q.new) = some (x, W') := hx
            simp only [Option.some.injEq, Prod.mk.injEq] at hx'
            obtain ⟨rfl, rfl⟩ := hx'
            exact ⟨@conv_ok e (plusRT e fsT T lT) rfl P _ _ _ _ _ (memoRT_lift rfl hk (hl q List.mem_cons_self) hm hn.2 (Nat.eq_of_beq_eq_true hn.1)), (hl q List.mem_cons_self).2.2⟩
          · exact ih hx
        · exact ih hx
      · exact ih hx
  have hx1 : (match @Env.ext e g args W with
    | some r => some r
    | none => memoRTRun T fsT lT g args W) = some (x, W') := hx0
  split at hx1
  · rename_i r hr
    simp only [Option.some.injEq] at hx1
    subst hx1
    obtain ⟨h1, h2⟩ := @NoOwn.ext e P h g args W x W' hr
    exact ⟨@conv_ok e (plusRT e fsT T lT) rfl P g args W W' x h1, h2⟩
  · unfold memoRTRun at hx1
    split at hx1
    · rw [fnat_eq] at hx1
      exact key _ lT hT hx1
    · simp at hx1

/-- what is to be reckoned of a known run over tables -/
noncomputable def okRT (T : List (List RV)) (e : MemoR) (r : Option (RV × RW)) : Bool := match r with
  | some (x1, W1) => match mArgs W1 e.new (unt e.m.x) (unt x1) [] with
    | some bs => isT e.m.x == isT x1 && Nat.beq bs.length e.new.length && bs.all (freshB W1 (T ++ e.m.mem).length) && nodupB bs && e.new.all fun c => belowC 0 c
    | none => false
  | none => false

theorem memoRT_of {P : Program} {ids : List Nat} {T : List (List RV)} {e : Env} (he : e.ids = ids) (hN : @NoOwn e P) (n : Nat) {m : MemoR} (h : okRT T m (@callF e P (@evR e P n) m.m.g m.m.args (memW (T ++ m.m.mem))) = true) : m.OkT ids T P := by
  unfold okRT at h
  split at h
  · rename_i x1 W1 hc
    split at h
    · rename_i bs hm
      simp only [Bool.and_eq_true] at h
      obtain ⟨⟨⟨⟨h0, h1⟩, h2⟩, hnd⟩, h3⟩ := h
      have h0 := eq_of_beq h0
      obtain ⟨k1, k2⟩ := @callF_ok e P _ hN (@ev_ok e P hN n) _ _ _ _ _ hc
      exact ⟨⟨x1, W1, bs, @conv_ok e (plainEnv ids) he P _ _ _ _ _ k1, hm, h0, Nat.eq_of_beq_eq_true h1, h2, hnd⟩, h3, k2⟩
    · simp at h
  · simp at h
end Go.Rv
