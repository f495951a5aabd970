/- Known runs that give rows of plain cells which they made. -/
import Derived.Test.YtgchcfhbcaemoabGreatDoorRvZC
namespace Go.Rv
open Go
noncomputable section
mutual
/-- names that count from another one -/
def shR (N : Nat) : RV → RV
  | .v x => .v x
  | .ptr b o => .ptr (N + b) o
  | .sl b o n e => .sl (N + b) o n e
  | .mp b => .mp (N + b)
  | .it b => .it (N + b)
  | .fn f a c => .fn f (shL N a) (shL N c)
  | .yld b => .yld (N + b)
  | .agg cs => .agg (shL N cs)
  | .tup cs => .tup (shL N cs)
def shL (N : Nat) : List RV → List RV
  | [] => []
  | x :: r => shR N x :: shL N r
end

/-- a known run: its result leads to the rows 'new', 'sl i ..' is a part of the row i -/
structure MemoR where
  m : MemoM
  new : List (List RV)

/-- such rows behind memory -/
def withR (W : RW) (new : List (List RV)) : RW := match W with
  | ⟨n, l⟩ => fnat (n + new.length) fun k => ⟨k, (new.map fun c => RObj.cells c .gr).reverse ++ l⟩

/-- the parts of a result -/
def unt : RV → List RV
  | .tup xs => xs
  | x => [x]

def isT : RV → Bool
  | .tup _ => true
  | _ => false

def memoRFind (l : List MemoR) (k : Nat) (g : FuncId) (args : List RV) (W : RW) : Option (RV × RW) := match l with
  | [] => none
  | e :: r => match Nat.beq e.m.key k && Nat.beq e.m.g g with
    | true => match mArgs W e.m.mem e.m.args args [] with
      | some bs => match Nat.beq bs.length e.m.mem.length with
        | true => fnat W.n fun n => match withR W e.new with
          | ⟨n', l'⟩ => some (shR n e.m.x, ⟨n', l'⟩)
        | false => memoRFind r k g args W
      | none => memoRFind r k g args W
    | false => memoRFind r k g args W

def memoCRun (fs : List FuncId) (n : Nat) (l : List (List MemoR)) (g : FuncId) (args : List RV) (W : RW) : Option (RV × RW) := match fs.any (fun k => Nat.beq k g) with
  | true => fnat (hashA args 0) fun k => match lget l (k % n) with
    | some b => memoRFind b k g args W
    | none => none
  | false => none

/-- made, and its own -/
def freshB (W1 : RW) (n b : Nat) : Bool := Nat.ble n b && match W1.get b with
  | some (.cells _ .gr) => true
  | _ => false
end

section
mutual
theorem shR_rv (m : Nat → Loc) (N : Nat) : ∀ x, rv m (shR N x) = rv (fun i => m (N + i)) x
  | .v _ => rfl
  | .ptr _ _ => rfl
  | .sl _ _ _ _ => rfl
  | .mp _ => rfl
  | .it _ => rfl
  | .fn f a c => by simp only [shR, rv, shL_rv m N a, shL_rv m N c]
  | .yld _ => rfl
  | .agg cs => by simp only [shR, rv, shL_rv m N cs]
  | .tup cs => by simp only [shR, rv, shL_rv m N cs]
theorem shL_rv (m : Nat → Loc) (N : Nat) : ∀ x, rvL m (shL N x) = rvL (fun i => m (N + i)) x
  | [] => rfl
  | x :: r => by simp only [shL, rvL, shR_rv m N x, shL_rv m N r]
end

theorem shR_one {N : Nat} : ∀ {x : RV}, oneB (shR N x) = oneB x := by
  intro x
  cases x <;> rfl

mutual
theorem shR_below (N n : Nat) : ∀ x, below n x = true → below (N + n) (shR N x) = true
  | .v x, h => h
  | .ptr _ _, h => by simp [shR, below, blt_eq] at h ⊢; omega
  | .sl _ _ _ _, h => by simp [shR, below, blt_eq] at h ⊢; omega
  | .mp _, h => by simp [shR, below, blt_eq] at h ⊢; omega
  | .it _, h => by simp [shR, below, blt_eq] at h ⊢; omega
  | .yld _, h => by simp [shR, below, blt_eq] at h ⊢; omega
  | .fn f a c, h => by
    simp [shR, below] at h ⊢
    exact ⟨shL_below N n a h.1, shL_below N n c h.2⟩
  | .agg cs, h => by
    simp [shR, below] at h ⊢
    exact shC_below N n cs h
  | .tup cs, h => by
    simp [shR, below] at h ⊢
    exact shL_below N n cs h
theorem shL_below (N n : Nat) : ∀ x, belowL n x = true → belowL (N + n) (shL N x) = true
  | [], _ => rfl
  | x :: r, h => by
    simp [shL, belowL] at h ⊢
    exact ⟨shR_below N n x h.1, shL_below N n r h.2⟩
theorem shC_below (N n : Nat) : ∀ x, belowC n x = true → belowC (N + n) (shL N x) = true
  | [], _ => rfl
  | x :: r, h => by
    simp [shL, belowC] at h ⊢
    exact ⟨⟨by rw [shR_one]; exact h.1.1, shR_below N n x h.1.2⟩, shC_below N n r h.2⟩
end

/-- what a known run has to be: a run from the rows alone; what it gives leads to rows that it made -/
def MemoR.Ok (P : Program) (e : MemoR) : Prop := (∃ x1 W1 bs, @CallOk (plainEnv []) P e.m.g e.m.args (memW e.m.mem) x1 W1 ∧ mArgs W1 e.new (unt e.m.x) (unt x1) [] = some bs ∧ isT e.m.x = isT x1 ∧ bs.length = e.new.length ∧ (bs.all (freshB W1 e.m.mem.length)) = true ∧ nodupB bs = true) ∧
  (e.new.all fun c => belowC 0 c) = true ∧ ∃ fn, P.funcs[e.m.g]? = some fn ∧ fn.body.isSome = true

theorem unt_rv {a b : Nat → Loc} {x y : RV} (ht : isT x = isT y) (h : (unt x).map (rv a) = (unt y).map (rv b)) : rv a x = rv b y := by
  cases x <;> cases y <;> simp [isT] at ht <;> simp only [unt, List.map_cons, List.map_nil, List.cons.injEq, and_true] at h <;> first | exact h | simp only [rv, rvL_eq, h]

theorem unt_below {n : Nat} {x : RV} (h : belowL n (unt x) = true) : below n x = true := by
  cases x <;> simp only [unt, belowL, Bool.and_true] at h <;> first | exact h | simpa [below] using h

theorem withR_eq (W : RW) (new : List (List RV)) : withR W new = ⟨W.n + new.length, (new.map fun c => RObj.cells c .gr).reverse ++ W.l⟩ := by
  cases W
  simp only [withR, fnat_eq]

theorem withR_get {W : RW} {new : List (List RV)} {b : Nat} {o : RObj} (hwf : W.wf) (h : (withR W new).get b = some o) : (b < W.n ∧ W.get b = some o) ∨ (∃ i c, b = W.n + i ∧ new[i]? = some c ∧ o = .cells c .gr) := by
  rw [withR_eq] at h
  have hl : W.l.length = W.n := hwf
  unfold RW.get at h
  simp only [blt_eq, decide_eq_true_eq, lget_eq] at h
  split at h
  · rename_i hb
    by_cases hbn : b < W.n
    · left
      refine ⟨hbn, ?_⟩
      unfold RW.get
      simp only [blt_eq, decide_eq_true_eq, lget_eq]
      rw [if_pos hbn]
      rw [List.getElem?_append_right (by simp; omega)] at h
      rw [← h]
      congr 1
      simp
      omega
    · right
      rw [List.getElem?_append_left (by simp; omega), List.getElem?_reverse (by simp; omega)] at h
      simp only [List.length_map, List.getElem?_map] at h
      rw [show new.length - 1 - (W.n + new.length - 1 - b) = b - W.n by omega] at h
      cases ht : new[b - W.n]? with
      | none => rw [ht] at h; simp at h
      | some c =>
        rw [ht] at h
        simp only [Option.map_some, Option.some.injEq] at h
        exact ⟨b - W.n, c, by omega, ht, h.symm⟩
  · simp at h

theorem memW_rel {e2 : Env} {m m0 : Nat → Loc} {W : RW} {w : World} {mem : List (List RV)} {bs : List Nat} (hr : @Rel e2 m W w) (hmet : Met W mem bs 0 bs.length) (hl : bs.length = mem.length) (hm0 : ∀ i b, bs[i]? = some b → m0 i = m b) :
    @Rel (plainEnv []) m0 (memW mem) w := by
  refine @Rel.mk (plainEnv []) _ _ _ (by simp [RW.wf, memW]) ?_ ?_ ?_ ?_
  · intro i o hi
    obtain ⟨c, hci, rfl⟩ := memW_get hi
    have hil := (List.getElem?_eq_some_iff.1 hci).1
    have hbi : bs[i]? = some (bs[i]'(by omega)) := List.getElem?_eq_getElem (by omega)
    obtain ⟨c0, c', h1, h2, h3, _⟩ := hmet i _ (Nat.zero_le _) (by omega) hbi
    rw [hci] at h1
    simp only [Option.some.injEq] at h1
    subst h1
    obtain ⟨k, hk⟩ := cellsAt_spec h2
    rw [hm0 i _ hbi]
    have h3 := h3 m m0 hm0
    have hlen : c.length = c'.length := by simpa using congrArg List.length h3
    obtain ⟨arr, ty, fz, q1, q2, q3, q4, q5, _⟩ := hr.obj _ _ hk
    refine ⟨arr, ty, fz, q1, fun j x hj => ?_, fun hh => absurd rfl hh, by rw [hlen]; exact q4, q5, fun hh => by simp at hh, trivial⟩
    have hjl := (List.getElem?_eq_some_iff.1 hj).1
    have hj' : c'[j]? = some (c'[j]'(by omega)) := List.getElem?_eq_getElem (by omega)
    rw [q2 j _ hj']
    have := congrArg (·[j]?) h3
    simp only [List.getElem?_map, hj, hj', Option.map_some, Option.some.injEq] at this
    rw [this]
  · intro i o hi
    obtain ⟨c, hci, rfl⟩ := memW_get hi
    have hil := (List.getElem?_eq_some_iff.1 hci).1
    have hbi : bs[i]? = some (bs[i]'(by omega)) := List.getElem?_eq_getElem (by omega)
    obtain ⟨c0, c', h1, _, _, h4⟩ := hmet i _ (Nat.zero_le _) (by omega) hbi
    rw [hci] at h1
    simp only [Option.some.injEq] at h1
    subst h1
    show belowC mem.length c = true
    rw [← hl]
    exact h4
  · intro a b x y ha _ hx
    obtain ⟨c, _, rfl⟩ := memW_get ha
    simp [RObj.own] at hx
  · intro i g hi
    have hi' : ([] : List Nat)[i]? = some g := hi
    simp at hi'

theorem memoR_lift {e2 : Env} {P : Program} {e : MemoR} (h : e.Ok P) {args : List RV} {W : RW} {as : List Nat} (hm : mArgs W e.m.mem e.m.args args [] = some as) (hl : as.length = e.m.mem.length) :
    @CallOk e2 P e.m.g args W (shR W.n e.m.x) (withR W e.new) := by
  obtain ⟨⟨x1, W1, bs, hc, hxm, hxt, hbl, hbf, hnd⟩, hplain, _⟩ := h
  have hnodup := nodupB_ok hnd
  obtain ⟨_, hmet, hargs, hbel⟩ := mArgs_spec hm
  obtain ⟨_, xmet, hxv, xbel⟩ := mArgs_spec hxm
  intro m w cs hr hb
  let m0 : Nat → Loc := fun i => match as[i]? with
    | some b => m b
    | none => ⟨0, 0, 0⟩
  have hm0 : ∀ i b, as[i]? = some b → m0 i = m b := fun i b hi => by simp only [m0, hi]
  have hr0 : @Rel (plainEnv []) m0 (memW e.m.mem) w := memW_rel hr hmet hl hm0
  obtain ⟨m', w', fr, st, hlv, hf, hr', hp, hx'⟩ := hc m0 w cs hr0 (by
    show belowL e.m.mem.length e.m.args = true
    rw [← hl]
    exact hbel)
  have hst := hp.toStill fun b o hb => by
    obtain ⟨c, _, rfl⟩ := memW_get hb
    rfl
  let m2 : Nat → Loc := fun b => if b < W.n then m b else match bs[b - W.n]? with
    | some c => m' c
    | none => ⟨0, 0, 0⟩
  have hag : Agree W.n m m2 := fun b hb => by simp only [m2, if_pos hb]
  have hm2 : ∀ i b, bs[i]? = some b → m2 (W.n + i) = m' b := fun i b hi => by
    simp only [m2]
    rw [if_neg (by omega), Nat.add_sub_cancel_left, hi]
  have hres : rv m2 (shR W.n e.m.x) = rv m' x1 := by
    rw [shR_rv]
    exact unt_rv hxt (hxv m' (fun i => m2 (W.n + i)) hm2)
  have hrs := @Rel.still e2 m W w w' hr hst
  have plainE : ∀ (m1 m3 : Nat → Loc) (x : RV), below 0 x = true → rv m1 x = rv m3 x := fun m1 m3 x hx => rv_agree (n := 0) (fun b hb => absurd hb (Nat.not_lt_zero b)) x hx
  have fresh : ∀ (i : Nat) (c0 : List RV), e.new[i]? = some c0 → ∃ b c, bs[i]? = some b ∧ W1.get b = some (.cells c .gr) ∧ w.heap.size ≤ (m' b).blk ∧ belowC 0 c0 = true ∧ ORel m2 (.cells c0 .gr) (m' b) w'.heap := by
    intro i c0 hi
    have hil := (List.getElem?_eq_some_iff.1 hi).1
    have hbi : bs[i]? = some (bs[i]'(by omega)) := List.getElem?_eq_getElem (by omega)
    obtain ⟨c0', c, h1, h2, h3, _⟩ := xmet i _ (Nat.zero_le _) (by omega) hbi
    rw [hi] at h1
    simp only [Option.some.injEq] at h1
    subst h1
    obtain ⟨k, hk⟩ := cellsAt_spec h2
    have hf := List.all_eq_true.1 hbf _ (List.mem_of_getElem? hbi)
    have hkg : k = .gr := by
      simp only [freshB, hk, Bool.and_eq_true] at hf
      have := hf.2
      cases k <;> first | rfl | simp at this
    subst hkg
    have hp0 := List.all_eq_true.1 hplain c0 (List.mem_of_getElem? hi)
    refine ⟨_, c, hbi, hk, ?_, hp0, ?_⟩
    · rcases hp.own _ _ hk rfl with h | ⟨a, x, ha, hx, _⟩
      · exact h
      · obtain ⟨c', _, rfl⟩ := memW_get ha
        simp [RObj.own] at hx
    · have h3 := h3 m' (fun i => m2 (W.n + i)) hm2
      have hlen : c0.length = c.length := by simpa using congrArg List.length h3
      obtain ⟨arr, ty, fz, q1, q2, q3, q4, q5, _⟩ := @Rel.obj (plainEnv []) _ _ _ hr' _ _ hk
      refine ⟨arr, ty, fz, q1, fun j x hj => ?_, q3, by rw [hlen]; exact q4, q5, fun hh => by simp at hh, trivial⟩
      have hjl := (List.getElem?_eq_some_iff.1 hj).1
      have hj' : c[j]? = some (c[j]'(by omega)) := List.getElem?_eq_getElem (by omega)
      rw [q2 j _ hj']
      have := congrArg (·[j]?) h3
      simp only [List.getElem?_map, hj, hj', Option.map_some, Option.some.injEq] at this
      rw [← this]
      exact congrArg some (plainE _ _ x ((belowC_iff 0 c0).1 hp0 x (List.mem_of_getElem? hj)).2)
  have hget := fun {b : Nat} {o : RObj} (hb : (withR W e.new).get b = some o) => withR_get hr.wf hb
  have hn : (withR W e.new).n = W.n + e.new.length := by rw [withR_eq]
  have newAt : ∀ i c0, e.new[i]? = some c0 → ∃ b, m2 (W.n + i) = m' b ∧ w.heap.size ≤ (m' b).blk ∧ belowC 0 c0 = true ∧ ORel m2 (.cells c0 .gr) (m2 (W.n + i)) w'.heap ∧ bs[i]? = some b ∧ ∃ c, W1.get b = some (.cells c .gr) := by
    intro i c0 hi
    obtain ⟨b, c, h1, hk, h2, h3, h4⟩ := fresh i c0 hi
    exact ⟨b, hm2 i b h1, h2, h3, by rw [hm2 i b h1]; exact h4, h1, c, hk⟩
  have blkOld : ∀ b o, W.get b = some o → o.live = true → (m b).blk < w.heap.size := fun b o hb ho => (hr.obj b o hb).lt_size ho
  have hxb : below (withR W e.new).n (shR W.n e.m.x) = true := by
    rw [hn]
    refine shR_below W.n e.new.length e.m.x ?_
    rw [← hbl]
    exact unt_below xbel
  refine ⟨m2, w', fr, ?_, ?_, hf, ?_, ?_, hxb⟩
  · rw [← hargs m m0 hm0]
    exact st
  · rw [hres]
    exact hlv
  · refine @Rel.mk e2 _ _ _ ?_ ?_ ?_ ?_ ?_
    · rw [withR_eq]
      have : W.l.length = W.n := hr.wf
      simp [RW.wf, this]
      omega
    · intro b o hb
      rcases hget hb with ⟨hbn, hb⟩ | ⟨i, c, rfl, hi, rfl⟩
      · rw [hag b hbn]
        exact (hrs.obj b o hb).agree (hr.lt b o hb) hag
      · exact (newAt i c hi).choose_spec.2.2.2.1
    · intro b o hb
      rw [hn]
      rcases hget hb with ⟨hbn, hb⟩ | ⟨i, c, rfl, hi, rfl⟩
      · exact RObj.lt_mono (Nat.le_add_right _ _) (hr.lt b o hb)
      · exact belowC_mono (Nat.zero_le _) c (newAt i c hi).choose_spec.2.2.1
    · intro a b x y ha hb hx hy hab
      rcases hget ha with ⟨han, ha⟩ | ⟨i, c, rfl, hi, rfl⟩
      · rcases hget hb with ⟨hbn, hb⟩ | ⟨i, c, rfl, hi, rfl⟩
        · rw [hag a han, hag b hbn]
          exact hr.inj a b x y ha hb hx hy hab
        · obtain ⟨b', h1, h2, _⟩ := newAt i c hi
          rw [hag a han, h1]
          have := (hr.obj a x ha).lt_size (own_live hx)
          omega
      · obtain ⟨a', g1, g2, g3, g4, g5, cg, g6⟩ := newAt i c hi
        rcases hget hb with ⟨hbn, hb⟩ | ⟨j, c2, rfl, hj, rfl⟩
        · have := blkOld b y hb hy
          rw [hag b hbn, g1]
          omega
        · obtain ⟨b', f1, f2, f3, f4, f5, cf, f6⟩ := newAt j c2 hj
          rw [g1, f1]
          refine @Rel.inj (plainEnv []) _ _ _ hr' a' b' _ _ g6 f6 rfl rfl ?_
          intro hab'
          subst hab'
          obtain ⟨i1, i2⟩ := List.getElem?_eq_some_iff.1 g5
          obtain ⟨j1, j2⟩ := List.getElem?_eq_some_iff.1 f5
          have hp2 := List.pairwise_iff_getElem.1 hnodup
          rcases Nat.lt_trichotomy i j with h9 | h9 | h9
          · exact hp2 _ _ i1 j1 h9 (i2.trans j2.symm)
          · subst h9; exact hab rfl
          · exact hp2 _ _ j1 i1 h9 (j2.trans i2.symm)
    · intro i g hi
      obtain ⟨h1, h2⟩ := hr.glb i g hi
      rw [hn, hag i h1]
      exact ⟨by omega, h2⟩
  · refine ⟨hag, by rw [hn]; omega, hst.size, fun r hr' _ => hst.keep r hr', fun b o hb ho => ?_, hst.os, hst.tape, hst.output⟩
    rcases hget hb with ⟨hbn, hb⟩ | ⟨i, c, rfl, hi, rfl⟩
    · exact .inr ⟨b, o, hb, ho, by rw [hag b hbn]⟩
    · obtain ⟨b', h1, h2, _⟩ := newAt i c hi
      exact .inl (by rw [h1]; exact h2)

@[reducible] noncomputable def memoCEnv (ids gs fs : List Nat) (n : Nat) (l : List (List MemoR)) : Env := ⟨ids, memoCRun fs n l, fun g => gs.any fun k => Nat.beq k g⟩

theorem noOwn_memoC {P : Program} (h : Named P) (ids gs fs : List Nat) (n : Nat) {l : List (List MemoR)} (hl : ∀ b ∈ l, ∀ e ∈ b, e.Ok P) : @NoOwn (memoCEnv ids gs fs n l) P := by
  refine @NoOwn.mk (memoCEnv ids gs fs n l) P h ?_
  intro g args W x W' hx0
  have key : ∀ (k : Nat) (l' : List MemoR), (∀ e ∈ l', e.Ok P) → memoRFind l' k g args W = some (x, W') → @CallOk (memoCEnv ids gs fs n l) P g args W x W' ∧ ∃ fn, P.funcs[g]? = some fn ∧ fn.body.isSome = true := by
    intro k l'
    induction l' with
    | nil => intro _ hx; simp [memoRFind] at hx
    | cons e r ih =>
      intro hl hx
      have ih := ih fun q hq => hl q (List.mem_cons_of_mem _ hq)
      unfold memoRFind at hx
      split at hx
      · rename_i hg
        simp only [Bool.and_eq_true] at hg
        have h1 := Nat.eq_of_beq_eq_true hg.2
        subst h1
        split at hx
        · rename_i bs hm
          split at hx
          · rename_i hn
            rw [fnat_eq] at hx
            have hx' : some (shR W.n e.m.x, withR W e.new) = some (x, W') := hx
            simp only [Option.some.injEq, Prod.mk.injEq] at hx'
            obtain ⟨rfl, rfl⟩ := hx'
            exact ⟨memoR_lift (hl e List.mem_cons_self) hm (Nat.eq_of_beq_eq_true hn), (hl e List.mem_cons_self).2.2⟩
          · exact ih hx
        · exact ih hx
      · exact ih hx
  have hx1 : memoCRun fs n l g args W = some (x, W') := hx0
  unfold memoCRun at hx1
  split at hx1
  · rw [fnat_eq] at hx1
    split at hx1
    · rename_i b hb
      rw [lget_eq] at hb
      exact key _ b (hl b (List.mem_of_getElem? hb)) hx1
    · simp at hx1
  · simp at hx1

/-- what is to be reckoned of a known run -/
noncomputable def okR (e : MemoR) (r : Option (RV × RW)) : Bool := match r with
  | some (x1, W1) => match mArgs W1 e.new (unt e.m.x) (unt x1) [] with
    | some bs => isT e.m.x == isT x1 && Nat.beq bs.length e.new.length && bs.all (freshB W1 e.m.mem.length) && nodupB bs && e.new.all fun c => belowC 0 c
    | none => false
  | none => false

theorem memoR_of {P : Program} {e : Env} (he : e.ids = []) (hN : @NoOwn e P) (n : Nat) {m : MemoR} (h : okR m (@callF e P (@evR e P n) m.m.g m.m.args (memW m.m.mem)) = true) : m.Ok P := by
  unfold okR at h
  split at h
  · rename_i x1 W1 hc
    split at h
    · rename_i bs hm
      simp only [Bool.and_eq_true] at h
      obtain ⟨⟨⟨⟨h0, h1⟩, h2⟩, hnd⟩, h3⟩ := h
      have h0 := eq_of_beq h0
      obtain ⟨k1, k2⟩ := @callF_ok e P _ hN (@ev_ok e P hN n) _ _ _ _ _ hc
      exact ⟨⟨x1, W1, bs, @conv_ok e (plainEnv []) he P _ _ _ _ _ k1, hm, h0, Nat.eq_of_beq_eq_true h1, h2, hnd⟩, h3, k2⟩
    · simp at h
  · simp at h

@[reducible] noncomputable def memoDEnv (ids gs fs : List Nat) (n : Nat) (l : List (List MemoM)) (fs2 : List Nat) (l2 : List (List MemoR)) : Env :=
  ⟨ids, fun g args W => match memoBRun fs n l g args W with
    | some r => some r
    | none => memoCRun fs2 n l2 g args W, fun g => gs.any fun k => Nat.beq k g⟩

theorem noOwn_memoD {P : Program} (h : Named P) (ids gs fs : List Nat) (n : Nat) {l : List (List MemoM)} (hl : ∀ b ∈ l, ∀ e ∈ b, e.Ok P) (fs2 : List Nat) {l2 : List (List MemoR)} (hl2 : ∀ b ∈ l2, ∀ e ∈ b, e.Ok P) :
    @NoOwn (memoDEnv ids gs fs n l fs2 l2) P := by
  refine @NoOwn.mk (memoDEnv ids gs fs n l fs2 l2) P h ?_
  intro g args W x W' hx0
  have hx1 : (match memoBRun fs n l g args W with
    | some r => some r
    | none => memoCRun fs2 n l2 g args W) = some (x, W') := hx0
  split at hx1
  · rename_i r hr
    simp only [Option.some.injEq] at hx1
    subst hx1
    obtain ⟨h1, h2⟩ := @NoOwn.ext (memoBEnv ids gs fs n l) P (noOwn_memoB h ids gs fs n hl) g args W x W' hr
    exact ⟨@conv_ok (memoBEnv ids gs fs n l) (memoDEnv ids gs fs n l fs2 l2) rfl P g args W W' x h1, h2⟩
  · obtain ⟨h1, h2⟩ := @NoOwn.ext (memoCEnv ids gs fs2 n l2) P (noOwn_memoC h ids gs fs2 n hl2) g args W x W' hx1
    exact ⟨@conv_ok (memoCEnv ids gs fs2 n l2) (memoDEnv ids gs fs n l fs2 l2) rfl P g args W W' x h1, h2⟩
end
end Go.Rv
