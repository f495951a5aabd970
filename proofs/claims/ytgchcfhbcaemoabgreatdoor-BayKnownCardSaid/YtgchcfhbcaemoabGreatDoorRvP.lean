/- Rounds, and calls of function values. -/
import Derived.Test.YtgchcfhbcaemoabGreatDoorRvO
namespace Go.Rv
open Go
variable [Env]
section
variable {P : Program} {ev : Ev}

theorem loopAt {m : Nat → Loc} {W : RW} {w : World} (hr : Rel m W w) {l : Nat} {st : LoopState} {pend : Option Code} {fn : FuncId} {t : RT} {params : Array Tmp} {assign body : Code} {d : Nat}
    (hg : W.get l = some (.loop st pend fn t params assign body d)) :
    ∃ arr, TR m t arr ∧ w.heap[(m l).blk]? = some (.loop ⟨st, pend, fn, arr, params, assign, body, (m d).blk⟩) ∧ tlt W.n t ∧ d < W.n := by
  obtain ⟨arr, h1, h2⟩ := hr.obj l _ hg
  obtain ⟨h3, h4⟩ := hr.lt l _ hg
  exact ⟨arr, h1, h2, h3, h4⟩

omit [Env] in
theorem run_getLoop' {w : World} {l : Nat} {r : Loop} (h : w.heap[l]? = some (.loop r)) : (Instr.getLoop l).run P w = .ok r w := by
  simp [Instr.getLoop, getObj, Sem.run, h]

omit [Env] in
theorem run_setLoop {w : World} {l : Nat} {r : Loop} {o : Obj} (h : w.heap[l]? = some (.loop r)) : (setObj l o).run P w = .ok () { w with heap := w.heap.setIfInBounds l o } := by
  simp [setObj, Sem.run, h]

/-- a loop's record is changed -/
theorem Rel.setLoop {m : Nat → Loc} {W W' : RW} {w : World} (hr : Rel m W w) {l : Nat} {st st' : LoopState} {pend pend' : Option Code} {fn : FuncId} {t : RT} {params : Array Tmp} {assign body : Code} {d : Nat} {arr : Array Value}
    (hg : W.get l = some (.loop st pend fn t params assign body d)) (ht : TR m t arr) (hh : w.heap[(m l).blk]? = some (.loop ⟨st, pend, fn, arr, params, assign, body, (m d).blk⟩))
    (hs : W.set l (.loop st' pend' fn t params assign body d) = some W') :
    Rel m W' { w with heap := w.heap.setIfInBounds (m l).blk (.loop ⟨st', pend', fn, arr, params, assign, body, (m d).blk⟩) } ∧ Post m W w m W' { w with heap := w.heap.setIfInBounds (m l).blk (.loop ⟨st', pend', fn, arr, params, assign, body, (m d).blk⟩) } :=
  hr.setObj (o' := .loop st' pend' fn t params assign body d) hg rfl hs (show tlt W.n t ∧ d < W.n from hr.lt l _ hg) (Array.getElem?_eq_some_iff.1 hh).1 (fun _ h2 => ⟨arr, ht, h2⟩)

omit [Env] in
/-- the frame of a round comes back -/
theorem leave_round {fr c : Frame} {cs : List Frame} {w : World} {l : Nat} {r : Loop} {ex : Ex} {v : Bool} {st : LoopState} {p : Option Code}
    (hm : fr.mode = .run) (hr : fr.roundOf = some l) (hk : fr.kind = .normal) (hg : w.heap[l]? = some (.loop r)) (ht : Left ex fr.todo [])
    (hex : (ex = .nrm ∧ st = .ready ∧ p = none ∧ v = true) ∨ (∃ id, ex = .exit id ∧ st = .done ∧ p = some (.exit id) ∧ v = false) ∨ (ex = .ret ∧ st = .done ∧ p = some .ret ∧ v = false) ∨ (∃ g, ex = .goto g ∧ st = .done ∧ p = some (.goto g) ∧ v = false)) :
    Steps P (lone fr (c :: cs) w) (lone (c.finish (.bool v)) cs { w with heap := w.heap.setIfInBounds l (.loop { r with state := st, pending := p }) }) := by
  have hend : ∀ j : Option Code, (Instr.endRound l j).run P w = .ok (.bool j.isNone) { w with heap := w.heap.setIfInBounds l (.loop { r with state := if j.isNone then .ready else .done, pending := j }) } := by
    intro j
    simp [Instr.endRound, run_getLoop' hg, run_setLoop hg]
  apply step_go
  rw [stepG_run hm]
  rcases hex with ⟨rfl, rfl, rfl, rfl⟩ | ⟨id, rfl, rfl, rfl, rfl⟩ | ⟨rfl, rfl, rfl, rfl⟩ | ⟨g, rfl, rfl, rfl, rfl⟩
  · have ht' : fr.todo = [] := ht
    simp [stepG.exec, ht', hr, hend, doReturn, hk]
  · obtain ⟨k2, ht1, ht2⟩ := ht
    have ht3 : exitTo id k2 = none := by rw [ht2]; rfl
    simp [stepG.exec, ht1, ht3, hr, hend, doReturn, hk]
  · obtain ⟨k2, ht1⟩ := ht
    simp [stepG.exec, ht1, hr, hend, doReturn, hk]
  · obtain ⟨k2, ht1, ht2⟩ := ht
    have ht3 : gotoIn g k2 = none := by rw [ht2]; rfl
    simp [stepG.exec, ht1, ht3, hr, hend, doReturn, hk]

omit [Env] in
theorem finY_ok {l : Nat} {W W' : RW} {st : LoopState} {p : Option Code} {b : Bool} {x : RV} (h : finY l W st p b = some (x, W')) :
    ∃ st0 pend fn t params assign body d, W.get l = some (.loop st0 pend fn t params assign body d) ∧ W.set l (.loop st p fn t params assign body d) = some W' ∧ x = .v (.bool b) := by
  unfold finY at h
  split at h
  · rename_i st0 pend fn t params assign body d hg
    split at h
    · rename_i W2 hs
      simp only [Option.some.injEq, Prod.mk.injEq] at h
      obtain ⟨rfl, rfl⟩ := h
      exact ⟨_, _, _, _, _, _, _, _, hg, hs, rfl⟩
    · simp at h
  · simp at h

omit [Env] in
theorem setParams_ok {m : Nat → Loc} {n : Nat} : ∀ (ps : List Tmp) (as : List RV) (t t' : RT) (arr : Array Value), setParams ps as t = some t' → TR m t arr → tlt n t → belowL n as = true →
    ps.length = as.length ∧ TR m t' ((ps.zip (as.map (rv m))).foldl (fun (tmps : Array Value) (x : Tmp × Value) => tmps.setIfInBounds x.1 x.2) arr) ∧ tlt n t'
  | [], [], t, t', arr, h, ht, hl, hb => by
    simp only [setParams, Option.some.injEq] at h
    subst h
    exact ⟨rfl, ht, hl⟩
  | p :: ps, a :: as, t, t', arr, h, ht, hl, hb => by
    simp only [setParams] at h
    split at h
    · rename_i t1 hs
      obtain ⟨h1, h2, h3⟩ := set_ok _ _ _ _ hs
      have hb' : below n a = true ∧ belowL n as = true := by simpa [belowL] using hb
      obtain ⟨h4, h5, h6⟩ := setParams_ok (m := m) ps as t1 t' (arr.setIfInBounds p (rv m a)) h ⟨by simp [ht.size, h1], fun i => by
        rw [h3 i]
        by_cases hi : p = i
        · subst hi
          have : p < arr.size := by rw [ht.size]; exact h2
          simp [this]
        · rw [if_neg hi, ← ht.get i]
          simp [Array.getD_eq_getD_getElem?, Array.getElem?_setIfInBounds_ne hi]⟩ (fun i => by
        rw [h3 i]
        split
        · exact hb'.1
        · exact hl i) hb'.2
      exact ⟨by simp [h4], by simpa using h5, h6⟩
    · simp at h
  | [], _ :: _, _, _, _, h, _, _, _ => by simp [setParams] at h
  | _ :: _, [], _, _, _, h, _, _, _ => by simp [setParams] at h

/-- a call at a frame: entered, and come back to it -/
def CallRun (P : Program) (fr : Frame) (cs : List Frame) (s : Sem Next) (w : World) (v : Value) (w' : World) : Prop :=
  (∃ g args, s.run P w = .ok (.enter g args) w ∧ Steps P (lone (Frame.enter P g args .normal) (fr :: cs) w) (lone (fr.finish v) cs w')) ∨
  (∃ l f tmps as bd, s.run P w = .ok (.round l f tmps as bd) w ∧ Steps P (lone (Frame.round l f tmps as bd .normal) (fr :: cs) w) (lone (fr.finish v) cs w'))

def callSem (m : Nat → Loc) (f : RV) (args : List RV) : Sem Next := do
  let d ← Deferred.ofValue (rv m f) (args.map (rv m)).toArray
  invoke d.target d.args

theorem run_callFunc (hN : NoOwn P) {g : FuncId} {fn : Func} (h : P.funcs[g]? = some fn) (hb : fn.body.isSome = true) (args : Array Value) (w : World) :
    (callFunc g args).run P w = .ok (.enter g args) w := by
  have h1 := hN.name g fn h
  obtain ⟨c, hc⟩ := Option.isSome_iff_exists.1 hb
  have h3 : ¬ fn.name = "runtime.NumGoroutine" := by simpa using h1
  simp [callFunc, h, h3, hc]

theorem callY_ok (hev : EvOk P ev) {l : Nat} {args : List RV} {W W' : RW} {x : RV} (h : callY ev l args W = some (x, W')) {m : Nat → Loc} {w : World} (hr : Rel m W w) (hba : belowL W.n args = true) (fr : Frame) (cs : List Frame) :
    ∃ m' w', CallRun P fr cs (callSem m (.yld l) args) w (rv m' x) w' ∧ Rel m' W' w' ∧ Post m W w m' W' w' ∧ below W'.n x = true := by
  unfold callY at h
  split at h
  · rename_i st0 pend0 fn t params assign body d hg
    obtain ⟨arr, ht, hh, hlt, hd⟩ := loopAt hr hg
    split at h
    · rename_i t0 hsp
      obtain ⟨hlen, ht0, hlt0⟩ := setParams_ok params.toList args t t0 arr hsp ht hlt hba
      have hrun : (callSem m (.yld l) args).run P w = .ok (.round (m l).blk fn ((params.toList.zip (args.map (rv m))).foldl (fun (tmps : Array Value) (x : Tmp × Value) => tmps.setIfInBounds x.1 x.2) arr) assign body) w := by
        have hsz : ((args.map (rv m)).toArray).size = params.size := by simp [← hlen]
        have hz : (params.zip (args.map (rv m)).toArray).foldl (fun (tmps : Array Value) (x : Tmp × Value) => tmps.setIfInBounds x.1 x.2) arr = (params.toList.zip (args.map (rv m))).foldl (fun (tmps : Array Value) (x : Tmp × Value) => tmps.setIfInBounds x.1 x.2) arr := by
          rw [← Array.foldl_toList, Array.toList_zip]
        simp only [callSem, rv, Deferred.ofValue, invoke, Sem.run_bind, Sem.run_pure, Result.andThen_ok, Instr.yield, Array.empty_append, run_getLoop' hh, hsz, ne_eq, not_true_eq_false, if_false]
        rw [← hz]
      unfold begY at h
      split at h
      · rename_i t1 W1 hs1
        have hlW : l < W.n := get_lt hg
        obtain ⟨m1, w1, fr1, st1, hr1, hlt1, hfr1, hp1, hk1, hleft1⟩ := hev _ _ _ _ _ _ hs1 m w (Frame.round (m l).blk fn ((params.toList.zip (args.map (rv m))).foldl (fun (tmps : Array Value) (x : Tmp × Value) => tmps.setIfInBounds x.1 x.2) arr) assign body .normal) (fr :: cs) [.beginRound, .code body] hr hlt0
          ⟨rfl, rfl, rfl, ht0, rfl, by simp, fun l' hl' => by cases hl'; exact hlW⟩ rfl
        split at h
        · rename_i pend1 f1 t1' ps1 as1 bd1 d1 hg1
          split at h
          · rename_i W2 hs2
            obtain ⟨arr1, ht1, hh1, _, _⟩ := loopAt hr1 hg1
            obtain ⟨hr2, hp2⟩ := hr1.setLoop hg1 ht1 hh1 hs2
            have hml : (m1 l).blk = (m l).blk := by rw [hp1.ag l hlW]
            have hround1 : fr1.roundOf = some (m1 l).blk := hfr1.rnd
            -- the round begins
            have stb : Steps P (lone fr1 (fr :: cs) w1) (lone { fr1 with todo := [.code body] } (fr :: cs) { w1 with heap := w1.heap.setIfInBounds (m1 l).blk (.loop ⟨.busy, pend1, f1, arr1, ps1, as1, bd1, (m1 d1).blk⟩) }) := by
              apply step_go
              rw [stepG_run hfr1.mode]
              have htd : fr1.todo = [.beginRound, .code body] := hleft1
              have hbr : (Instr.beginRound (m1 l).blk).run P w1 = .ok () { w1 with heap := w1.heap.setIfInBounds (m1 l).blk (.loop ⟨.busy, pend1, f1, arr1, ps1, as1, bd1, (m1 d1).blk⟩) } := by
                simp [Instr.beginRound, run_getLoop' hh1, run_setLoop hh1]
              simp [stepG.exec, htd, stepG.apply, hround1, hbr, Frame.finish]
            unfold exY at h
            split at h
            · rename_i ex t3 W3 hs3
              have hlW1 : l < W1.n := get_lt hg1
              have hn2 : W2.n = W1.n := (set_spec hs2).1
              obtain ⟨m3, w3, fr3, st3, hr3, hlt3, hfr3, hp3, hk3, hleft3⟩ := hev _ _ _ _ _ _ hs3 m1 _ { fr1 with todo := [.code body] } (fr :: cs) [] hr2 (fun i => by
                have := hlt1 i
                simp only [hn2]
                exact this) ⟨hfr1.mode, hfr1.fn, hfr1.rnd, hfr1.tr, by simpa using hfr1.ds, by simp, fun l' hl' => by cases hl'; simp only [hn2]; exact hlW1⟩ rfl
              have hround3 : fr3.roundOf = some (m3 l).blk := hfr3.rnd
              have hkn : fr3.kind = .normal := by rw [hk3]; exact hk1
              have finish : ∀ (st : LoopState) (p : Option Code) (b : Bool), finY l W3 st p b = some (x, W') →
                  ((ex = .nrm ∧ st = .ready ∧ p = none ∧ b = true) ∨ (∃ id, ex = .exit id ∧ st = .done ∧ p = some (.exit id) ∧ b = false) ∨ (ex = .ret ∧ st = .done ∧ p = some .ret ∧ b = false) ∨ (∃ g, ex = .goto g ∧ st = .done ∧ p = some (.goto g) ∧ b = false)) →
                  ∃ m' w', CallRun P fr cs (callSem m (.yld l) args) w (rv m' x) w' ∧ Rel m' W' w' ∧ Post m W w m' W' w' ∧ below W'.n x = true := by
                intro st p b hfin hex
                obtain ⟨st4, pend4, fn4, t4, ps4, as4, bd4, d4, hg4, hs4, rfl⟩ := finY_ok hfin
                obtain ⟨arr4, ht4, hh4, _, _⟩ := loopAt hr3 hg4
                obtain ⟨hr5, hp5⟩ := hr3.setLoop hg4 ht4 hh4 hs4
                have st5 := leave_round (P := P) (c := fr) (cs := cs) hfr3.mode hround3 hkn hh4 hleft3 hex
                exact ⟨m3, _, .inr ⟨_, _, _, _, _, hrun, st1.trans (stb.trans (st3.trans st5))⟩, hr5, hp1.trans (hp2.trans (hp3.trans hp5)), rfl⟩
              cases ex with
              | nrm => exact finish _ _ _ h (.inl ⟨rfl, rfl, rfl, rfl⟩)
              | exit id => exact finish _ _ _ h (.inr (.inl ⟨id, rfl, rfl, rfl, rfl⟩))
              | ret => exact finish _ _ _ h (.inr (.inr (.inl ⟨rfl, rfl, rfl, rfl⟩)))
              | goto g => exact finish _ _ _ h (.inr (.inr (.inr ⟨g, rfl, rfl, rfl, rfl⟩)))
            · simp at h
          · simp at h
        · simp at h
      · simp at h
    · simp at h
  · simp at h

omit [Env] in
theorem rowB_col {n : Nat} {r : Row} (h : rowB n r = true) : ∀ i, below n (r.col i) = true := by
  simp only [rowB, Bool.and_eq_true] at h
  obtain ⟨⟨⟨⟨⟨⟨⟨h0, h1⟩, h2⟩, h3⟩, h4⟩, h5⟩, h6⟩, h7⟩ := h
  intro i
  match i with
  | 0 => exact h0
  | 1 => exact h1
  | 2 => exact h2
  | 3 => exact h3
  | 4 => exact h4
  | 5 => exact h5
  | 6 => exact h6
  | k + 7 => exact h7

omit [Env] in
theorem ltB_ok {n : Nat} {o : RObj} (h : ltB n o = true) : o.lt n := by
  cases o with
  | dead => trivial
  | cells c k => exact h
  | map es clock ro =>
    intro e he
    have := List.all_eq_true.1 h e he
    simpa using this
  | miter b since seen stepped =>
    have hb : b < n := by simpa [ltB, blt_eq] using h
    exact hb
  | siter s pos => trivial
  | loop st pend fn t params assign body d =>
    simp only [ltB, Bool.and_eq_true, blt_eq, decide_eq_true_eq] at h
    refine ⟨fun i => ?_, h.2⟩
    unfold RT.get
    split
    · rename_i r hr
      rw [lget_eq] at hr
      exact rowB_col (List.all_eq_true.1 h.1 r (List.mem_of_getElem? hr)) _
    · rfl
  | dfr taken => trivial
  | link b o k a => simpa [ltB, blt_eq, RObj.lt] using h

omit [Env] in
theorem memN_iff {b : Nat} : ∀ {l : List Nat}, memN b l = true ↔ b ∈ l
  | [] => by simp [memN]
  | c :: r => by
    unfold memN
    split
    · rename_i h
      have := Nat.eq_of_beq_eq_true h
      simp [this]
    · rename_i h
      have h1 : b ≠ c := fun e => by subst e; simp at h
      rw [memN_iff (b := b) (l := r)]
      simp [h1]

omit [Env] in
theorem nodupB_ok : ∀ {l : List Nat}, nodupB l = true → l.Nodup
  | [], _ => List.nodup_nil
  | c :: r, h => by
    unfold nodupB at h
    split at h
    · simp at h
    · rename_i hm
      refine List.nodup_cons.2 ⟨fun hc => ?_, nodupB_ok h⟩
      rw [memN_iff.2 hc] at hm
      simp at hm

omit [Env] in
theorem idxN_ok {b : Nat} : ∀ {l : List Nat} {j i : Nat}, idxN b l j = some i → j ≤ i ∧ l[i - j]? = some b
  | [], j, i, h => by simp [idxN] at h
  | c :: r, j, i, h => by
    unfold idxN at h
    split at h
    · rename_i hb
      have hb := Nat.eq_of_beq_eq_true hb
      simp only [Option.some.injEq] at h
      subst h hb
      simp
    · rw [fnat_eq] at h
      obtain ⟨h1, h2⟩ := idxN_ok h
      refine ⟨by omega, ?_⟩
      rw [show i - j = (i - (j + 1)) + 1 by omega, List.getElem?_cons_succ]
      exact h2

/-- where the kept blocks lie -/
def kMap (n : Nat) (kl : List Nat) (m : Nat → Loc) : Nat → Loc := fun b => if b < n then m b else match kl[kl.length - 1 - (b - n)]? with
  | some c => m c
  | none => ⟨0, 0, 0⟩

omit [Env] in
theorem renN_ok {n : Nat} {kl : List Nat} {m : Nat → Loc} {b b' : Nat} (h : renN n kl b = some b') : kMap n kl m b' = m b ∧ b' < n + kl.length := by
  unfold renN at h
  split at h
  · rename_i hb
    have hb : b < n := by simpa [blt_eq] using hb
    simp only [Option.some.injEq] at h
    subst h
    simp only [kMap, if_pos hb, true_and]
    omega
  · split at h
    · rename_i j hj
      rw [fnat_eq] at h
      simp only [Option.some.injEq] at h
      subst h
      obtain ⟨_, h2⟩ := idxN_ok hj
      have h2 : kl[j]? = some b := h2
      have hl := (List.getElem?_eq_some_iff.1 h2).1
      refine ⟨?_, by omega⟩
      simp only [kMap]
      rw [if_neg (by omega), show kl.length - 1 - (n + (kl.length - 1 - j) - n) = j by omega, h2]
    · simp at h

omit [Env] in
theorem kMap_ag {n : Nat} {kl : List Nat} {m : Nat → Loc} : Agree n m (kMap n kl m) := fun b hb => by simp only [kMap, if_pos hb]

omit [Env] in
theorem ren1_ok {n : Nat} {kl : List Nat} {m : Nat → Loc} {x y : RV} (h : ren1 n kl x = some y) : rv (kMap n kl m) y = rv m x ∧ below (n + kl.length) y = true ∧ (oneB x = true → oneB y = true) := by
  unfold ren1 at h
  split at h
  · split at h
    · rename_i b' hb
      simp only [Option.some.injEq] at h
      subst h
      obtain ⟨h1, h2⟩ := renN_ok (m := m) hb
      exact ⟨by simp only [rv, h1], by simpa [below, blt_eq] using h2, fun _ => rfl⟩
    · simp at h
  · split at h
    · rename_i b' hb
      simp only [Option.some.injEq] at h
      subst h
      obtain ⟨h1, h2⟩ := renN_ok (m := m) hb
      exact ⟨by simp only [rv, h1], by simpa [below, blt_eq] using h2, fun _ => rfl⟩
    · simp at h
  · split at h
    · rename_i hb
      simp only [Option.some.injEq] at h
      subst h
      exact ⟨rv_agree kMap_ag x hb, below_mono (Nat.le_add_right _ _) _ hb, fun h => h⟩
    · simp at h

omit [Env] in
theorem renL_ok {n : Nat} {kl : List Nat} {m : Nat → Loc} : ∀ {xs ys : List RV}, omap (ren1 n kl) xs = some ys → ys.map (rv (kMap n kl m)) = xs.map (rv m) ∧ belowL (n + kl.length) ys = true ∧ (belowC n xs = true ∨ True)
  | [], ys, h => by
    simp only [omap, Option.some.injEq] at h
    subst h
    exact ⟨rfl, rfl, .inr trivial⟩
  | x :: r, ys, h => by
    unfold omap at h
    split at h
    · rename_i y zs hy hz
      simp only [Option.some.injEq] at h
      subst h
      obtain ⟨h1, h2, _⟩ := ren1_ok (m := m) hy
      obtain ⟨h3, h4, _⟩ := renL_ok (m := m) hz
      exact ⟨by simp only [List.map_cons, h1, h3], by simp only [belowL, h2, h4, Bool.and_self], .inr trivial⟩
    · simp at h

omit [Env] in
theorem renX_ok {n : Nat} {kl : List Nat} {m : Nat → Loc} {x y : RV} (h : renX n kl x = some y) : rv (kMap n kl m) y = rv m x ∧ below (n + kl.length) y = true := by
  unfold renX at h
  split at h
  · split at h
    · rename_i ys hy
      simp only [Option.some.injEq] at h
      subst h
      obtain ⟨h1, h2, _⟩ := renL_ok (m := m) hy
      exact ⟨by simp only [rv, rvL_eq, h1], by simpa [below] using h2⟩
    · simp at h
  · obtain ⟨h1, h2, _⟩ := ren1_ok (m := m) h
    exact ⟨h1, h2⟩

/-- a block anew -/
def RenOk (n q : Nat) (m m2 : Nat → Loc) (o o' : RObj) : Prop := (o' = o ∧ ltB n o = true) ∨ ∃ (c c' : List RV) (k : Kd), o = .cells c k ∧ o' = .cells c' k ∧ c'.length = c.length ∧ (∀ (j : Nat) (x : RV), c'[j]? = some x → ∃ y : RV, c[j]? = some y ∧ rv m2 x = rv m y) ∧ (belowC q c' = true)

omit [Env] in
theorem renO_ok {n N : Nat} {kl : List Nat} {m : Nat → Loc} {o o' : RObj} (hlt : o.lt N) (h : renO n kl o = some o') : RenOk n (n + kl.length) m (kMap n kl m) o o' := by
  unfold renO at h
  split at h
  · rename_i c k
    split at h
    · rename_i c' hc
      simp only [Option.some.injEq] at h
      subst h
      have hs := omap_spec hc
      have hlen : c'.length = c.length := omap_length hc
      have hb : belowC N c = true := hlt
      have at_ : ∀ (j : Nat) (x : RV), c'[j]? = some x → ∃ y, c[j]? = some y ∧ ren1 n kl y = some x := by
        intro j x hj
        have h1 := congrArg (·[j]?) hs
        simp only [List.getElem?_map, hj, Option.map_some] at h1
        cases hcj : c[j]? with
        | none => rw [hcj] at h1; simp at h1
        | some y =>
          rw [hcj] at h1
          simp only [Option.map_some, Option.some.injEq] at h1
          exact ⟨y, rfl, h1⟩
      refine Or.inr ⟨c, c', k, rfl, rfl, hlen, fun j x hj => ?_, (belowC_iff _ c').2 fun x hx => ?_⟩
      · obtain ⟨y, h1, h2⟩ := at_ j x hj
        exact ⟨y, h1, (ren1_ok (m := m) h2).1⟩
      · obtain ⟨j, hj⟩ := List.getElem?_of_mem hx
        obtain ⟨y, h1, h2⟩ := at_ j x hj
        obtain ⟨_, h4, h5⟩ := ren1_ok (m := m) h2
        exact ⟨h5 ((belowC_iff N c).1 hb y (List.mem_of_getElem? h1)).1, h4⟩
    · simp at h
  · simp at h

omit [Env] in
theorem addC_ex {α : Type} {n : Nat} {r : α} : ∀ {c : List RV} {acc : List Nat} {k : List Nat → Option α}, addC n c acc k = some r → ∃ a, k a = some r
  | [], acc, k, h => ⟨acc, h⟩
  | x :: c, acc, k, h => by
    unfold addC at h
    split at h
    · split at h
      · exact addC_ex h
      · rw [fnat_eq] at h; exact addC_ex h
    · exact addC_ex h

omit [Env] in
theorem addW_ex {α : Type} {n : Nat} {r : α} : ∀ {c : List RObj} {acc : List Nat} {k : List Nat → Option α}, addW n c acc k = some r → ∃ a, k a = some r
  | [], acc, k, h => ⟨acc, h⟩
  | o :: c, acc, k, h => by
    unfold addW at h
    split at h
    · obtain ⟨a, h⟩ := addC_ex h
      exact addW_ex h
    · exact addW_ex h

omit [Env] in
theorem addN_ex {α : Type} {n : Nat} {W : RW} {r : α} : ∀ {c : List Nat} {acc : List Nat} {k : List Nat → Option α}, addN n W c acc k = some r → ∃ a, k a = some r
  | [], acc, k, h => ⟨acc, h⟩
  | o :: c, acc, k, h => by
    unfold addN at h
    split at h
    · obtain ⟨a, h⟩ := addC_ex h
      exact addN_ex h
    · exact addN_ex h

theorem cmK_ok {m m' : Nat → Loc} {W W1 : RW} {w w' : World} {x x' : RV} {l : List RObj} {kl : List Nat} {W' : RW} (hr0 : Rel m W w) (hr : Rel m' W1 w') (hp : Post m W w m' W1 w') (hn : W.n ≤ W1.n) (hl : ldrop (W1.n - W.n) W1.l = some l)
    (h : cmK W.n x W1 l kl = some (x', W')) : ∃ m2, rv m2 x' = rv m' x ∧ Rel m2 W' w' ∧ Post m W w m2 W' w' ∧ below W'.n x' = true := by
  unfold cmK at h
  split at h
  case h_2 => simp at h
  rename_i hnd
  split at h
  case h_2 => simp at h
  rename_i y hy
  split at h
  case h_2 => simp at h
  rename_i l' hl'
  split at h
  case h_2 => simp at h
  rename_i nl hnl
  rw [fnat_eq] at h
  simp only [Option.some.injEq, Prod.mk.injEq] at h
  obtain ⟨rfl, rfl⟩ := h
  obtain ⟨hx1, hx2⟩ := renX_ok (m := m') hy
  obtain ⟨d1, d2⟩ := ldrop_spec _ _ hl
  have hwf : W1.l.length = W1.n := hr.wf
  have hlen : l.length = W.n := by rw [d2, List.length_drop, hwf]; omega
  have hlen' : l'.length = W.n := (omap_length hl').trans hlen
  have hnll : nl.length = kl.length := omap_length hnl
  have hnodup := nodupB_ok hnd
  have oldget : ∀ b, b < W.n → W1.get b = l[W.n - 1 - b]? := by
    intro b hb
    unfold RW.get
    simp only [blt_eq, decide_eq_true_eq, lget_eq]
    rw [if_pos (by omega), d2, List.getElem?_drop]
    congr 1
    omega
  have back : ∀ {α β : Type} {f : α → Option β} {a : List α} {r : List β}, omap f a = some r → ∀ (j : Nat) (v : β), r[j]? = some v → ∃ u, a[j]? = some u ∧ f u = some v := by
    intro α β f a r hs j v hj
    have h1 := congrArg (·[j]?) (omap_spec hs)
    simp only [List.getElem?_map, hj, Option.map_some] at h1
    cases hcj : a[j]? with
    | none => rw [hcj] at h1; simp at h1
    | some u =>
      rw [hcj] at h1
      simp only [Option.map_some, Option.some.injEq] at h1
      exact ⟨u, rfl, h1⟩
  have org : ∀ b o', (⟨W.n + kl.length, nl ++ l'⟩ : RW).get b = some o' → ∃ b0 o, W1.get b0 = some o ∧ kMap W.n kl m' b = m' b0 ∧ RenOk W.n (W.n + kl.length) m' (kMap W.n kl m') o o' ∧
      b < W.n + kl.length ∧ ((b < W.n ∧ b0 = b) ∨ (W.n ≤ b ∧ W.n ≤ b0 ∧ kl[kl.length - 1 - (b - W.n)]? = some b0)) := by
    intro b o' hb
    unfold RW.get at hb
    simp only [blt_eq, decide_eq_true_eq, lget_eq] at hb
    split at hb
    case isFalse => simp at hb
    rename_i hbn
    by_cases hbo : b < W.n
    · rw [List.getElem?_append_right (by omega)] at hb
      obtain ⟨o, h1, h2⟩ := back hl' _ _ hb
      rw [show W.n + kl.length - 1 - b - nl.length = W.n - 1 - b by omega, ← oldget b hbo] at h1
      refine ⟨b, o, h1, by simp only [kMap, if_pos hbo], ?_, hbn, .inl ⟨hbo, rfl⟩⟩
      unfold renOld at h2
      split at h2
      · rename_i hlt
        simp only [Option.some.injEq] at h2
        exact Or.inl ⟨h2.symm, hlt⟩
      · exact renO_ok (hr.lt b o h1) h2
    · rw [List.getElem?_append_left (by omega)] at hb
      obtain ⟨c, h1, h2⟩ := back hnl _ _ hb
      unfold renNew at h2
      split at h2
      case h_2 => simp at h2
      rename_i hcn
      have hcn := Nat.le_of_ble_eq_true hcn
      split at h2
      case h_2 => simp at h2
      rename_i o ho
      rw [show W.n + kl.length - 1 - b = kl.length - 1 - (b - W.n) by omega] at h1
      exact ⟨c, o, ho, by simp only [kMap]; rw [if_neg hbo, h1], renO_ok (hr.lt c o ho) h2, hbn, .inr ⟨by omega, hcn, h1⟩⟩
  have same : ∀ o o', RenOk W.n (W.n + kl.length) m' (kMap W.n kl m') o o' → o'.own = o.own ∧ o'.live = o.live := by
    intro o o' h
    rcases h with ⟨rfl, _⟩ | ⟨c, c', k, rfl, rfl, _⟩
    · exact ⟨rfl, rfl⟩
    · exact ⟨by cases k <;> rfl, rfl⟩
  refine ⟨kMap W.n kl m', hx1, ⟨?_, ?_, ?_, ?_, ?_⟩, ⟨fun b hb => ?_, Nat.le_add_right _ _, hp.size, hp.keep, fun b o hb ho => ?_, hp.os, hp.tape, hp.output⟩, hx2⟩
  · show (nl ++ l').length = W.n + kl.length
    rw [List.length_append]
    omega
  · intro b o' hb
    obtain ⟨b0, o, h1, h2, h3, _, _⟩ := org b o' hb
    rw [h2]
    have ho := hr.obj b0 o h1
    rcases h3 with ⟨rfl, hlt⟩ | ⟨c, c', k, rfl, rfl, e1, e2, _⟩
    · exact ho.agree (ltB_ok hlt) kMap_ag
    · obtain ⟨arr, ty, fz, q1, q2, q3, q4, q5, q6, q7⟩ := ho
      refine ⟨arr, ty, fz, q1, fun j z hj => ?_, q3, by rw [e1]; exact q4, q5, by rw [e1]; exact q6, by rw [e1]; exact q7⟩
      obtain ⟨u, u1, u2⟩ := e2 j z hj
      rw [q2 j u u1, u2]
  · intro b o' hb
    obtain ⟨b0, o, h1, h2, h3, _, _⟩ := org b o' hb
    rcases h3 with ⟨rfl, hlt⟩ | ⟨c, c', k, rfl, rfl, e1, e2, e3⟩
    · exact RObj.lt_mono (Nat.le_add_right _ _) (ltB_ok hlt)
    · exact e3
  · intro a b y z ha hb hy hz hab
    obtain ⟨a0, oa, a1, a2, a3, a4, a5⟩ := org a y ha
    obtain ⟨b0, ob, b1, b2, b3, b4, b5⟩ := org b z hb
    rw [a2, b2]
    refine hr.inj a0 b0 oa ob a1 b1 (by rw [← (same oa y a3).1]; exact hy) (by rw [← (same ob z b3).2]; exact hz) ?_
    intro e
    subst e
    rcases a5 with ⟨a6, rfl⟩ | ⟨a6, a7, a8⟩
    · rcases b5 with ⟨b6, rfl⟩ | ⟨b6, b7, b8⟩
      · exact hab rfl
      · omega
    · rcases b5 with ⟨b6, rfl⟩ | ⟨b6, b7, b8⟩
      · omega
      · obtain ⟨i1, i2⟩ := List.getElem?_eq_some_iff.1 a8
        obtain ⟨j1, j2⟩ := List.getElem?_eq_some_iff.1 b8
        have hp2 := List.pairwise_iff_getElem.1 hnodup
        rcases Nat.lt_trichotomy (kl.length - 1 - (a - W.n)) (kl.length - 1 - (b - W.n)) with h9 | h9 | h9
        · exact hp2 _ _ i1 j1 h9 (i2.trans j2.symm)
        · omega
        · exact hp2 _ _ j1 i1 h9 (j2.trans i2.symm)
  · intro i g hi
    have h1 := (hr0.glb i g hi).1
    refine ⟨Nat.lt_of_lt_of_le h1 (Nat.le_add_right _ _), ?_⟩
    simp only [kMap, if_pos h1]
    exact (hr.glb i g hi).2
  · simp only [kMap, if_pos hb]
    exact hp.ag b hb
  · obtain ⟨b0, o0, h1, h2, h3, _, _⟩ := org b o hb
    rw [h2]
    exact hp.own b0 o0 h1 (by rw [← (same o0 o h3).1]; exact ho)

theorem gcX_ok {m m' : Nat → Loc} {W W1 : RW} {w w' : World} {x : RV} (hr0 : Rel m W w) (hr : Rel m' W1 w') (hp : Post m W w m' W1 w') (hx : below W1.n x = true) :
    ∃ m2, rv m2 (gcX W.n x W1).1 = rv m' x ∧ Rel m2 (gcX W.n x W1).2 w' ∧ Post m W w m2 (gcX W.n x W1).2 w' ∧ below (gcX W.n x W1).2.n (gcX W.n x W1).1 = true := by
  have base : ∃ m2, rv m2 x = rv m' x ∧ Rel m2 W1 w' ∧ Post m W w m2 W1 w' ∧ below W1.n x = true := ⟨m', rfl, hr, hp, hx⟩
  unfold gcX
  split
  · rename_i l hl
    split
    · rename_i hn
      have h1 := Nat.le_of_ble_eq_true hn
      split
      · rename_i hc
        simp only [Bool.and_eq_true] at hc
        obtain ⟨h2, h3⟩ := hc
        obtain ⟨d1, d2⟩ := ldrop_spec _ _ hl
        have hwf : W1.l.length = W1.n := hr.wf
        have hlen : l.length = W.n := by rw [d2, List.length_drop, hwf]; omega
        have hget : ∀ b o, (⟨W.n, l⟩ : RW).get b = some o → b < W.n ∧ W1.get b = some o := by
          intro b o hb
          unfold RW.get at hb ⊢
          simp only [blt_eq, decide_eq_true_eq, lget_eq] at hb ⊢
          split at hb
          · rename_i hbn
            refine ⟨hbn, ?_⟩
            rw [if_pos (by omega)]
            rw [d2, List.getElem?_drop] at hb
            rw [← hb]
            congr 1
            omega
          · simp at hb
        refine ⟨m', rfl, ⟨hlen, fun b o hb => hr.obj b o (hget b o hb).2, ?_, fun a b y z ha hb => hr.inj a b y z (hget a y ha).2 (hget b z hb).2, ?_⟩, ⟨hp.ag, Nat.le_refl _, hp.size, hp.keep, fun b o hb => hp.own b o (hget b o hb).2, hp.os, hp.tape, hp.output⟩, h2⟩
        · intro b o hb
          obtain ⟨hbn, hb1⟩ := hget b o hb
          refine ltB_ok (List.all_eq_true.1 h3 o ?_)
          unfold RW.get at hb
          simp only [lget_eq] at hb
          split at hb
          · exact List.mem_of_getElem? hb
          · simp at hb
        · intro i g hi
          exact ⟨(hr0.glb i g hi).1, (hr.glb i g hi).2⟩
      · split
        · rename_i r hcm
          obtain ⟨x', W'⟩ := r
          unfold cmW at hcm
          obtain ⟨a1, hcm⟩ := addC_ex hcm
          obtain ⟨a2, hcm⟩ := addW_ex hcm
          obtain ⟨a3, hcm⟩ := addN_ex hcm
          obtain ⟨a4, hcm⟩ := addN_ex hcm
          exact cmK_ok hr0 hr hp h1 hl hcm
        · exact base
    · exact base
  · exact base

theorem callV_ok (hev : EvOk P ev) (hN : NoOwn P) {f : RV} {args : List RV} {W W' : RW} {x : RV} (h : callV P ev f args W = some (x, W')) {m : Nat → Loc} {w : World} (hr : Rel m W w) (hbf : below W.n f = true) (hba : belowL W.n args = true) (fr : Frame) (cs : List Frame) :
    ∃ m' w', CallRun P fr cs (callSem m f args) w (rv m' x) w' ∧ Rel m' W' w' ∧ Post m W w m' W' w' ∧ below W'.n x = true := by
  have viaF : ∀ (g : FuncId) (as : List RV), gcF g W (callF P ev g as W) = some (x, W') → belowL W.n as = true → (∀ w, (callSem m f args).run P w = (callFunc g (as.map (rv m)).toArray).run P w) →
      ∃ m' w', CallRun P fr cs (callSem m f args) w (rv m' x) w' ∧ Rel m' W' w' ∧ Post m W w m' W' w' ∧ below W'.n x = true := by
    intro g as hc hb hs
    obtain ⟨y, W1, hc, hW⟩ : ∃ y W1, callF P ev g as W = some (y, W1) ∧ ((x = y ∧ W' = W1) ∨ (x, W') = gcX W.n y W1) := by
      unfold gcF at hc
      split at hc
      · split at hc
        · rename_i y W1 hq
          rw [fnat_eq] at hc
          simp only [Option.some.injEq] at hc
          exact ⟨y, W1, hq, .inr hc.symm⟩
        · simp at hc
      · exact ⟨x, W', hc, .inl ⟨rfl, rfl⟩⟩
    obtain ⟨hok, fn, hfn, hbody⟩ := callF_ok hN hev hc
    obtain ⟨m', w', fr2, st, hl, _, hr', hp, hx⟩ := hok m w (fr :: cs) hr hb
    obtain ⟨m', hxe, hr', hp, hx⟩ : ∃ m2, rv m2 x = rv m' y ∧ Rel m2 W' w' ∧ Post m W w m2 W' w' ∧ below W'.n x = true := by
      rcases hW with ⟨rfl, rfl⟩ | hW
      · exact ⟨m', rfl, hr', hp, hx⟩
      · have := gcX_ok hr hr' hp hx
        rw [← hW] at this
        exact this
    rw [← hxe] at hl
    refine ⟨m', w', .inl ⟨g, (as.map (rv m)).toArray, by rw [hs, run_callFunc hN hfn hbody], st.trans (.one (step_leave_returned hl))⟩, hr', hp, hx⟩
  have bl : ∀ {a b : List RV}, belowL W.n a = true → belowL W.n b = true → belowL W.n (a ++ b) = true := by
    intro a b h1 h2
    rw [belowL_iff] at *
    intro y hy
    rcases List.mem_append.1 hy with hy | hy
    · exact h1 y hy
    · exact h2 y hy
  unfold callV at h
  split at h
  · rename_i g a c
    split at h
    · rename_i hflat
      have hflat' : a.toList.all oneV = true ∧ c.toList.all oneV = true := by simpa using hflat
      refine viaF g _ h (bl (bl (belowC_L (belowC_v hflat'.1 _)) hba) (belowC_L (belowC_v hflat'.2 _))) ?_
      intro w
      simp only [callSem, rv, Deferred.ofValue, invoke, Sem.run_bind, Sem.run_pure, Result.andThen_ok]
      congr 2
      have hmv : ∀ l : List Value, (l.map RV.v).map (rv m) = l := fun l => by rw [← rvL_eq, rvL_v]
      apply Array.ext'
      simp only [List.map_append, hmv, Array.toList_append]
    · simp at h
  · rename_i g a c
    have hb2 : belowL W.n a = true ∧ belowL W.n c = true := by simpa [below] using hbf
    refine viaF g _ h (bl (bl hb2.1 hba) hb2.2) ?_
    intro w
    simp only [callSem, rv, Deferred.ofValue, invoke, Sem.run_bind, Sem.run_pure, Result.andThen_ok]
    congr 2
    apply Array.ext'
    simp only [List.map_append, rvL_eq, Array.toList_append]
  · exact callY_ok hev h hr hba fr cs
  · simp at h
end
end Go.Rv
