/- Calls and rounds. -/
import Derived.Test.YtgchcfhbcaemoabGreatDoorRvN
namespace Go.Rv
open Go
variable [Env]

def markOf (m : Nat → Loc) (d : Nat) : Deferred := { target := .collected (m d).blk, args := #[] }

/-- a frame that stands for a state of the evaluator -/
structure FrOk (m : Nat → Loc) (s : St) (fr : Frame) (f : FuncId) (rd : Option Nat) : Prop where
  mode : fr.mode = .run
  fn : fr.fn = f
  rnd : fr.roundOf = rd.map fun l => (m l).blk
  tr : TR m s.t fr.tmps
  ds : fr.defers = s.ds.map (markOf m)
  dlt : ∀ d ∈ s.ds, d < s.W.n
  rlt : ∀ l, rd = some l → l < s.W.n

def Left : Ex → List Item → List Item → Prop
  | .nrm, todo, k => todo = k
  | .exit id, todo, k => ∃ k2, todo = .code (.exit id) :: k2 ∧ exitTo id k2 = exitTo id k
  | .ret, todo, _ => ∃ k2, todo = .code .ret :: k2
  | .goto l, todo, k => ∃ k2, todo = .code (.goto l) :: k2 ∧ gotoIn l k2 = gotoIn l k

/-- what a piece of code does, from a state to a state -/
def CodeOk (P : Program) (f : FuncId) (rd : Option Nat) (c : Code) (s : St) (ex : Ex) (s' : St) : Prop :=
  ∀ (m : Nat → Loc) (w : World) (fr : Frame) (cs : List Frame) (k : List Item), Rel m s.W w → tlt s.W.n s.t → FrOk m s fr f rd → fr.todo = .code c :: k →
    ∃ m' w' fr2, Steps P (lone fr cs w) (lone fr2 cs w') ∧ Rel m' s'.W w' ∧ tlt s'.W.n s'.t ∧ FrOk m' s' fr2 f rd ∧ Post m s.W w m' s'.W w' ∧ fr2.kind = fr.kind ∧ Left ex fr2.todo k

def EvOk (P : Program) (ev : Ev) : Prop := ∀ f rd c s ex s', ev f rd c s = some (ex, s') → CodeOk P f rd c s ex s'

section
variable {P : Program} {ev : Ev}

omit [Env] in
theorem step_unwind {fr fr2 : Frame} {cs cs2 : List Frame} {w w2 : World} (hm : fr.mode = .returning)
    (h : (unwind P true fr cs none w).bare = .go { frame := fr2, callers := cs2, status := .running, dying := none } w2) : Steps P (lone fr cs w) (lone fr2 cs2 w2) := by
  apply step_go
  simpa [stepG, hm] using h

theorem takeDs_ok : ∀ (ds : List Nat) (W W' : RW) (m : Nat → Loc) (w : World) (fr : Frame) (cs : List Frame), takeDs ds W = some W' → Rel m W w → fr.mode = .returning → fr.defers = ds.map (markOf m) →
    ∃ w', Steps P (lone fr cs w) (lone { fr with defers := [] } cs w') ∧ Rel m W' w' ∧ Post m W w m W' w'
  | [], W, W', m, w, fr, cs, h, hr, hm, hd => by
    simp only [takeDs, Option.some.injEq] at h
    subst h
    refine ⟨w, ?_, hr, Post.refl _ _ _⟩
    have : ({ fr with defers := [] } : Frame) = fr := by
      cases fr
      simp at hd
      subst hd
      rfl
    rw [this]
    exact Steps.refl _ _
  | d :: ds, W, W', m, w, fr, cs, h, hr, hm, hd => by
    simp only [takeDs] at h
    split at h
    · rename_i hg
      split at h
      · rename_i W1 hs
        have ho : w.heap[(m d).blk]? = some (.deferred (some [])) := hr.obj d _ hg
        obtain ⟨hr1, hp1⟩ := hr.setObj (o' := .dfr true) (x := .deferred none) hg rfl hs trivial (Array.getElem?_eq_some_iff.1 ho).1 (fun heap hh => hh)
        obtain ⟨w2, st2, hr2, hp2⟩ := takeDs_ok ds W1 W' m _ { fr with defers := ds.map (markOf m) } cs h hr1 hm rfl
        refine ⟨w2, Steps.trans ?_ st2, hr2, hp1.trans hp2⟩
        apply step_unwind hm
        have htd : (Instr.takeDeferred (m d).blk).run P w = .ok [] { w with heap := w.heap.setIfInBounds (m d).blk (.deferred none) } := by
          simp [Instr.takeDeferred, getObj, setObj, Sem.run, ho]
        unfold unwind
        rw [hd]
        simp [markOf, htd]
      · simp at h
    · simp at h

def resSem (arr : Array Value) (r : ResultVar) : Sem Value := match r with
  | .tmp t => pure (arr.getD t undef)
  | .cell a t => do loadVar t (← asAddr (arr.getD a undef))

theorem results_run {W : RW} {m : Nat → Loc} {w : World} {t : RT} {arr : Array Value} (hr : Rel m W w) (ht : TR m t arr) (hlt : tlt W.n t) : ∀ (l : List ResultVar) (xs : List RV), resultsR P t W l = some xs →
    (l.mapM (resSem arr)).run P w = .ok (xs.map (rv m)) w ∧ belowL W.n xs = true
  | [], xs, h => by
    simp only [resultsR, omap, Option.some.injEq] at h
    subst h
    exact ⟨rfl, rfl⟩
  | r :: l, xs, h => by
    simp only [resultsR, omap] at h
    split at h
    · rename_i y ys hy hys
      simp only [Option.some.injEq] at h
      subst h
      obtain ⟨h1, h2⟩ := results_run hr ht hlt l ys hys
      have hone : (resSem arr r).run P w = .ok (rv m y) w ∧ below W.n y = true := by
        cases r with
        | tmp i =>
          simp only [resultR, Option.some.injEq] at hy
          subst hy
          exact ⟨by rw [← ht.get i]; rfl, hlt i⟩
        | cell a ty =>
          simp only [resultR] at hy
          split at hy
          · rename_i i b o hg hi hp
            split at hy
            · rename_i c hc
              obtain ⟨k, hb⟩ := cellsAt_spec hc
              split at hy
              · rename_i l hl
                simp only [Option.some.injEq] at hy
                subst hy
                obtain ⟨g1, g2, g3⟩ := lcut_cells (P := P) hr hb hl
                refine ⟨?_, by simpa [below] using g2⟩
                simp only [resSem, Sem.run_bind, ht.get a, hp, rv, asAddr, Sem.run_pure, Result.andThen, loadVar, run_isAgg hg, if_true, run_size hi, g1, rvL_eq]
              · simp at hy
            · simp at hy
          · rename_i i b o hg hi hp
            split at hy
            · rename_i c hc
              obtain ⟨k, hb⟩ := cellsAt_spec hc
              rw [lget_eq] at hy
              refine ⟨?_, (hr.cellLt hb hy).2⟩
              simp only [resSem, Sem.run_bind, ht.get a, hp, rv, asAddr, Sem.run_pure, Result.andThen, loadVar, run_isAgg hg, Bool.false_eq_true, if_false, run_load, hr.cell hb hy]
            · simp at hy
          · simp at hy
      refine ⟨?_, by simp [belowL, hone.2, h2]⟩
      simp only [List.mapM_cons, Sem.run_bind, hone.1, Result.andThen_ok, h1, Sem.run_pure, List.map_cons]
    · simp at h

omit [Env] in
theorem one_ok (m : Nat → Loc) {n : Nat} {xs : List RV} (h : belowL n xs = true) : below n (one xs) = true ∧
    (if h : ((xs.map (rv m)).toArray).size = 1 then ((xs.map (rv m)).toArray)[0] else .tuple (xs.map (rv m)).toArray) = rv m (one xs) := by
  match xs, h with
  | [], _ => exact ⟨rfl, by simp [one, rv, rvL]⟩
  | [x], h => exact ⟨by simpa [belowL, one] using h, by simp [one]⟩
  | x :: y :: r, h => exact ⟨by simpa [below, one] using h, by simp [one, rv, rvL_eq]⟩

theorem results_ok {fn : Func} {W : RW} {m : Nat → Loc} {w : World} {t : RT} {arr : Array Value} (hr : Rel m W w) (ht : TR m t arr) (hlt : tlt W.n t) {xs : List RV} (h : resultsR P t W fn.results.toList = some xs) :
    (results fn arr).run P w = .ok (rv m (one xs)) w ∧ below W.n (one xs) = true := by
  obtain ⟨h1, h2⟩ := results_run hr ht hlt _ _ h
  obtain ⟨h3, h4⟩ := one_ok m h2
  refine ⟨?_, h3⟩
  have hres : results fn arr = (do let vs ← fn.results.mapM (resSem arr); pure (if h : vs.size = 1 then vs[0] else .tuple vs)) := by
    unfold results
    congr 1
  rw [hres]
  have e : fn.results = fn.results.toList.toArray := by simp
  rw [e, List.mapM_toArray]
  simp only [Sem.run_bind, Sem.run_map, h1, Result.andThen_ok, Sem.run_pure, h4]

omit [Env] in
theorem enter_get (l : List Value) (n i : Nat) : (l.toArray ++ Array.replicate n undef).getD i undef = (l[i]?).getD undef := by
  rw [Array.getD_eq_getD_getElem?]
  by_cases hi : i < l.length
  · rw [Array.getElem?_append_left (by simpa using hi)]
    simp
  · rw [Array.getElem?_append_right (by simpa using hi), List.getElem?_eq_none (by omega)]
    by_cases h2 : i - l.length < n
    · simp [h2]
    · simp [h2]

/-- a call of a function: its frame comes to its end -/
def CallOk (P : Program) (g : FuncId) (args : List RV) (W : RW) (x : RV) (W' : RW) : Prop :=
  ∀ (m : Nat → Loc) (w : World) (cs : List Frame), Rel m W w → belowL W.n args = true →
    ∃ m' w' fr, Steps P (lone (Frame.enter P g (args.map (rv m)).toArray .normal) cs w) (lone fr cs w') ∧ fr.leaving P w' (.returned (rv m' x)) ∧ fr.fn = g ∧
      Rel m' W' w' ∧ Post m W w m' W' w' ∧ below W'.n x = true

/-- no function of the machine's own name; what is given of functions is so -/
structure NoOwn (P : Program) : Prop where
  name : ∀ (g : FuncId) (fn : Func), P.funcs[g]? = some fn → (fn.name == "runtime.NumGoroutine") = false
  ext : ∀ (g : FuncId) (args : List RV) (W : RW) (x : RV) (W' : RW), Env.ext g args W = some (x, W') → CallOk P g args W x W' ∧ ∃ fn, P.funcs[g]? = some fn ∧ fn.body.isSome = true

theorem callF_ok (hN : NoOwn P) (hev : EvOk P ev) {g : FuncId} {args : List RV} {W W' : RW} {x : RV} (h : callF P ev g args W = some (x, W')) :
    CallOk P g args W x W' ∧ ∃ fn, P.funcs[g]? = some fn ∧ fn.body.isSome = true := by
  unfold callF at h
  split at h
  · rename_i r hr
    simp only [Option.some.injEq] at h
    subst h
    exact hN.ext _ _ _ _ _ hr
  split at h
  · rename_i fn hfn
    split at h
    · rename_i c hc
      refine ⟨?_, fn, hfn, by simp [hc]⟩
      intro m w cs hr hb
      rw [fnat_eq] at h
      unfold finF at h
      split at h
      · rename_i ex s hs
        have hlen : args.length ≤ max args.length fn.ntmps := Nat.le_max_left _ _
        have hlt : tlt W.n (RT.of args (max args.length fn.ntmps)) := by
          intro i
          rw [of_get _ _ _ hlen]
          cases hx : args[i]? with
          | none => rfl
          | some y => exact (belowL_iff _ _).1 hb y (List.mem_of_getElem? hx)
        have hfr : FrOk m ⟨RT.of args (max args.length fn.ntmps), W, []⟩ (Frame.enter P g (args.map (rv m)).toArray .normal) g none := by
          refine ⟨rfl, rfl, rfl, ⟨?_, ?_⟩, rfl, by simp, by simp⟩
          · simp [Frame.enter, hfn]; omega
          · intro i
            rw [of_get _ _ _ hlen]
            simp only [Frame.enter, hfn, Option.map_some, Option.getD_some]
            rw [enter_get, List.getElem?_map]
            cases args[i]? <;> rfl
        have htodo : (Frame.enter P g (args.map (rv m)).toArray .normal).todo = .code c :: [] := by simp [Frame.enter, hfn, hc]
        obtain ⟨m1, w1, fr1, st1, hr1, hlt1, hfr1, hp1, hk1, hleft⟩ := hev _ _ _ _ _ _ hs m w _ cs [] hr hlt hfr htodo
        have fin : (fr1.todo = [] ∨ ∃ k, fr1.todo = .code .ret :: k) → (match takeDs s.ds s.W with
            | some W' => match resultsR P s.t W' fn.results.toList with
              | some xs => some (one xs, W')
              | none => none
            | none => none) = some (x, W') → ∃ m' w' fr, Steps P (lone (Frame.enter P g (args.map (rv m)).toArray .normal) cs w) (lone fr cs w') ∧ fr.leaving P w' (.returned (rv m' x)) ∧ fr.fn = g ∧
              Rel m' W' w' ∧ Post m W w m' W' w' ∧ below W'.n x = true := by
          intro htd hh
          split at hh
          · rename_i W2 htk
            split at hh
            · rename_i xs hxs
              simp only [Option.some.injEq, Prod.mk.injEq] at hh
              obtain ⟨rfl, rfl⟩ := hh
              have st2 := s_return (P := P) (cs := cs) (w := w1) hfr1.mode htd hfr1.rnd
              obtain ⟨w2, st3, hr2, hp2⟩ := takeDs_ok (P := P) s.ds s.W W2 m1 w1 { fr1 with mode := .returning } cs htk hr1 rfl hfr1.ds
              have hlt2 : tlt W2.n s.t := fun i => below_mono hp2.mono _ (hlt1 i)
              obtain ⟨r1, r2⟩ := results_ok (P := P) (fn := fn) hr2 hfr1.tr hlt2 hxs
              exact ⟨m1, w2, _, st1.trans (st2.trans st3), ⟨rfl, rfl, hk1, fn, by rw [← hfr1.fn] at hfn; exact hfn, r1⟩, hfr1.fn, hr2, hp1.trans hp2, r2⟩
            · simp at hh
          · simp at hh
        cases ex with
        | nrm => exact fin (.inl hleft) h
        | ret => exact fin (.inr hleft) h
        | exit id => simp at h
        | goto l => simp at h
      · simp at h
    · simp at h
  · simp at h
end
end Go.Rv
