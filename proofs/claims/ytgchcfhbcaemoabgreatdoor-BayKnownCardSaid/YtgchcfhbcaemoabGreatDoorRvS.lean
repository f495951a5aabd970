/- The evaluator is sound: control, and ranging over functions. -/
import Derived.Test.YtgchcfhbcaemoabGreatDoorRvR
namespace Go.Rv
open Go
variable [Env]
section
variable {P : Program} {ev : Ev}

omit [Env] in
theorem steps_same {A B F : Machine} (h : Steps P A F) (hne : A ≠ F) (hs : step P A = step P B) : Steps P B F := by
  obtain ⟨n, hn⟩ := h
  cases n with
  | zero =>
    simp only [runN, Stepped.next.injEq] at hn
    exact absurd hn hne
  | succ n =>
    refine ⟨n + 1, ?_⟩
    simp only [runN] at hn ⊢
    rw [← hs]
    exact hn

omit [Env] in
theorem lone_inj {fr fr2 : Frame} {cs cs2 : List Frame} {w w2 : World} (h : lone fr cs w = lone fr2 cs2 w2) : fr = fr2 := by
  simp only [lone, Machine.mk.injEq] at h
  have := h.2.1
  simp at this
  exact this.1

omit [Env] in
theorem left_ne {ex : Ex} {c : Code} {k : List Item} (h : Left ex (.code (.loop c) :: k) k) : False := by
  cases ex with
  | nrm =>
    have h' : Item.code (.loop c) :: k = k := h
    have := congrArg List.length h'
    simp at this
  | exit id => obtain ⟨k2, h1, _⟩ := h; simp at h1
  | ret => obtain ⟨k2, h1⟩ := h; simp at h1
  | goto l => obtain ⟨k2, h1, _⟩ := h; simp at h1

theorem loop_ok (hev : EvOk P ev) {f : FuncId} {rd : Option Nat} {c : Code} {s s' : St} {ex : Ex} (h : stSeq ev f rd (.loop c) (ev f rd c s) = some (ex, s')) : CodeOk P f rd (.loop c) s ex s' := by
  refine seq_ok hev (.loop c) (.inLoop c) ⟨by simp, by simp⟩ (fun fr cs w k hm ht => s_loop hm ht) ?_ h
  intro fr cs w k hm ht
  refine ⟨.inLoop c :: k, ?_, ?_⟩
  · have : ({ fr with todo := .inLoop c :: k } : Frame) = fr := by
      cases fr
      simp at ht
      subst ht
      rfl
    rw [this]
    exact Steps.refl _ _
  · intro m s1 hfr hv hr hl
    obtain ⟨m2, w2, fr2, st, hr2, hl2, hfr2, hp2, hk2, hleft⟩ := hev _ _ _ _ _ _ hv m w { fr with todo := .code (.loop c) :: k } cs k hr hl (hfr.todo _) rfl
    refine ⟨m2, w2, fr2, ?_, hr2, hl2, hfr2, hp2, hk2, hleft⟩
    refine steps_same st ?_ ?_
    · intro heq
      have := lone_inj heq
      rw [← this] at hleft
      exact left_ne hleft
    · have h1 : step P (lone { fr with todo := .code (.loop c) :: k } cs w) = .next (lone { fr with todo := .code c :: .inLoop c :: k } cs w) := by
        apply step_lone_go
        simp [stepG, stepG.exec, hm]
      have h2 : step P (lone { fr with todo := .inLoop c :: k } cs w) = .next (lone { fr with todo := .code c :: .inLoop c :: k } cs w) := by
        apply step_lone_go
        simp [stepG, stepG.exec, hm]
      rw [h1, h2]

theorem seqc_ok (hev : EvOk P ev) {f : FuncId} {rd : Option Nat} {a b : Code} {s s' : St} {ex : Ex} (h : stSeq ev f rd b (ev f rd a s) = some (ex, s')) : CodeOk P f rd (.seq a b) s ex s' := by
  refine seq_ok hev (.seq a b) (.code b) ⟨by simp, by simp⟩ (fun fr cs w k hm ht => s_seq hm ht) ?_ h
  intro fr cs w k hm ht
  refine ⟨.code b :: k, ?_, ?_⟩
  · have : ({ fr with todo := .code b :: k } : Frame) = fr := by
      cases fr
      simp at ht
      subst ht
      rfl
    rw [this]
    exact Steps.refl _ _
  · intro m s1 hfr hv hr hl
    exact hev _ _ _ _ _ _ hv m w { fr with todo := .code b :: k } cs k hr hl (hfr.todo _) rfl

theorem cond_ok (hev : EvOk P ev) {f : FuncId} {rd : Option Nat} {c : Operand} {a b : Code} {s s' : St} {ex : Ex} (hc : okO c = true) (h : stCond ev f rd (opd c s.t) a b s = some (ex, s')) : CodeOk P f rd (.cond c a b) s ex s' := by
  intro m w fr cs k hr hl hfr htd
  unfold stCond at h
  split at h
  · rename_i x t hx
    have hcond : evV fr.tmps c = .bool t := by
      rw [← (opd_ok (⟨hfr.tr, hl, hr⟩ : Cx m s.t s.W fr.tmps w) hc).1, hx]; rfl
    have st0 := s_cond (P := P) (cs := cs) (w := w) hfr.mode htd hcond
    have key : ∀ c2, ev f rd c2 s = some (ex, s') → Steps P (lone fr cs w) (lone { fr with todo := .code c2 :: k } cs w) → ∃ m' w' fr2, Steps P (lone fr cs w) (lone fr2 cs w') ∧ Rel m' s'.W w' ∧ tlt s'.W.n s'.t ∧ FrOk m' s' fr2 f rd ∧ Post m s.W w m' s'.W w' ∧ fr2.kind = fr.kind ∧ Left ex fr2.todo k := by
      intro c2 hv st
      obtain ⟨m', w', fr2, st2, h1, h2, h3, h4, h5, h6⟩ := hev _ _ _ _ _ _ hv m w { fr with todo := .code c2 :: k } cs k hr hl (hfr.todo _) rfl
      exact ⟨m', w', fr2, st.trans st2, h1, h2, h3, h4, h5, h6⟩
    split at h
    · exact key a h (by simpa using st0)
    · exact key b h (by simpa using st0)
  · simp at h

theorem block_ok (hev : EvOk P ev) {f : FuncId} {rd : Option Nat} {id : Nat} {c : Code} {s s' : St} {ex : Ex} (h : stBlock id (ev f rd c s) = some (ex, s')) : CodeOk P f rd (.block id c) s ex s' := by
  intro m w fr cs k hr hl hfr htd
  unfold stBlock at h
  cases he : ev f rd c s with
  | none => rw [he] at h; simp at h
  | some q =>
    obtain ⟨ex1, s1⟩ := q
    rw [he] at h
    obtain ⟨m1, w1, fr1, st1, hr1, hl1, hfr1, hp1, hk1, hleft1⟩ := hev _ _ _ _ _ _ he m w { fr with todo := .code c :: .inBlock id :: k } cs (.inBlock id :: k) hr hl (hfr.todo _) rfl
    have st0 := s_block (P := P) (cs := cs) (w := w) hfr.mode htd
    cases ex1 with
    | nrm =>
      simp only [Option.some.injEq, Prod.mk.injEq] at h
      obtain ⟨rfl, rfl⟩ := h
      have htd1 : fr1.todo = .inBlock id :: k := hleft1
      exact ⟨m1, w1, { fr1 with todo := k }, st0.trans (st1.trans (s_inBlock hfr1.mode htd1)), hr1, hl1, hfr1.todo _, hp1, hk1, rfl⟩
    | exit id' =>
      simp only at h
      obtain ⟨k2, h1, h2⟩ := hleft1
      split at h
      · rename_i hid
        have hid' : id' = id := Nat.eq_of_beq_eq_true hid
        subst hid'
        simp only [Option.some.injEq, Prod.mk.injEq] at h
        obtain ⟨rfl, rfl⟩ := h
        have h3 : exitTo id' k2 = some k := by rw [h2]; simp [exitTo]
        exact ⟨m1, w1, { fr1 with todo := k }, st0.trans (st1.trans (s_exit hfr1.mode h1 h3)), hr1, hl1, hfr1.todo _, hp1, hk1, rfl⟩
      · rename_i hid
        have hid' : id' ≠ id := fun e => hid (by rw [e]; exact Nat.beq_refl _)
        simp only [Option.some.injEq, Prod.mk.injEq] at h
        obtain ⟨rfl, rfl⟩ := h
        refine ⟨m1, w1, fr1, st0.trans st1, hr1, hl1, hfr1, hp1, hk1, k2, h1, h2.trans ?_⟩
        simp [exitTo, Ne.symm hid']
    | ret =>
      simp only [Option.some.injEq, Prod.mk.injEq] at h
      obtain ⟨rfl, rfl⟩ := h
      exact ⟨m1, w1, fr1, st0.trans st1, hr1, hl1, hfr1, hp1, hk1, hleft1⟩
    | goto l =>
      simp only [Option.some.injEq, Prod.mk.injEq] at h
      obtain ⟨rfl, rfl⟩ := h
      obtain ⟨k2, h1, h2⟩ := hleft1
      exact ⟨m1, w1, fr1, st0.trans st1, hr1, hl1, hfr1, hp1, hk1, k2, h1, h2.trans (by simp [gotoIn])⟩

theorem scope_ok (hev : EvOk P ev) {f : FuncId} {rd : Option Nat} {c : Code} {s s' : St} {ex : Ex} (h : stScope (ev f rd c s) = some (ex, s')) : CodeOk P f rd (.scope c) s ex s' := by
  intro m w fr cs k hr hl hfr htd
  unfold stScope at h
  cases he : ev f rd c s with
  | none => rw [he] at h; simp at h
  | some q =>
    obtain ⟨ex1, s1⟩ := q
    rw [he] at h
    obtain ⟨m1, w1, fr1, st1, hr1, hl1, hfr1, hp1, hk1, hleft1⟩ := hev _ _ _ _ _ _ he m w { fr with todo := .code c :: .inScope c :: k } cs (.inScope c :: k) hr hl (hfr.todo _) rfl
    have st0 := s_scope (P := P) (cs := cs) (w := w) hfr.mode htd
    cases ex1 with
    | nrm =>
      simp only [Option.some.injEq, Prod.mk.injEq] at h
      obtain ⟨rfl, rfl⟩ := h
      have htd1 : fr1.todo = .inScope c :: k := hleft1
      exact ⟨m1, w1, { fr1 with todo := k }, st0.trans (st1.trans (s_inScope hfr1.mode htd1)), hr1, hl1, hfr1.todo _, hp1, hk1, rfl⟩
    | exit id' =>
      simp only [Option.some.injEq, Prod.mk.injEq] at h
      obtain ⟨rfl, rfl⟩ := h
      obtain ⟨k2, h1, h2⟩ := hleft1
      exact ⟨m1, w1, fr1, st0.trans st1, hr1, hl1, hfr1, hp1, hk1, k2, h1, h2.trans (by simp [exitTo])⟩
    | ret =>
      simp only [Option.some.injEq, Prod.mk.injEq] at h
      obtain ⟨rfl, rfl⟩ := h
      exact ⟨m1, w1, fr1, st0.trans st1, hr1, hl1, hfr1, hp1, hk1, hleft1⟩
    | goto l => simp at h

/-- ranging over a function: entered -/
theorem range_ok (hev : EvOk P ev) (hN : NoOwn P) {f : FuncId} {rd : Option Nat} {g : Operand} {params : Array Tmp} {assign body : Code} {s s' : St} {ex : Ex} (h : stRange P ev f rd g params assign body s = some (ex, s')) :
    CodeOk P f rd (.rangeFunc g params assign body) s ex s' := by
  intro m w fr cs k hr hl hfr htd
  unfold stRange at h
  split at h
  · rename_i hog
    split at h
    · rename_i d W1 ds hent
      obtain ⟨og1, og2⟩ := opd_ok (⟨hfr.tr, hl, hr⟩ : Cx m s.t s.W fr.tmps w) hog
      -- the block for the deferred calls
      have hdef : ∃ (m1 : Nat → Loc) (w1 : World) (mark : List Deferred), Rel m1 W1 w1 ∧ Post m s.W w m1 W1 w1 ∧ d < W1.n ∧ (∀ e ∈ ds, e < W1.n) ∧ ds.map (markOf m1) = mark ++ fr.defers ∧
          (Instr.enterLoop fr.fn fr.tmps params assign body fr.roundOf).run P w = .ok (w1.heap.size, mark) { w1 with heap := w1.heap.push (.loop ⟨.ready, none, f, fr.tmps, params, assign, body, (m1 d).blk⟩) } := by
        unfold enterR at hent
        cases rd with
        | none =>
          simp only [Option.some.injEq, Prod.mk.injEq] at hent
          obtain ⟨rfl, rfl, rfl⟩ := hent
          obtain ⟨h1, h2⟩ := hr.push (o := .dfr false) (robj := .deferred (some [])) (l := ⟨w.heap.size, 0, 0⟩) rfl (by
            show (w.heap.push _)[w.heap.size]? = _
            simp) trivial
          refine ⟨_, _, [{ target := .collected w.heap.size, args := #[] }], h1, h2, by simp [RW.push], ?_, ?_, ?_⟩
          · intro e he
            rcases List.mem_cons.1 he with rfl | he
            · simp [RW.push]
            · have := hfr.dlt e he
              simp [RW.push]; omega
          · simp only [List.map_cons, List.singleton_append, hfr.ds]
            congr 1
            · simp [markOf, upd]
            · apply List.map_congr_left
              intro e he
              simp [markOf, upd, Nat.ne_of_lt (hfr.dlt e he)]
          · have hrn : fr.roundOf = none := hfr.rnd
            simp only [hrn, Instr.enterLoop]
            simp [upd, hfr.fn]
            rfl
        | some l =>
          simp only at hent
          split at hent
          · rename_i st pend f' t' ps' as' bd' d' hg
            simp only [Option.some.injEq, Prod.mk.injEq] at hent
            obtain ⟨rfl, rfl, rfl⟩ := hent
            obtain ⟨arr, ht, hh, _, hd⟩ := loopAt hr hg
            refine ⟨m, w, [], hr, Post.refl _ _ _, hd, hfr.dlt, by simp [hfr.ds], ?_⟩
            have hrn : fr.roundOf = some (m l).blk := hfr.rnd
            simp only [hrn, Instr.enterLoop]
            simp [run_getLoop' hh, hfr.fn]
          · simp at hent
      obtain ⟨m1, w1, mark, hr1, hp1, hd1, hds1, hmark, hrun1⟩ := hdef
      have hl1 : tlt W1.n s.t := fun i => below_mono hp1.mono _ (hl i)
      have ht1 : TR m1 s.t fr.tmps := hfr.tr.agree hl hp1.ag
      -- the loop's record
      obtain ⟨hr2, hp2⟩ := hr1.push (o := .loop .ready none f s.t params assign body d) (robj := .loop ⟨.ready, none, f, fr.tmps, params, assign, body, (m1 d).blk⟩) (l := ⟨w1.heap.size, 0, 0⟩) rfl (by
        refine ⟨fr.tmps, ht1.agree hl1 (agree_upd _ _ _), ?_⟩
        have : upd m1 W1.n ⟨w1.heap.size, 0, 0⟩ d = m1 d := by simp [upd, Nat.ne_of_lt hd1]
        rw [this]
        simp) ⟨fun i => below_mono (Nat.le_succ _) _ (hl1 i), by omega⟩
      split at h
      · rename_i r hcall
        obtain ⟨x, W2⟩ := r
        let m2 := upd m1 W1.n ⟨w1.heap.size, 0, 0⟩
        have hbf : below (W1.push (.loop .ready none f s.t params assign body d)).n (opd g s.t) = true := below_mono (Nat.le_trans hp1.mono (Nat.le_succ _)) _ og2
        obtain ⟨m3, w3, hcr, hr3, hp3, hx3⟩ := callV_ok hev hN hcall hr2 hbf (by simp [belowL, below, blt_eq, RW.push]) { fr with todo := .inRangeFunc w1.heap.size :: k, defers := mark ++ fr.defers } cs
        have hgv : rv m2 (opd g s.t) = evV fr.tmps g := by
          rw [rv_agree (n := s.W.n) (m := m) ?_ _ og2, og1]
          intro b hb
          have hb1 : b < W1.n := Nat.lt_of_lt_of_le hb hp1.mono
          show upd m1 W1.n _ b = m b
          simp only [upd, Nat.ne_of_lt hb1, if_false]
          exact hp1.ag b hb
        have hsem : callSem m2 (opd g s.t) [.yld W1.n] = (do
            let d ← resolve (evV fr.tmps) { callee := .value g, args := #[.const (.func (.yield w1.heap.size) #[] #[])], argTypes := #[] } 0
            invoke d.target d.args) := by
          unfold callSem
          rw [hgv]
          have : (List.map (rv m2) [RV.yld W1.n]).toArray = #[Value.func (.yield w1.heap.size) #[] #[]] := by simp [rv, m2, upd]
          rw [this]
          have hmap : (#[Operand.const (.func (.yield w1.heap.size) #[] #[])]).map (evV fr.tmps) = #[Value.func (.yield w1.heap.size) #[] #[]] := by simp [evV]
          simp only [resolve, hmap]
        have hent1 := hrun1
        have st1 : Steps P (lone fr cs w) (lone ({ fr with todo := .inRangeFunc w1.heap.size :: k, defers := mark ++ fr.defers }.finish (rv m3 x)) cs w3) := by
          have hexec : ∀ (nx : Next) (fr3 : Frame), (callSem m2 (opd g s.t) [.yld W1.n]).run P { w1 with heap := w1.heap.push (.loop ⟨.ready, none, f, fr.tmps, params, assign, body, (m1 d).blk⟩) } = .ok nx { w1 with heap := w1.heap.push (.loop ⟨.ready, none, f, fr.tmps, params, assign, body, (m1 d).blk⟩) } →
              ((∃ g' as, nx = .enter g' as ∧ fr3 = Frame.enter P g' as .normal) ∨ (∃ l f' tm a b, nx = .round l f' tm a b ∧ fr3 = Frame.round l f' tm a b .normal)) →
              Steps P (lone fr cs w) (lone fr3 ({ fr with todo := .inRangeFunc w1.heap.size :: k, defers := mark ++ fr.defers } :: cs) { w1 with heap := w1.heap.push (.loop ⟨.ready, none, f, fr.tmps, params, assign, body, (m1 d).blk⟩) }) := by
            intro nx fr3 hrunc hcase
            rw [hsem] at hrunc
            apply step_go
            rw [stepG_run hfr.mode]
            rcases hcase with ⟨g', as, rfl, rfl⟩ | ⟨l, f', tm, a, b, rfl, rfl⟩
            · simp [stepG.exec, htd, hent1, stepG.apply, eval_evV]
              simp at hrunc
              rw [hrunc]
              rfl
            · simp [stepG.exec, htd, hent1, stepG.apply, eval_evV]
              simp at hrunc
              rw [hrunc]
              rfl
          rcases hcr with ⟨g', as, hrunc, st⟩ | ⟨l, f', tm, a, b, hrunc, st⟩
          · exact (hexec _ _ hrunc (.inl ⟨g', as, rfl, rfl⟩)).trans st
          · exact (hexec _ _ hrunc (.inr ⟨l, f', tm, a, b, rfl, rfl⟩)).trans st
        -- the end
        have hm3 : m3 W1.n = ⟨w1.heap.size, 0, 0⟩ := by
          rw [hp3.ag W1.n (by simp [RW.push])]
          simp [upd]
        have hpost3 : Post m s.W w m3 W2 w3 := hp1.trans (hp2.trans hp3)
        have hW12 : W1.n ≤ W2.n := Nat.le_trans (by simp [RW.push]) hp3.mono
        have hag13 : ∀ b, b < W1.n → m3 b = m1 b := by
          intro b hb
          rw [hp3.ag b (by simp [RW.push]; omega)]
          simp [upd, Nat.ne_of_lt hb]
        have hfin : ({ fr with todo := .inRangeFunc w1.heap.size :: k, defers := mark ++ fr.defers } : Frame).finish (rv m3 x) = { fr with todo := .endRangeFunc w1.heap.size :: k, defers := mark ++ fr.defers } := rfl
        rw [hfin] at st1
        unfold leaveR at h
        split at h
        · rename_i st pend f' t' ps' as' bd' d' hg2
          split at h
          · simp at h
          · rename_i hbusy
            split at h
            · rename_i W3 hset
              obtain ⟨arr2, ht2, hh2, _, _⟩ := loopAt hr3 hg2
              obtain ⟨hr4, hp4⟩ := hr3.setLoop hg2 ht2 hh2 hset
              rw [hm3] at hh2 hr4 hp4
              have hendl : (Instr.endLoop w1.heap.size).run P w3 = .ok pend { w3 with heap := w3.heap.setIfInBounds w1.heap.size (.loop ⟨.exhausted, pend, f', arr2, ps', as', bd', (m3 d').blk⟩) } := by
                simp [Instr.endLoop, run_getLoop' hh2, run_setLoop hh2]
                exact fun e => absurd e hbusy
              have st2 : Steps P (lone { fr with todo := .endRangeFunc w1.heap.size :: k, defers := mark ++ fr.defers } cs w3)
                  (lone { fr with todo := (pend.map Item.code).toList ++ k, defers := mark ++ fr.defers } cs { w3 with heap := w3.heap.setIfInBounds w1.heap.size (.loop ⟨.exhausted, pend, f', arr2, ps', as', bd', (m3 d').blk⟩) }) := by
                apply step_go
                have hmode := hfr.mode
                simp [stepG, stepG.exec, hmode, hendl]
              have hn3 : W3.n = W2.n := (set_spec hset).1
              have hl4 : tlt W3.n s.t := fun i => by
                rw [hn3]
                exact below_mono hW12 _ (hl1 i)
              have hfr4 : FrOk m3 ⟨s.t, W3, ds⟩ { fr with todo := (pend.map Item.code).toList ++ k, defers := mark ++ fr.defers } f rd := by
                refine ⟨hfr.mode, hfr.fn, ?_, ht1.agree hl1 hag13, ?_, fun e he => ?_, fun l hl => ?_⟩
                · show fr.roundOf = _
                  rw [hfr.rnd]
                  cases rd with
                  | none => rfl
                  | some l => simp [hpost3.ag l (hfr.rlt l rfl)]
                · show mark ++ fr.defers = _
                  rw [← hmark]
                  apply List.map_congr_left
                  intro e he
                  simp [markOf, hag13 e (hds1 e he)]
                · have := hds1 e he
                  show e < W3.n
                  omega
                · have := hfr.rlt l hl
                  have := hp1.mono
                  show l < W3.n
                  omega
              cases pend with
              | none =>
                simp only [Option.some.injEq, Prod.mk.injEq] at h
                obtain ⟨rfl, rfl⟩ := h
                exact ⟨m3, _, _, st1.trans st2, hr4, hl4, hfr4, hpost3.trans hp4, rfl, rfl⟩
              | some c =>
                simp only at h
                obtain ⟨m5, w5, fr5, st5, hr5, hl5, hfr5, hp5, hk5, hleft5⟩ := hev _ _ _ _ _ _ h m3 _ { fr with todo := .code c :: k, defers := mark ++ fr.defers } cs k hr4 hl4 hfr4 rfl
                exact ⟨m5, w5, fr5, st1.trans (st2.trans st5), hr5, hl5, hfr5, hpost3.trans (hp4.trans hp5), hk5, hleft5⟩
            · simp at h
        · simp at h
      · simp at h
    · simp at h
  · simp at h

theorem refl_ok {f : FuncId} {rd : Option Nat} {c : Code} {s : St} {ex : Ex} (h : ∀ (_ : Nat → Loc) (w : World) (fr : Frame) (cs : List Frame) (k : List Item), fr.mode = .run → fr.todo = .code c :: k →
    ∃ todo, Steps P (lone fr cs w) (lone { fr with todo := todo } cs w) ∧ Left ex todo k) : CodeOk P f rd c s ex s := by
  intro m w fr cs k hr hl hfr htd
  obtain ⟨todo, st, hleft⟩ := h m w fr cs k hfr.mode htd
  exact ⟨m, w, _, st, hr, hl, hfr.todo _, Post.refl _ _ _, rfl, hleft⟩

omit [Env] in
theorem stay {fr : Frame} {cs : List Frame} {w : World} {todo : List Item} (ht : fr.todo = todo) : Steps P (lone fr cs w) (lone { fr with todo := todo } cs w) := by
  have : ({ fr with todo := todo } : Frame) = fr := by
    cases fr
    simp at ht
    subst ht
    rfl
  rw [this]
  exact Steps.refl _ _

theorem stepR_ok (hev : EvOk P ev) (hN : NoOwn P) (hD : DrawOk P) : EvOk P (stepR P ev) := by
  intro f rd c s ex s' h
  cases c with
  | skip =>
    simp only [stepR, Option.some.injEq, Prod.mk.injEq] at h
    obtain ⟨rfl, rfl⟩ := h
    exact refl_ok fun m w fr cs k hm ht => ⟨k, s_skip hm ht, rfl⟩
  | label l =>
    simp only [stepR, Option.some.injEq, Prod.mk.injEq] at h
    obtain ⟨rfl, rfl⟩ := h
    exact refl_ok fun m w fr cs k hm ht => ⟨k, s_label hm ht, rfl⟩
  | ret =>
    simp only [stepR, Option.some.injEq, Prod.mk.injEq] at h
    obtain ⟨rfl, rfl⟩ := h
    exact refl_ok fun m w fr cs k hm ht => ⟨_, stay ht, k, rfl⟩
  | exit id =>
    simp only [stepR, Option.some.injEq, Prod.mk.injEq] at h
    obtain ⟨rfl, rfl⟩ := h
    exact refl_ok fun m w fr cs k hm ht => ⟨_, stay ht, k, rfl, rfl⟩
  | goto l =>
    simp only [stepR, Option.some.injEq, Prod.mk.injEq] at h
    obtain ⟨rfl, rfl⟩ := h
    exact refl_ok fun m w fr cs k hm ht => ⟨_, stay ht, k, rfl, rfl⟩
  | seq a b => exact seqc_ok hev h
  | cond c a b =>
    simp only [stepR] at h
    split at h
    · exact cond_ok hev (by assumption) h
    · simp at h
  | block id c => exact block_ok hev h
  | loop c => exact loop_ok hev h
  | scope c => exact scope_ok hev h
  | region id ops draw => exact region_ok hev hN hD h
  | rangeFunc g params assign body => exact range_ok hev hN h
  | refuse why => simp [stepR] at h

theorem evR_ok (hN : NoOwn P) (hD : DrawOk P) (n : Nat) : EvOk P (evR P n) := by
  induction n with
  | zero =>
    intro f rd c s ex s' h
    exact absurd h (by simp [evR])
  | succ n ih => exact stepR_ok ih hN hD
end
end Go.Rv
