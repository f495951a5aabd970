/- The evaluator is sound, where regions that draw their order are. -/
import Derived.Test.YtgchcfhbcaemoabGreatDoorRvQ
namespace Go.Rv
open Go
variable [Env]
section
variable {P : Program}

/-- what has to be shown of a region that draws -/
def DrawOk (P : Program) : Prop := ∀ (ev : Ev), EvOk P ev → ∀ (ops : Array Oper) (r : RReg) (t t' : RT) (W W' : RW), decReg P ops true = some r → regR P ev r t W = some (t', W') →
  ∀ (m : Nat → Loc) (w : World) (fr : Frame) (cs : List Frame) (k : List Item) (tp : Nat), Rel m W w → tlt W.n t → TR m t fr.tmps → fr.mode = .run →
    fr.todo = .inRegion ops (Region.schedule (P.follows .mixedOrders) ops tp) :: k →
    ∃ m' w' tm, Steps P (lone fr cs w) (lone { fr with tmps := tm, todo := k } cs w') ∧ Rel m' W' w' ∧ Post m W w m' W' w' ∧ tlt W'.n t' ∧ TR m' t' tm

variable {ev : Ev}

omit [Env] in
theorem Post.drew {m m' : Nat → Loc} {W W' : RW} {w w' : World} {d : Nat} (h : Post m W { w with drawn := d } m' W' w') : Post m W w m' W' w' :=
  ⟨h.ag, h.mono, h.size, h.keep, h.own, h.os, h.tape, h.output⟩

omit [Env] in
theorem FrOk.next {m m' : Nat → Loc} {s : St} {fr : Frame} {f : FuncId} {rd : Option Nat} (h : FrOk m s fr f rd) {W W' : RW} {w w' : World} (hW : W = s.W) (hp : Post m W w m' W' w') {t' : RT} {tm : Array Value} (ht : TR m' t' tm) (k : List Item) :
    FrOk m' ⟨t', W', s.ds⟩ { fr with tmps := tm, todo := k } f rd := by
  subst hW
  refine ⟨h.mode, h.fn, ?_, ht, ?_, fun d hd => Nat.lt_of_lt_of_le (h.dlt d hd) hp.mono, fun l hl => Nat.lt_of_lt_of_le (h.rlt l hl) hp.mono⟩
  · show fr.roundOf = _
    rw [h.rnd]
    cases rd with
    | none => rfl
    | some l => simp [hp.ag l (h.rlt l rfl)]
  · show fr.defers = _
    rw [h.ds]
    apply List.map_congr_left
    intro d hd
    simp [markOf, hp.ag d (h.dlt d hd)]

theorem region_ok (hev : EvOk P ev) (hN : NoOwn P) (hD : DrawOk P) {f : FuncId} {rd : Option Nat} {id : Nat} {ops : Array Oper} {draw : Bool} {s s' : St} {ex : Ex}
    (h : stReg P ev s (decReg P ops draw) = some (ex, s')) : CodeOk P f rd (.region id ops draw) s ex s' := by
  intro m w fr cs k hr hl hfr htd
  obtain ⟨t0, W0, ds0⟩ := s
  unfold stReg at h
  simp only at h
  split at h
  · rename_i r hdec
    split at h
    · rename_i t' W' hq
      simp only [Option.some.injEq, Prod.mk.injEq] at h
      obtain ⟨rfl, rfl⟩ := h
      cases draw with
      | true =>
        obtain ⟨tp, st1⟩ := s_draw (P := P) (cs := cs) (w := w) hfr.mode htd
        obtain ⟨m', w', tm, st2, hr', hp', hl', ht'⟩ := hD ev hev ops r t0 t' W0 W' hdec hq m { w with drawn := w.drawn + 1 } { fr with todo := .inRegion ops (Region.schedule (P.follows .mixedOrders) ops tp) :: k } cs k tp (hr.same rfl) hl hfr.tr hfr.mode rfl
        exact ⟨m', w', _, st1.trans st2, hr', hl', hfr.next rfl hp' ht' k, hp'.drew, rfl, rfl⟩
      | false =>
        have hdec : decReg0 P ops false = some r := hdec
        unfold decReg0 at hdec
        split at hdec
        · rename_i l hl2
          simp only [Bool.false_eq_true, if_false, Option.some.injEq] at hdec
          subst hdec
          obtain ⟨hlen, hall⟩ := decRegs_ok hl2
          have st1 := s_region (P := P) (cs := cs) (w := w) hfr.mode htd
          obtain ⟨m', w', tm, st2, hr', hp', hl', ht'⟩ := seqR_ok hev hN l (List.range ops.size) t0 t' W0 W' hq (by simp [hlen]) (fun j i r hi hrr => by
            have hji : j = i := by
              have := (List.getElem?_eq_some_iff.1 hi).2
              simpa using this
            subst hji
            exact hall j r hrr) m w { fr with todo := .inRegion ops (List.range ops.size) :: k } cs k hr hl hfr.tr hfr.mode rfl
          exact ⟨m', w', _, st1.trans st2, hr', hl', hfr.next rfl hp' ht' k, hp', rfl, rfl⟩
        · simp at hdec
    · simp at h
  · simp at h

omit [Env] in
theorem FrOk.todo {m : Nat → Loc} {s : St} {fr : Frame} {f : FuncId} {rd : Option Nat} (h : FrOk m s fr f rd) (k : List Item) : FrOk m s { fr with todo := k } f rd :=
  ⟨h.mode, h.fn, h.rnd, h.tr, h.ds, h.dlt, h.rlt⟩

omit [Env] in
/-- a way out passes what is not its own -/
theorem Left.pass {ex : Ex} {todo : List Item} {x : Item} {k : List Item} (h : Left ex todo (x :: k)) (hx : (∀ id, x ≠ .inBlock id) ∧ (∀ c, x ≠ .inScope c)) (hn : ex ≠ .nrm) : Left ex todo k := by
  cases ex with
  | nrm => exact absurd rfl hn
  | exit id =>
    obtain ⟨k2, h1, h2⟩ := h
    refine ⟨k2, h1, h2.trans ?_⟩
    cases x <;> simp_all [exitTo]
  | ret => exact h
  | goto l =>
    obtain ⟨k2, h1, h2⟩ := h
    refine ⟨k2, h1, h2.trans ?_⟩
    cases x <;> simp_all [gotoIn]

theorem CodeOk.start {f : FuncId} {rd : Option Nat} {c c2 : Code} {s s' : St} {ex : Ex} (h : CodeOk P f rd c s ex s') (hs : ∀ (fr : Frame) (cs : List Frame) (w : World) (k : List Item), fr.mode = .run → fr.todo = .code c2 :: k → Steps P (lone fr cs w) (lone { fr with todo := .code c :: k } cs w)) :
    CodeOk P f rd c2 s ex s' := by
  intro m w fr cs k hr hl hfr htd
  obtain ⟨m', w', fr2, st, h1, h2, h3, h4, h5, h6⟩ := h m w { fr with todo := .code c :: k } cs k hr hl (hfr.todo _) rfl
  exact ⟨m', w', fr2, (hs fr cs w k hfr.mode htd).trans st, h1, h2, h3, h4, h5, h6⟩

theorem seq_ok (hev : EvOk P ev) {f : FuncId} {rd : Option Nat} {a b : Code} {s s' : St} {ex : Ex} (c : Code) (x : Item) (hx : (∀ id, x ≠ .inBlock id) ∧ (∀ c, x ≠ .inScope c))
    (hs : ∀ (fr : Frame) (cs : List Frame) (w : World) (k : List Item), fr.mode = .run → fr.todo = .code c :: k → Steps P (lone fr cs w) (lone { fr with todo := .code a :: x :: k } cs w))
    (hx2 : ∀ (fr : Frame) (cs : List Frame) (w : World) (k : List Item), fr.mode = .run → fr.todo = x :: k → ∃ k2, Steps P (lone fr cs w) (lone { fr with todo := k2 } cs w) ∧
      (∀ (m : Nat → Loc) (s1 : St), FrOk m s1 fr f rd → ev f rd b s1 = some (ex, s') → Rel m s1.W w → tlt s1.W.n s1.t →
        ∃ m' w' fr2, Steps P (lone { fr with todo := k2 } cs w) (lone fr2 cs w') ∧ Rel m' s'.W w' ∧ tlt s'.W.n s'.t ∧ FrOk m' s' fr2 f rd ∧ Post m s1.W w m' s'.W w' ∧ fr2.kind = fr.kind ∧ Left ex fr2.todo k))
    (h : stSeq ev f rd b (ev f rd a s) = some (ex, s')) : CodeOk P f rd c s ex s' := by
  intro m w fr cs k hr hl hfr htd
  unfold stSeq at h
  cases he : ev f rd a s with
  | none => rw [he] at h; simp at h
  | some q =>
    obtain ⟨ex1, s1⟩ := q
    rw [he] at h
    obtain ⟨m1, w1, fr1, st1, hr1, hl1, hfr1, hp1, hk1, hleft1⟩ := hev _ _ _ _ _ _ he m w { fr with todo := .code a :: x :: k } cs (x :: k) hr hl (hfr.todo _) rfl
    have st0 := hs fr cs w k hfr.mode htd
    cases ex1 with
    | nrm =>
      have htd1 : fr1.todo = x :: k := hleft1
      obtain ⟨k2, st2, hrest⟩ := hx2 fr1 cs w1 k hfr1.mode htd1
      obtain ⟨m2, w2, fr2, st3, hr2, hl2, hfr2, hp2, hk2, hleft2⟩ := hrest m1 s1 hfr1 h hr1 hl1
      exact ⟨m2, w2, fr2, st0.trans (st1.trans (st2.trans st3)), hr2, hl2, hfr2, hp1.trans hp2, hk2.trans hk1, hleft2⟩
    | exit id =>
      simp only [Option.some.injEq, Prod.mk.injEq] at h
      obtain ⟨rfl, rfl⟩ := h
      exact ⟨m1, w1, fr1, st0.trans st1, hr1, hl1, hfr1, hp1, hk1, hleft1.pass hx (by simp)⟩
    | ret =>
      simp only [Option.some.injEq, Prod.mk.injEq] at h
      obtain ⟨rfl, rfl⟩ := h
      exact ⟨m1, w1, fr1, st0.trans st1, hr1, hl1, hfr1, hp1, hk1, hleft1.pass hx (by simp)⟩
    | goto l =>
      simp only [Option.some.injEq, Prod.mk.injEq] at h
      obtain ⟨rfl, rfl⟩ := h
      exact ⟨m1, w1, fr1, st0.trans st1, hr1, hl1, hfr1, hp1, hk1, hleft1.pass hx (by simp)⟩
end
end Go.Rv
