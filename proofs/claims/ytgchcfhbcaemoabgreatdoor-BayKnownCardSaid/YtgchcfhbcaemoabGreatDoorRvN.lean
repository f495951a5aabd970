/- The machine's steps: one operation, a call, a round. -/
import Derived.Test.YtgchcfhbcaemoabGreatDoorRvM
namespace Go.Rv
open Go
variable [Env]

omit [Env] in
/-- the machine's frame, whatever its parts -/
theorem eval_evV (fr : Frame) : fr.eval = evV fr.tmps := by
  funext x
  cases x <;> rfl

section
variable {P : Program}

/-- the frame with other temporaries and things to do -/
def fr' (fr : Frame) (tmps : Array Value) (todo : List Item) : Frame := { fr with tmps := tmps, todo := todo }

omit [Env] in
theorem step_go {fr fr2 : Frame} {cs cs2 : List Frame} {w w2 : World}
    (h : (stepG P true { frame := fr, callers := cs, status := .running, dying := none } w).bare = .go { frame := fr2, callers := cs2, status := .running, dying := none } w2) :
    Steps P (lone fr cs w) (lone fr2 cs2 w2) := .one (step_lone_go h)

omit [Env] in
/-- a running frame -/
theorem stepG_run {fr : Frame} {cs : List Frame} {w : World} (hm : fr.mode = .run) :
    stepG P true { frame := fr, callers := cs, status := .running, dying := none } w = stepG.exec P true true fr cs none w := by
  simp [stepG, hm]

omit [Env] in
theorem exec_apply {fr : Frame} {cs : List Frame} {w : World} {ops : Array Oper} {i : Nat} {rest : List Nat} {k : List Item} {o : Oper}
    (ht : fr.todo = .inRegion ops (i :: rest) :: k) (ho : ops[i]? = some o) (hw : Region.wanted o (yielded ops fr.tmps) = true) (hd : ∀ c, o.op ≠ .defer c) :
    stepG.exec P true true fr cs none w = stepG.apply P true fr cs none (execOp (evV fr.tmps) o) w := by
  have hoper : fr.oper? = some o := by simp [Frame.oper?, ht, ho]
  have h1 : stepG.exec P true true fr cs none w = stepG.oper P true fr cs none w := by
    simp [stepG.exec, ht, ho, hw]
  rw [h1]
  unfold stepG.oper
  rw [hoper]
  simp only []
  split
  · rename_i l c hl hc
    exact absurd hc (hd c)
  · rw [eval_evV]

omit [Env] in
/-- an operation of a region that gives a value, or none -/
theorem step_op {fr : Frame} {cs : List Frame} {w w2 : World} {ops : Array Oper} {i : Nat} {rest : List Nat} {k : List Item} {o : Oper} {v : Value} {nx : Next}
    (hm : fr.mode = .run) (ht : fr.todo = .inRegion ops (i :: rest) :: k) (ho : ops[i]? = some o) (hw : Region.wanted o (yielded ops fr.tmps) = true) (hd : ∀ c, o.op ≠ .defer c)
    (hr : (execOp (evV fr.tmps) o).run P w = .ok nx w2) (hn : Done v nx) :
    Steps P (lone fr cs w) (lone (fr.finish v) cs w2) := by
  apply step_go
  rw [stepG_run hm]
  rw [exec_apply ht ho hw hd]
  rcases hn with rfl | ⟨rfl, rfl⟩
  · simp [stepG.apply, hr]
  · simp [stepG.apply, hr]

omit [Env] in
theorem step_op_skip' {fr : Frame} {cs : List Frame} {w : World} {ops : Array Oper} {i : Nat} {rest : List Nat} {k : List Item} {o : Oper}
    (hm : fr.mode = .run) (ht : fr.todo = .inRegion ops (i :: rest) :: k) (ho : ops[i]? = some o) (hw : Region.wanted o (yielded ops fr.tmps) = false) :
    Steps P (lone fr cs w) (lone (fr.finish undef) cs w) := by
  apply step_go
  rw [stepG_run hm]
  simp [stepG.exec, ht, ho, hw]

omit [Env] in
/-- an operation that calls a function -/
theorem step_enter {fr : Frame} {cs : List Frame} {w w2 : World} {ops : Array Oper} {i : Nat} {rest : List Nat} {k : List Item} {o : Oper} {f : FuncId} {args : Array Value}
    (hm : fr.mode = .run) (ht : fr.todo = .inRegion ops (i :: rest) :: k) (ho : ops[i]? = some o) (hw : Region.wanted o (yielded ops fr.tmps) = true) (hd : ∀ c, o.op ≠ .defer c)
    (hr : (execOp (evV fr.tmps) o).run P w = .ok (.enter f args) w2) :
    Steps P (lone fr cs w) (lone (Frame.enter P f args .normal) (fr :: cs) w2) := by
  apply step_go
  rw [stepG_run hm]
  rw [exec_apply ht ho hw hd]
  simp [stepG.apply, hr, ht]

omit [Env] in
theorem step_round {fr : Frame} {cs : List Frame} {w w2 : World} {ops : Array Oper} {i : Nat} {rest : List Nat} {k : List Item} {o : Oper} {l : Nat} {f : FuncId} {tmps : Array Value} {assign body : Code}
    (hm : fr.mode = .run) (ht : fr.todo = .inRegion ops (i :: rest) :: k) (ho : ops[i]? = some o) (hw : Region.wanted o (yielded ops fr.tmps) = true) (hd : ∀ c, o.op ≠ .defer c)
    (hr : (execOp (evV fr.tmps) o).run P w = .ok (.round l f tmps assign body) w2) :
    Steps P (lone fr cs w) (lone (Frame.round l f tmps assign body .normal) (fr :: cs) w2) := by
  apply step_go
  rw [stepG_run hm]
  rw [exec_apply ht ho hw hd]
  simp [stepG.apply, hr]

/-! control -/
section
variable {fr : Frame} {cs : List Frame} {w : World} {k : List Item}

omit [Env] in
theorem step_todo {fr : Frame} {cs : List Frame} {w : World} {todo : List Item} (hm : fr.mode = .run) (h : (stepG.exec P true true fr cs none w).bare = .go { frame := { fr with todo := todo }, callers := cs, status := .running, dying := none } w) :
    Steps P (lone fr cs w) (lone { fr with todo := todo } cs w) := by
  apply step_go
  rw [stepG_run hm]
  exact h

omit [Env] in
theorem s_skip (hm : fr.mode = .run) (ht : fr.todo = .code .skip :: k) : Steps P (lone fr cs w) (lone { fr with todo := k } cs w) := step_todo hm (by simp [stepG.exec, ht])
omit [Env] in
theorem s_label {l : Nat} (hm : fr.mode = .run) (ht : fr.todo = .code (.label l) :: k) : Steps P (lone fr cs w) (lone { fr with todo := k } cs w) := step_todo hm (by simp [stepG.exec, ht])
omit [Env] in
theorem s_inBlock {id : Nat} (hm : fr.mode = .run) (ht : fr.todo = .inBlock id :: k) : Steps P (lone fr cs w) (lone { fr with todo := k } cs w) := step_todo hm (by simp [stepG.exec, ht])
omit [Env] in
theorem s_inScope {c : Code} (hm : fr.mode = .run) (ht : fr.todo = .inScope c :: k) : Steps P (lone fr cs w) (lone { fr with todo := k } cs w) := step_todo hm (by simp [stepG.exec, ht])
omit [Env] in
theorem s_seq {a b : Code} (hm : fr.mode = .run) (ht : fr.todo = .code (.seq a b) :: k) : Steps P (lone fr cs w) (lone { fr with todo := .code a :: .code b :: k } cs w) := step_todo hm (by simp [stepG.exec, ht])
omit [Env] in
theorem s_cond {c : Operand} {a b : Code} {t : Bool} (hm : fr.mode = .run) (ht : fr.todo = .code (.cond c a b) :: k) (he : evV fr.tmps c = .bool t) :
    Steps P (lone fr cs w) (lone { fr with todo := .code (if t then a else b) :: k } cs w) := step_todo hm (by simp [stepG.exec, ht, eval_evV, he])
omit [Env] in
theorem s_block {id : Nat} {c : Code} (hm : fr.mode = .run) (ht : fr.todo = .code (.block id c) :: k) : Steps P (lone fr cs w) (lone { fr with todo := .code c :: .inBlock id :: k } cs w) := step_todo hm (by simp [stepG.exec, ht])
omit [Env] in
theorem s_loop {c : Code} (hm : fr.mode = .run) (ht : fr.todo = .code (.loop c) :: k) : Steps P (lone fr cs w) (lone { fr with todo := .code c :: .inLoop c :: k } cs w) := step_todo hm (by simp [stepG.exec, ht])
omit [Env] in
theorem s_inLoop {c : Code} (hm : fr.mode = .run) (ht : fr.todo = .inLoop c :: k) : Steps P (lone fr cs w) (lone { fr with todo := .code c :: .inLoop c :: k } cs w) := step_todo hm (by simp [stepG.exec, ht])
omit [Env] in
theorem s_scope {c : Code} (hm : fr.mode = .run) (ht : fr.todo = .code (.scope c) :: k) : Steps P (lone fr cs w) (lone { fr with todo := .code c :: .inScope c :: k } cs w) := step_todo hm (by simp [stepG.exec, ht])
omit [Env] in
theorem s_exit {id : Nat} {k' : List Item} (hm : fr.mode = .run) (ht : fr.todo = .code (.exit id) :: k) (he : exitTo id k = some k') : Steps P (lone fr cs w) (lone { fr with todo := k' } cs w) := step_todo hm (by simp [stepG.exec, ht, he])
omit [Env] in
theorem s_region {id : Nat} {ops : Array Oper} (hm : fr.mode = .run) (ht : fr.todo = .code (.region id ops false) :: k) : Steps P (lone fr cs w) (lone { fr with todo := .inRegion ops (List.range ops.size) :: k } cs w) := step_todo hm (by simp [stepG.exec, ht])
omit [Env] in
theorem s_regionEnd {ops : Array Oper} (hm : fr.mode = .run) (ht : fr.todo = .inRegion ops [] :: k) : Steps P (lone fr cs w) (lone { fr with todo := k } cs w) := step_todo hm (by simp [stepG.exec, ht])

omit [Env] in
theorem s_draw {id : Nat} {ops : Array Oper} (hm : fr.mode = .run) (ht : fr.todo = .code (.region id ops true) :: k) :
    ∃ t, Steps P (lone fr cs w) (lone { fr with todo := .inRegion ops (Region.schedule (P.follows .mixedOrders) ops t) :: k } cs { w with drawn := w.drawn + 1 }) := by
  refine ⟨w.tape w.drawn (.order fr.fn id), ?_⟩
  apply step_go
  rw [stepG_run hm]
  simp [stepG.exec, ht, choose, Sem.run, Question.forced, Question.cut]

omit [Env] in
/-- the way out of a function -/
theorem s_return (hm : fr.mode = .run) (ht : fr.todo = [] ∨ ∃ k, fr.todo = .code .ret :: k) (hr : fr.roundOf = none) : Steps P (lone fr cs w) (lone { fr with mode := .returning } cs w) := by
  apply step_go
  rw [stepG_run hm]
  rcases ht with ht | ⟨k, ht⟩
  · simp [stepG.exec, ht, hr]
  · simp [stepG.exec, ht, hr]
end
end
end Go.Rv
