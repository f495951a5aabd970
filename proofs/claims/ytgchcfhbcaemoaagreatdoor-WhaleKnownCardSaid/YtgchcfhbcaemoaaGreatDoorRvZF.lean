/- Runs over maps: all orders at once. -/
import Derived.Test.YtgchcfhbcaemoaaGreatDoorRvZE
namespace Go.Rv
open Go
noncomputable section
abbrev Outs := List (Ex × St)

/-- what is left of a map that is ranged over: its iterator's name, the map's, the clock, what was seen, the entries -/
def leftM (W : RW) (x : RV) : Option (Nat × Nat × Nat × List Nat × List (RV × RV × Nat)) := match x with
  | .it r => match W.get r with
    | some (.miter b since seen stepped) => match mapAt W (.mp b) with
      | some (_, es, clock, _) =>
        if clock = since ∧ stepped = since ∧ (seen.isEmpty || es.isEmpty || !(es.all fun e => Nat.ble stepped e.2.2)) = true ∧ (es.all fun e => Nat.blt e.2.2 since) = true then
          some (r, b, since, seen, es.filter fun e => !seen.contains e.2.2)
        else none
      | none => none
    | _ => none
  | _ => none

section
variable [Env] (P : Program) (ev : Ev)

/-- one of the entries comes -/
def nextE (put : Put) (rs : List ROper) (s : St) (r b since : Nat) (seen : List Nat) (e : RV × RV × Nat) : Option (Ex × St) :=
  match s.W.set r (.miter b since (seen ++ [e.2.2]) since) with
  | some W1 => match put s.t (.tup [.v (.bool true), e.1, e.2.1]) with
    | some t1 => match seqR P ev rs t1 W1 with
      | some (t', W') => some (.nrm, ⟨t', W', s.ds⟩)
      | none => none
    | none => none
  | none => none

def nextN (ops : Array Oper) (s : St) : Option Outs := match omap (decOper P ops) ops.toList with
  | some (r0 :: rs) => match ops.toList with
    | o :: _ => match o.guard with
      | none => match o.op with
        | .next it false => if okO it then match leftM s.W (opd it s.t) with
            | some (r, b, since, seen, e :: l) => omap (nextE P ev r0.put rs s r b since seen) (e :: l)
            | _ => none
          else none
        | _ => none
      | some _ => none
    | [] => none
  | _ => none

def seqN (en : Code → St → Option Outs) (b : Code) : Outs → Option Outs
  | [] => some []
  | (e, s) :: r => match e with
    | .nrm => match en b s with
      | some x => match seqN en b r with
        | some y => some (x ++ y)
        | none => none
      | none => none
    | e => match seqN en b r with
      | some y => some ((e, s) :: y)
      | none => none

def blockEnd (id : Nat) (q : Ex × St) : Ex × St := match q.1 with
  | .exit id' => if Nat.beq id' id then (.nrm, q.2) else q
  | _ => q

def blockN (id : Nat) (l : Outs) : Outs := l.map (blockEnd id)

def stepN (en : Code → St → Option Outs) (c : Code) (s : St) : Option Outs := match c with
  | .skip => some [(.nrm, s)]
  | .label _ => some [(.nrm, s)]
  | .ret => some [(.ret, s)]
  | .exit id => some [(.exit id, s)]
  | .seq a b => match en a s with
    | some l => seqN en b l
    | none => none
  | .cond c a b => if okO c then match opd c s.t with
      | .v (.bool t) => match t with
        | true => en a s
        | false => en b s
      | _ => none
    else none
  | .block id c => match en c s with
    | some l => some (blockN id l)
    | none => none
  | .loop c => match en c s with
    | some l => seqN en (.loop c) l
    | none => none
  | .scope c => match en c s with
    | some l => if l.all (fun q => match q.1 with
        | .goto _ => false
        | _ => true) then some l else none
    | none => none
  | .region _ ops draw => match stReg P ev s (decReg P ops draw) with
    | some q => some [q]
    | none => match draw with
      | true => none
      | false => nextN P ev ops s
  | _ => none

def evN (n : Nat) : Code → St → Option Outs := Nat.rec (motive := fun _ => Code → St → Option Outs) (fun _ _ => none) (fun _ ih => stepN P ev ih) n

/-- a plain truth at each end -/
def allN (fn : Func) (x : Bool) (l : Outs) : Bool := l.all fun q => match finF P fn (some q) with
  | some (.v (.bool y), _) => x == y
  | _ => false

/-- a function over one map, in all orders -/
def mapN (n : Nat) (g : FuncId) (es : List (RV × RV × Nat)) (clock : Nat) (x : Bool) : Bool := match P.funcs[g]? with
  | some fn => match fn.body with
    | some c => fnat (max 1 fn.ntmps) fun k => match evN P ev n c ⟨RT.of [.mp 0] k, ⟨1, [.map es clock true]⟩, []⟩ with
      | some l => allN P fn x l
      | none => false
    | none => false
  | none => false
end
end

section
theorem omap_mem {α β : Type} {f : α → Option β} {l : List α} {r : List β} (h : omap f l = some r) (e : α) (he : e ∈ l) : ∃ q ∈ r, f e = some q := by
  obtain ⟨j, hj, rfl⟩ := List.mem_iff_getElem.1 he
  obtain ⟨y, h1, h2⟩ := omap_get h j l[j] (by simp [hj])
  exact ⟨y, List.mem_of_getElem? h1, h2⟩
variable [Env] {P : Program} {ev : Ev}

/-- what a piece of code does: one of these -/
def CodeN (P : Program) (f : FuncId) (rd : Option Nat) (c : Code) (s : St) (outs : Outs) : Prop :=
  ∀ (m : Nat → Loc) (w : World) (fr : Frame) (cs : List Frame) (k : List Item), Rel m s.W w → tlt s.W.n s.t → FrOk m s fr f rd → fr.todo = .code c :: k →
    ∃ q ∈ outs, ∃ m' w' fr2, Steps P (lone fr cs w) (lone fr2 cs w') ∧ Rel m' q.2.W w' ∧ tlt q.2.W.n q.2.t ∧ FrOk m' q.2 fr2 f rd ∧ Post m s.W w m' q.2.W w' ∧ fr2.kind = fr.kind ∧ Left q.1 fr2.todo k

theorem CodeOk.toN {f : FuncId} {rd : Option Nat} {c : Code} {s s' : St} {ex : Ex} (h : CodeOk P f rd c s ex s') : CodeN P f rd c s [(ex, s')] := by
  intro m w fr cs k hr hl hfr htd
  obtain ⟨m', w', fr2, h1⟩ := h m w fr cs k hr hl hfr htd
  exact ⟨(ex, s'), by simp, m', w', fr2, h1⟩

/-- the next entry is one of those that are left -/
theorem next_any {m : Nat → Loc} {W : RW} {w : World} {ty : TypeId} {x : RV} {r b since : Nat} {seen : List Nat} {l : List (RV × RV × Nat)} (hr : Rel m W w) (h : leftM W x = some (r, b, since, seen, l)) (hne : l ≠ []) :
    ∃ e ∈ l, below W.n e.1 = true ∧ below W.n e.2.1 = true ∧ ∃ w1, (Instr.next (rv m x) false ty).run P w = .ok (.tuple #[.bool true, rv m e.1, rv m e.2.1]) w1 ∧
      ∀ W1, W.set r (.miter b since (seen ++ [e.2.2]) since) = some W1 → Rel m W1 w1 ∧ Post m W w m W1 w1 := by
  unfold leftM at h
  split at h
  · rename_i r0
    split at h
    · rename_i b0 since0 seen0 stepped hb
      split at h
      · rename_i b' es clock ro hm
        obtain ⟨hbb, hmb⟩ := mapAt_spec hm
        cases hbb
        split at h
        · rename_i hc
          obtain ⟨hc1, hc2, hc3, hc4⟩ := hc
          subst hc1
          subst hc2
          simp only [Option.some.injEq, Prod.mk.injEq] at h
          obtain ⟨rfl, rfl, rfl, rfl, hl⟩ := h
          have hi : w.heap[(m r0).blk]? = some (.mapIter (some (m b0).blk) stepped seen0.toArray stepped) := hr.obj r0 _ hb
          have ho : w.heap[(m b0).blk]? = some (.map (es.map (entryOf m)).toArray stepped) := hr.obj b0 _ hmb
          have hlt : ∀ x ∈ es, below W.n x.1 = true ∧ below W.n x.2.1 = true := hr.lt b0 _ hmb
          have hblt : b0 < W.n := get_lt hmb
          have hguard : (!seen0.toArray.isEmpty && !(es.map (entryOf m)).toArray.isEmpty && (es.map (entryOf m)).toArray.all (fun x => decide (x.born ≥ stepped))) = false := by
            have e1 : (es.map (entryOf m)).toArray.all (fun x => decide (x.born ≥ stepped)) = es.all fun e => Nat.ble stepped e.2.2 := by
              rw [← Array.all_toList, List.all_map]
              apply List.all_congr rfl
              intro x
              show decide (x.2.2 ≥ stepped) = Nat.ble stepped x.2.2
              rw [Bool.eq_iff_iff, decide_eq_true_eq, Nat.ble_eq]
            rw [e1]
            cases h1 : seen0.isEmpty <;> cases h2 : es.isEmpty <;> cases h3 : (es.all fun e => Nat.ble stepped e.2.2) <;> simp_all
          have hleft := filter_entries m es (fun e => !seen0.toArray.contains e.born) (fun e => !seen0.contains e.2.2) (fun x => by simp [entryOf])
          have hborn : ∀ e ∈ l, e.2.2 < stepped := by
            intro e he
            rw [← hl] at he
            have := List.all_eq_true.1 hc4 e (List.mem_filter.1 he).1
            simpa [blt_eq] using this
          have hmem : ∀ e ∈ l, e ∈ es := fun e he => by
            rw [← hl] at he
            exact (List.mem_filter.1 he).1
          rw [hl] at hleft
          have e1 : (l.map (entryOf m)).toArray.filter (fun x => decide (x.born < stepped)) = (l.map (entryOf m)).toArray := by
            rw [Array.filter_eq_self]
            intro x hx
            simp only [List.mem_toArray, List.mem_map] at hx
            obtain ⟨e, he, rfl⟩ := hx
            have := hborn e he
            simp [entryOf, this]
          have e2 : (l.map (entryOf m)).toArray.filter (fun x => decide (x.born ≥ stepped)) = #[] := by
            rw [Array.filter_eq_empty_iff]
            intro x hx
            simp only [List.mem_toArray, List.mem_map] at hx
            obtain ⟨e, he, rfl⟩ := hx
            have := hborn e he
            simp [entryOf]
            omega
          have hpos : 0 < l.length := List.length_pos_iff.2 hne
          have hch : ∃ (j : Nat) (d : Nat), j < l.length ∧ (choose (Question.mapNext l.length)).run P w = .ok j { w with drawn := d } := by
            by_cases hf : l.length ≤ 1
            · exact ⟨0, w.drawn, by omega, by simp [choose, Sem.run, Question.forced, hf]⟩
            · exact ⟨_, w.drawn + 1, Nat.mod_lt _ hpos, by
                simp only [choose, Sem.run, Question.forced, decide_eq_true_eq, hf, if_false, Question.cut]
                rfl⟩
          obtain ⟨j, d, hj, hrun⟩ := hch
          have hrd : Rel m W { w with drawn := d } := hr.same rfl
          have hpd : Post m W w m W { w with drawn := d } := ⟨fun _ _ => rfl, Nat.le_refl _, Nat.le_refl _, fun _ _ _ => rfl, fun b o h1 h2 => .inr ⟨b, o, h1, h2, rfl⟩, rfl, rfl, rfl⟩
          refine ⟨l[j], List.getElem_mem hj, (hlt _ (hmem _ (List.getElem_mem hj))).1, (hlt _ (hmem _ (List.getElem_mem hj))).2, { w with drawn := d, heap := w.heap.setIfInBounds (m r0).blk (.mapIter (some (m b0).blk) stepped (seen0 ++ [l[j].2.2]).toArray stepped) }, ?_, ?_⟩
          · unfold Instr.next
            simp only [rv, Sem.run_bind, run_getIter hi, Result.andThen_ok, run_getMap ho]
            rw [hguard]
            simp only [Bool.false_eq_true, if_false, hleft, e1, e2, Array.append_empty]
            have hne2 : (l.map (entryOf m)).toArray.isEmpty = false := by
              cases l with
              | nil => exact absurd rfl hne
              | cons a r => rfl
            simp only [hne2, Bool.false_eq_true, if_false, Array.empty_append, Array.size_map, List.size_toArray, List.length_map]
            simp only [Sem.run_bind, hrun, Result.andThen_ok]
            have hget : ((l.map (entryOf m)).toArray.map some)[j]? = some (some (entryOf m l[j])) := by
              simp [hj]
            rw [hget]
            have hi2 : ({ w with drawn := d } : World).heap[(m r0).blk]? = some (.mapIter (some (m b0).blk) stepped seen0.toArray stepped) := hi
            simp [entryOf, run_setIter hi2]
          · intro W1 hset
            obtain ⟨hrel, hpost⟩ := hrd.setObj (o' := .miter b0 stepped (seen0 ++ [l[j].2.2]) stepped) (x := .mapIter (some (m b0).blk) stepped (seen0 ++ [l[j].2.2]).toArray stepped) hb rfl hset hblt (Array.getElem?_eq_some_iff.1 hi).1 (fun heap hh => hh)
            exact ⟨hrel, hpd.trans hpost⟩
        · simp at h
      · simp at h
    · simp at h
  · simp at h

theorem nextN_ok (hev : EvOk P ev) (hN : NoOwn P) {f : FuncId} {rd : Option Nat} {id : Nat} {ops : Array Oper} {s : St} {outs : Outs} (h : nextN P ev ops s = some outs) : CodeN P f rd (.region id ops false) s outs := by
  intro m w fr cs k hr hl hfr htd
  unfold nextN at h
  split at h
  · rename_i r0 rs hdec
    split at h
    · rename_i o os hops
      split at h
      · rename_i hgd
        split at h
        · rename_i it hop
          split at h
          · rename_i hok
            split at h
            · rename_i r b since seen e0 l0 hleft
              obtain ⟨hlen, hall⟩ := decRegs_ok hdec
              have hsz : ops.size = os.length + 1 := by
                have := congrArg List.length hops
                simpa using this
              have h0 : ops[0]? = some o := by
                have := congrArg (·[0]?) hops
                simpa using this
              obtain ⟨o', ho', hoo⟩ := hall 0 r0 rfl
              rw [h0] at ho'
              simp only [Option.some.injEq] at ho'
              subst ho'
              obtain ⟨og1, og2⟩ := opd_ok (⟨hfr.tr, hl, hr⟩ : Cx m s.t s.W fr.tmps w) hok
              obtain ⟨e, he, hb1, hb2, w1, hrun, hW1⟩ := next_any (P := P) (ty := o.type) hr hleft (by simp)
              have hq := omap_mem h e he
              obtain ⟨q, hq1, hq2⟩ := hq
              unfold nextE at hq2
              split at hq2
              · rename_i W1 hset
                obtain ⟨hr1, hp1⟩ := hW1 W1 hset
                split at hq2
                · rename_i t1 hput
                  split at hq2
                  · rename_i t' W' hseq
                    simp only [Option.some.injEq] at hq2
                    subst hq2
                    have st0 := s_region (P := P) (cs := cs) (w := w) hfr.mode htd
                    have hrange : List.range ops.size = 0 :: (List.range os.length).map (· + 1) := by
                      rw [hsz, List.range_succ_eq_map]
                    rw [hrange] at st0
                    have hwant : Region.wanted o (yielded ops fr.tmps) = true := by simp [Region.wanted, hgd]
                    have hexec : (execOp (evV fr.tmps) o).run P w = .ok (.value (rv m (.tup [.v (.bool true), e.1, e.2.1]))) w1 := by
                      have h1 : execOp (evV fr.tmps) o = sv (Instr.next (evV fr.tmps it) false o.type) := by
                        simp [execOp, hop, sv]
                      rw [h1, ← og1]
                      refine run_sv ?_
                      rw [hrun]
                      simp [rv, rvL]
                    have st1 := step_op (P := P) (cs := cs) (fr := { fr with todo := .inRegion ops (0 :: (List.range os.length).map (· + 1)) :: k }) hfr.mode rfl h0 hwant (noDefer hoo.op) hexec (.inl rfl)
                    rw [finish_region (rest := (List.range os.length).map (· + 1)) (k := k) rfl h0] at st1
                    have hl1 : tlt W1.n s.t := fun i => below_mono hp1.mono _ (hl i)
                    have hbx : below W1.n (.tup [.v (.bool true), e.1, e.2.1]) = true := by
                      have g1 := below_mono hp1.mono _ hb1
                      have g2 := below_mono hp1.mono _ hb2
                      simp [below, belowL, g1, g2]
                    obtain ⟨ht1, hl2⟩ := put_TR hoo.put hput (hfr.tr.agree hl hp1.ag) hl1 hbx
                    obtain ⟨m2, w2, tm2, st2, hr2, hp2, hl3, ht3⟩ := seqR_ok hev hN (ops := ops) rs ((List.range os.length).map (· + 1)) t1 t' W1 W' hseq (by
                      have : (r0 :: rs).length = ops.size := hlen
                      simp only [List.length_cons] at this
                      simp only [List.length_map, List.length_range]
                      omega) (fun j i rr hi hrr => by
                      have hji : i = j + 1 := by
                        obtain ⟨_, h2⟩ := List.getElem?_eq_some_iff.1 hi
                        simpa using h2.symm
                      subst hji
                      exact hall (j + 1) rr (by simpa using hrr)) m w1 { fr with tmps := dstSet o.dst fr.tmps (rv m (.tup [.v (.bool true), e.1, e.2.1])), todo := .inRegion ops ((List.range os.length).map (· + 1)) :: k } cs k hr1 hl2 ht1 hfr.mode rfl
                    refine ⟨_, hq1, m2, w2, { fr with tmps := tm2, todo := k }, st0.trans (st1.trans st2), hr2, hl3, ?_, hp1.trans hp2, rfl, rfl⟩
                    exact hfr.next rfl (hp1.trans hp2) ht3 k
                  · simp at hq2
                · simp at hq2
              · simp at hq2
            · simp at h
          · simp at h
        · simp at h
      · simp at h
    · simp at h
  · simp at h

/-- runs of all ways are so -/
def EnN (P : Program) (f : FuncId) (rd : Option Nat) (en : Code → St → Option Outs) : Prop := ∀ c s outs, en c s = some outs → CodeN P f rd c s outs

omit [Env] in
theorem seqN_mem {en : Code → St → Option Outs} {b : Code} : ∀ {l outs : Outs}, seqN en b l = some outs → ∀ q ∈ l, (q.1 ≠ .nrm → q ∈ outs) ∧ (q.1 = .nrm → ∃ l2, en b q.2 = some l2 ∧ ∀ p ∈ l2, p ∈ outs)
  | [], outs, h, q, hq => by simp at hq
  | (e, s) :: r, outs, h, q, hq => by
    have key : ∀ y, seqN en b r = some y → (∀ p ∈ y, p ∈ outs) → q ∈ r → (q.1 ≠ .nrm → q ∈ outs) ∧ (q.1 = .nrm → ∃ l2, en b q.2 = some l2 ∧ ∀ p ∈ l2, p ∈ outs) := by
      intro y hy hsub hqr
      obtain ⟨h1, h2⟩ := seqN_mem hy q hqr
      refine ⟨fun hn => hsub _ (h1 hn), fun hn => ?_⟩
      obtain ⟨l2, h3, h4⟩ := h2 hn
      exact ⟨l2, h3, fun p hp => hsub _ (h4 p hp)⟩
    have other : e ≠ .nrm → (match seqN en b r with
      | some y => some ((e, s) :: y)
      | none => none) = some outs → (q.1 ≠ .nrm → q ∈ outs) ∧ (q.1 = .nrm → ∃ l2, en b q.2 = some l2 ∧ ∀ p ∈ l2, p ∈ outs) := by
      intro hne h
      split at h
      · rename_i y hy
        simp only [Option.some.injEq] at h
        subst h
        rcases List.mem_cons.1 hq with rfl | hqr
        · exact ⟨fun _ => by simp, fun hn => absurd hn hne⟩
        · exact key y hy (fun p hp => List.mem_cons_of_mem _ hp) hqr
      · simp at h
    cases e with
    | nrm =>
      simp only [seqN] at h
      split at h
      · rename_i x hx
        split at h
        · rename_i y hy
          simp only [Option.some.injEq] at h
          subst h
          rcases List.mem_cons.1 hq with rfl | hqr
          · exact ⟨fun hn => absurd rfl hn, fun _ => ⟨x, hx, fun p hp => List.mem_append_left _ hp⟩⟩
          · exact key y hy (fun p hp => List.mem_append_right _ hp) hqr
        · simp at h
      · simp at h
    | exit id => exact other (by simp) h
    | ret => exact other (by simp) h
    | goto l => exact other (by simp) h

theorem seqc_N {f : FuncId} {rd : Option Nat} {en : Code → St → Option Outs} (hen : EnN P f rd en) {a b : Code} {s : St} {l outs : Outs} (c : Code) (x : Item) (hx : (∀ id, x ≠ .inBlock id) ∧ (∀ c, x ≠ .inScope c))
    (hs : ∀ (fr : Frame) (cs : List Frame) (w : World) (k : List Item), fr.mode = .run → fr.todo = .code c :: k → Steps P (lone fr cs w) (lone { fr with todo := .code a :: x :: k } cs w))
    (hx2 : ∀ (m : Nat → Loc) (w : World) (fr : Frame) (cs : List Frame) (k : List Item) (s1 : St) (l2 : Outs), en b s1 = some l2 → Rel m s1.W w → tlt s1.W.n s1.t → FrOk m s1 fr f rd → fr.todo = x :: k →
        ∃ q ∈ l2, ∃ m' w' fr2, Steps P (lone fr cs w) (lone fr2 cs w') ∧ Rel m' q.2.W w' ∧ tlt q.2.W.n q.2.t ∧ FrOk m' q.2 fr2 f rd ∧ Post m s1.W w m' q.2.W w' ∧ fr2.kind = fr.kind ∧ Left q.1 fr2.todo k)
    (h : en a s = some l) (h2 : seqN en b l = some outs) : CodeN P f rd c s outs := by
  intro m w fr cs k hr hl hfr htd
  have st0 := hs fr cs w k hfr.mode htd
  obtain ⟨q, hq, m1, w1, fr1, st1, hr1, hl1, hfr1, hp1, hk1, hleft1⟩ := hen _ _ _ h m w { fr with todo := .code a :: x :: k } cs (x :: k) hr hl (hfr.todo _) rfl
  obtain ⟨g1, g2⟩ := seqN_mem h2 q hq
  by_cases hn : q.1 = .nrm
  · obtain ⟨l2, h3, h4⟩ := g2 hn
    have htd1 : fr1.todo = x :: k := by
      rw [hn] at hleft1
      exact hleft1
    obtain ⟨p, hp, m2, w2, fr2, st2, hr2, hl2, hfr2, hp2, hk2, hleft2⟩ := hx2 m1 w1 fr1 cs k q.2 l2 h3 hr1 hl1 hfr1 htd1
    exact ⟨p, h4 p hp, m2, w2, fr2, st0.trans (st1.trans st2), hr2, hl2, hfr2, hp1.trans hp2, hk2.trans hk1, hleft2⟩
  · exact ⟨q, g1 hn, m1, w1, fr1, st0.trans st1, hr1, hl1, hfr1, hp1, hk1, hleft1.pass hx hn⟩

omit [Env] in
theorem left_ne2 {ex : Ex} {c : Code} {k : List Item} (h : Left ex (.code (.loop c) :: k) k) : False := left_ne h

theorem stepN_ok (hev : EvOk P ev) (hN : NoOwn P) (hD : DrawOk P) {f : FuncId} {rd : Option Nat} {en : Code → St → Option Outs} (hen : EnN P f rd en) : EnN P f rd (stepN P ev en) := by
  intro c s outs h
  have hst : ∀ (c : Code) (ex : Ex), stepR P ev f rd c s = some (ex, s) → some [(ex, s)] = some outs → CodeN P f rd c s outs := by
    intro c ex h1 h2
    simp only [Option.some.injEq] at h2
    subst h2
    exact (stepR_ok hev hN hD f rd c s ex s h1).toN
  cases c with
  | skip => exact hst _ _ rfl h
  | label l => exact hst _ _ rfl h
  | ret => exact hst _ _ rfl h
  | exit id => exact hst _ _ rfl h
  | goto l => simp [stepN] at h
  | refuse why => simp [stepN] at h
  | rangeFunc g params assign body => simp [stepN] at h
  | seq a b =>
    simp only [stepN] at h
    split at h
    · rename_i l hl0
      refine seqc_N hen (.seq a b) (.code b) ⟨by simp, by simp⟩ (fun fr cs w k hm ht => s_seq hm ht) ?_ hl0 h
      intro m w fr cs k s1 l2 h3 hr hl hfr htd
      exact hen _ _ _ h3 m w fr cs k hr hl hfr htd
    · simp at h
  | loop c =>
    simp only [stepN] at h
    split at h
    · rename_i l hl0
      refine seqc_N hen (.loop c) (.inLoop c) ⟨by simp, by simp⟩ (fun fr cs w k hm ht => s_loop hm ht) ?_ hl0 h
      intro m w fr cs k s1 l2 h3 hr hl hfr htd
      obtain ⟨q, hq, m2, w2, fr2, st, hr2, hl2, hfr2, hp2, hk2, hleft⟩ := hen _ _ _ h3 m w { fr with todo := .code (.loop c) :: k } cs k hr hl (hfr.todo _) rfl
      refine ⟨q, hq, m2, w2, fr2, ?_, hr2, hl2, hfr2, hp2, hk2, hleft⟩
      refine steps_same st ?_ ?_
      · intro heq
        have := lone_inj heq
        rw [← this] at hleft
        exact left_ne hleft
      · have hm := hfr.mode
        have h1 : step P (lone { fr with todo := .code (.loop c) :: k } cs w) = .next (lone { fr with todo := .code c :: .inLoop c :: k } cs w) := by
          apply step_lone_go
          simp [stepG, stepG.exec, hm]
        have h2 : step P (lone fr cs w) = .next (lone { fr with todo := .code c :: .inLoop c :: k } cs w) := by
          apply step_lone_go
          simp [stepG, stepG.exec, hm, htd]
        rw [h1, h2]
    · simp at h
  | cond c a b =>
    simp only [stepN] at h
    split at h
    · rename_i hc
      intro m w fr cs k hr hl hfr htd
      split at h
      · rename_i t hx
        have hcond : evV fr.tmps c = .bool t := by
          rw [← (opd_ok (⟨hfr.tr, hl, hr⟩ : Cx m s.t s.W fr.tmps w) hc).1, hx]; rfl
        have st0 := s_cond (P := P) (cs := cs) (w := w) hfr.mode htd hcond
        have key : ∀ c2, en c2 s = some outs → Steps P (lone fr cs w) (lone { fr with todo := .code c2 :: k } cs w) → ∃ q ∈ outs, ∃ m' w' fr2, Steps P (lone fr cs w) (lone fr2 cs w') ∧ Rel m' q.2.W w' ∧ tlt q.2.W.n q.2.t ∧ FrOk m' q.2 fr2 f rd ∧ Post m s.W w m' q.2.W w' ∧ fr2.kind = fr.kind ∧ Left q.1 fr2.todo k := by
          intro c2 hv st
          obtain ⟨q, hq, m', w', fr2, st2, h1, h2, h3, h4, h5, h6⟩ := hen _ _ _ hv m w { fr with todo := .code c2 :: k } cs k hr hl (hfr.todo _) rfl
          exact ⟨q, hq, m', w', fr2, st.trans st2, h1, h2, h3, h4, h5, h6⟩
        split at h
        · exact key a h (by simpa using st0)
        · exact key b h (by simpa using st0)
      · simp at h
    · simp at h
  | block id c =>
    simp only [stepN] at h
    split at h
    · rename_i l hl0
      simp only [Option.some.injEq] at h
      subst h
      intro m w fr cs k hr hl hfr htd
      have st0 := s_block (P := P) (cs := cs) (w := w) hfr.mode htd
      obtain ⟨q, hq, m1, w1, fr1, st1, hr1, hl1, hfr1, hp1, hk1, hleft1⟩ := hen _ _ _ hl0 m w { fr with todo := .code c :: .inBlock id :: k } cs (.inBlock id :: k) hr hl (hfr.todo _) rfl
      obtain ⟨ex1, s1⟩ := q
      have hmem := List.mem_map_of_mem (f := blockEnd id) hq
      cases ex1 with
      | nrm =>
        have htd1 : fr1.todo = .inBlock id :: k := hleft1
        exact ⟨(.nrm, s1), hmem, m1, w1, { fr1 with todo := k }, st0.trans (st1.trans (s_inBlock hfr1.mode htd1)), hr1, hl1, hfr1.todo _, hp1, hk1, rfl⟩
      | exit id' =>
        obtain ⟨k2, h1, h2⟩ := hleft1
        by_cases hid : id' = id
        · subst hid
          have h3 : exitTo id' k2 = some k := by rw [h2]; simp [exitTo]
          refine ⟨(.nrm, s1), ?_, m1, w1, { fr1 with todo := k }, st0.trans (st1.trans (s_exit hfr1.mode h1 h3)), hr1, hl1, hfr1.todo _, hp1, hk1, rfl⟩
          have e1 : blockEnd id' (Ex.exit id', s1) = (.nrm, s1) := by simp [blockEnd]
          rw [← e1]
          exact hmem
        · refine ⟨(.exit id', s1), ?_, m1, w1, fr1, st0.trans st1, hr1, hl1, hfr1, hp1, hk1, k2, h1, h2.trans ?_⟩
          · have hb : Nat.beq id' id = false := by
              rw [Bool.eq_false_iff]
              exact fun hh => hid (Nat.eq_of_beq_eq_true hh)
            have e1 : blockEnd id (Ex.exit id', s1) = (.exit id', s1) := by simp [blockEnd, hb]
            have h9 := hmem
            rw [e1] at h9
            exact h9
          · simp [exitTo, Ne.symm hid]
      | ret => exact ⟨(.ret, s1), hmem, m1, w1, fr1, st0.trans st1, hr1, hl1, hfr1, hp1, hk1, hleft1⟩
      | goto l =>
        obtain ⟨k2, h1, h2⟩ := hleft1
        exact ⟨(.goto l, s1), hmem, m1, w1, fr1, st0.trans st1, hr1, hl1, hfr1, hp1, hk1, k2, h1, h2.trans (by simp [gotoIn])⟩
    · simp at h
  | scope c =>
    simp only [stepN] at h
    split at h
    · rename_i l hl0
      split at h
      · rename_i hall
        simp only [Option.some.injEq] at h
        subst h
        intro m w fr cs k hr hl hfr htd
        have st0 := s_scope (P := P) (cs := cs) (w := w) hfr.mode htd
        obtain ⟨q, hq, m1, w1, fr1, st1, hr1, hl1, hfr1, hp1, hk1, hleft1⟩ := hen _ _ _ hl0 m w { fr with todo := .code c :: .inScope c :: k } cs (.inScope c :: k) hr hl (hfr.todo _) rfl
        have hg := List.all_eq_true.1 hall q hq
        obtain ⟨ex1, s1⟩ := q
        cases ex1 with
        | nrm =>
          have htd1 : fr1.todo = .inScope c :: k := hleft1
          exact ⟨(.nrm, s1), hq, m1, w1, { fr1 with todo := k }, st0.trans (st1.trans (s_inScope hfr1.mode htd1)), hr1, hl1, hfr1.todo _, hp1, hk1, rfl⟩
        | exit id' =>
          obtain ⟨k2, h1, h2⟩ := hleft1
          exact ⟨(.exit id', s1), hq, m1, w1, fr1, st0.trans st1, hr1, hl1, hfr1, hp1, hk1, k2, h1, h2.trans (by simp [exitTo])⟩
        | ret => exact ⟨(.ret, s1), hq, m1, w1, fr1, st0.trans st1, hr1, hl1, hfr1, hp1, hk1, hleft1⟩
        | goto l => simp at hg
      · simp at h
    · simp at h
  | region id ops draw =>
    simp only [stepN] at h
    split at h
    · rename_i q hq
      simp only [Option.some.injEq] at h
      subst h
      obtain ⟨ex, s'⟩ := q
      exact (region_ok hev hN hD hq).toN
    · split at h
      · simp at h
      · exact nextN_ok hev hN h

theorem evN_ok (hev : EvOk P ev) (hN : NoOwn P) (hD : DrawOk P) {f : FuncId} {rd : Option Nat} (n : Nat) : EnN P f rd (evN P ev n) := by
  induction n with
  | zero =>
    intro c s outs h
    exact absurd h (by simp [evN])
  | succ n ih => exact stepN_ok hev hN hD ih

/-- a function over one map: whatever its order, it gives this truth -/
def MapOk (P : Program) (g : FuncId) (es : List (RV × RV × Nat)) (clock : Nat) (x : Bool) : Prop :=
  ∀ (m : Nat → Loc) (w : World) (cs : List Frame), @Rel (plainEnv []) m ⟨1, [.map es clock true]⟩ w → ∃ m' W1 w' fr, Steps P (lone (Frame.enter P g #[rv m (.mp 0)] .normal) cs w) (lone fr cs w') ∧
    fr.leaving P w' (.returned (.bool x)) ∧ fr.fn = g ∧ Post m ⟨1, [.map es clock true]⟩ w m' W1 w'
end

theorem mapN_ok {P : Program} {e : Env} (he : e.ids = []) (hN : @NoOwn e P) (hD : @DrawOk e P) {ev : Ev} (hev : @EvOk e P ev) {n : Nat} {g : FuncId} {es : List (RV × RV × Nat)} {clock : Nat} {x : Bool} (h : @mapN e P ev n g es clock x = true) : MapOk P g es clock x := by
  intro m w cs hr0
  have hr : @Rel e m ⟨1, [.map es clock true]⟩ w := @Rel.conv (plainEnv []) e he.symm _ _ _ hr0
  unfold mapN at h
  split at h
  · rename_i fn hfn
    split at h
    · rename_i c hc
      rw [fnat_eq] at h
      split at h
      · rename_i l hl
        have hlen : ([RV.mp 0] : List RV).length ≤ max 1 fn.ntmps := Nat.le_max_left _ _
        have hlt : tlt 1 (RT.of [.mp 0] (max 1 fn.ntmps)) := by
          intro i
          rw [of_get _ _ _ hlen]
          match i with
          | 0 => rfl
          | i + 1 => rfl
        have hfr : FrOk m ⟨RT.of [.mp 0] (max 1 fn.ntmps), ⟨1, [.map es clock true]⟩, []⟩ (Frame.enter P g #[rv m (.mp 0)] .normal) g none := by
          refine ⟨rfl, rfl, rfl, ⟨?_, ?_⟩, rfl, by simp, by simp⟩
          · simp [Frame.enter, hfn]; omega
          · intro i
            rw [of_get _ _ _ hlen]
            simp only [Frame.enter, hfn, Option.map_some, Option.getD_some]
            rw [show (#[rv m (.mp 0)] : Array Value) = ([rv m (.mp 0)] : List Value).toArray from rfl, enter_get]
            match i with
            | 0 => rfl
            | i + 1 => rfl
        have htodo : (Frame.enter P g #[rv m (.mp 0)] .normal).todo = .code c :: [] := by simp [Frame.enter, hfn, hc]
        obtain ⟨q, hq, m1, w1, fr1, st1, hr1, hlt1, hfr1, hp1, hk1, hleft⟩ := @evN_ok e P ev hev hN hD g none n _ _ _ hl m w _ cs [] hr hlt hfr htodo
        have hq2 := List.all_eq_true.1 h q hq
        split at hq2
        · rename_i y W2 hfin
          have hxy : x = y := by simpa using hq2
          subst hxy
          obtain ⟨ex, s⟩ := q
          have fin : (fr1.todo = [] ∨ ∃ k, fr1.todo = .code .ret :: k) → (match takeDs s.ds s.W with
              | some W' => match resultsR P s.t W' fn.results.toList with
                | some xs => some (one xs, W')
                | none => none
              | none => none) = some (.v (.bool x), W2) → ∃ m' W1 w' fr, Steps P (lone (Frame.enter P g #[rv m (.mp 0)] .normal) cs w) (lone fr cs w') ∧
                fr.leaving P w' (.returned (.bool x)) ∧ fr.fn = g ∧ Post m ⟨1, [.map es clock true]⟩ w m' W1 w' := by
            intro htd hh
            split at hh
            · rename_i W3 htk
              split at hh
              · rename_i xs hxs
                simp only [Option.some.injEq, Prod.mk.injEq] at hh
                obtain ⟨h1, rfl⟩ := hh
                have st2 := s_return (P := P) (cs := cs) (w := w1) hfr1.mode htd hfr1.rnd
                obtain ⟨w2, st3, hr2, hp2⟩ := @takeDs_ok e P s.ds s.W W3 m1 w1 { fr1 with mode := .returning } cs htk hr1 rfl hfr1.ds
                have hlt2 : tlt W3.n s.t := fun i => below_mono hp2.mono _ (hlt1 i)
                obtain ⟨r1, r2⟩ := @results_ok e P fn W3 m1 w2 s.t _ hr2 hfr1.tr hlt2 xs hxs
                rw [h1] at r1
                exact ⟨m1, W3, w2, _, st1.trans (st2.trans st3), ⟨rfl, rfl, hk1, fn, by rw [← hfr1.fn] at hfn; exact hfn, r1⟩, hfr1.fn, hp1.trans hp2⟩
              · simp at hh
            · simp at hh
          cases ex with
          | nrm => exact fin (.inl hleft) hfin
          | ret => exact fin (.inr hleft) hfin
          | exit id => simp [finF] at hfin
          | goto l => simp [finF] at hfin
        · simp at hq2
      · simp at h
    · simp at h
  · simp at h

/-- a known run over a map -/
structure MapM where
  g : FuncId
  es : List (RV × RV × Nat)
  clock : Nat
  x : Bool

def MapM.Ok (P : Program) (e : MapM) : Prop := MapOk P e.g e.es e.clock e.x ∧ (e.es.all fun q => below 0 q.1 && below 0 q.2.1) = true ∧ ∃ fn, P.funcs[e.g]? = some fn ∧ fn.body.isSome = true

noncomputable section
def sameEs : List (RV × RV × Nat) → List (RV × RV × Nat) → Bool
  | [], [] => true
  | x :: r, y :: s => sameCellN x.1 y.1 && sameCellN x.2.1 y.2.1 && Nat.beq x.2.2 y.2.2 && sameEs r s
  | _, _ => false

def mapFind (l : List MapM) (g : FuncId) (es : List (RV × RV × Nat)) (clock : Nat) (W : RW) : Option (RV × RW) := match l with
  | [] => none
  | e :: r => match Nat.beq e.g g && Nat.beq e.clock clock && sameEs e.es es with
    | true => some (.v (.bool e.x), W)
    | false => mapFind r g es clock W

def mapRun (l : List MapM) (g : FuncId) (args : List RV) (W : RW) : Option (RV × RW) := match args with
  | [.mp b] => match W.get b with
    | some (.map es clock _) => mapFind l g es clock W
    | _ => none
  | _ => none
end

theorem sameEs_eq : ∀ {a b : List (RV × RV × Nat)}, sameEs a b = true → a = b
  | [], [], _ => rfl
  | (x1, x2, x3) :: r, (y1, y2, y3) :: s, h => by
    simp only [sameEs, Bool.and_eq_true] at h
    obtain ⟨⟨⟨h1, h2⟩, h3⟩, h4⟩ := h
    obtain ⟨v1, rfl, rfl, _⟩ := sameCellN_v h1
    obtain ⟨v2, rfl, rfl, _⟩ := sameCellN_v h2
    have h3 := Nat.eq_of_beq_eq_true h3
    subst h3
    rw [sameEs_eq h4]
  | [], _ :: _, h => by simp [sameEs] at h
  | _ :: _, [], h => by simp [sameEs] at h

theorem map_lift {e2 : Env} {P : Program} {e : MapM} (h : e.Ok P) {W : RW} {b : Nat} {ro : Bool} (hg : W.get b = some (.map e.es e.clock ro)) : @CallOk e2 P e.g [.mp b] W (.v (.bool e.x)) W := by
  obtain ⟨hm, hplain, _⟩ := h
  intro m w cs hr hb
  have hpl : ∀ q ∈ e.es, below 0 q.1 = true ∧ below 0 q.2.1 = true := fun q hq => by
    have := List.all_eq_true.1 hplain q hq
    simpa using this
  have get0 : ∀ (i : Nat) (o : RObj), (⟨1, [.map e.es e.clock true]⟩ : RW).get i = some o → i = 0 ∧ o = .map e.es e.clock true := by
    intro i o hi
    match i, hi with
    | 0, hi => exact ⟨rfl, (Option.some.inj hi).symm⟩
    | i + 1, hi =>
      have h1 := get_lt hi
      simp at h1
  have hr0 : @Rel (plainEnv []) (fun _ => m b) ⟨1, [.map e.es e.clock true]⟩ w := by
    refine @Rel.mk (plainEnv []) _ _ _ (by simp [RW.wf]) ?_ ?_ ?_ ?_
    · intro i o hi
      obtain ⟨rfl, rfl⟩ := get0 i o hi
      have ho : w.heap[(m b).blk]? = some (.map (e.es.map (entryOf m)).toArray e.clock) := hr.obj b _ hg
      show w.heap[(m b).blk]? = some (.map (e.es.map (entryOf fun _ => m b)).toArray e.clock)
      rw [ho]
      have : e.es.map (entryOf m) = e.es.map (entryOf fun _ => m b) := List.map_congr_left fun q hq => by
        obtain ⟨h1, h2⟩ := hpl q hq
        simp only [entryOf]
        rw [rv_agree (n := 0) (m := m) (m' := fun _ => m b) (fun b hb => absurd hb (Nat.not_lt_zero b)) q.1 h1, rv_agree (n := 0) (m := m) (m' := fun _ => m b) (fun b hb => absurd hb (Nat.not_lt_zero b)) q.2.1 h2]
      rw [this]
    · intro i o hi
      obtain ⟨rfl, rfl⟩ := get0 i o hi
      intro q hq
      obtain ⟨h1, h2⟩ := hpl q hq
      exact ⟨below_mono (Nat.zero_le _) _ h1, below_mono (Nat.zero_le _) _ h2⟩
    · intro a c x y ha _ hx
      obtain ⟨rfl, rfl⟩ := get0 a x ha
      simp [RObj.own] at hx
    · intro i g hi
      have hi' : ([] : List Nat)[i]? = some g := hi
      simp at hi'
  obtain ⟨m', W1, w', fr, st, hlv, hf, hp⟩ := hm _ w cs hr0
  have hst := hp.toStill fun i o hi => by
    obtain ⟨rfl, rfl⟩ := get0 i o hi
    rfl
  exact ⟨m, w', fr, st, hlv, hf, @Rel.still e2 m W w w' hr hst, (Post.refl m W w).still hst, rfl⟩

@[reducible] noncomputable def mapEnv (e : Env) (l : List MapM) : Env := ⟨e.ids, fun g args W => match @Env.ext e g args W with
  | some r => some r
  | none => mapRun l g args W, e.gc⟩

theorem noOwn_map {P : Program} {e : Env} (h : @NoOwn e P) {l : List MapM} (hl : ∀ q ∈ l, q.Ok P) : @NoOwn (mapEnv e l) P := by
  refine @NoOwn.mk (mapEnv e l) P (@NoOwn.name e P h) ?_
  intro g args W x W' hx0
  have hx1 : (match @Env.ext e g args W with
    | some r => some r
    | none => mapRun l g args W) = some (x, W') := hx0
  split at hx1
  · rename_i r hr
    simp only [Option.some.injEq] at hx1
    subst hx1
    obtain ⟨h1, h2⟩ := @NoOwn.ext e P h g args W x W' hr
    exact ⟨@conv_ok e (mapEnv e l) rfl P g args W W' x h1, h2⟩
  · unfold mapRun at hx1
    split at hx1
    · rename_i b _
      split at hx1
      · rename_i es clock ro hg
        have key : ∀ (l' : List MapM), (∀ q ∈ l', q.Ok P) → mapFind l' g es clock W = some (x, W') → @CallOk (mapEnv e l) P g [.mp b] W x W' ∧ ∃ fn, P.funcs[g]? = some fn ∧ fn.body.isSome = true := by
          intro l'
          induction l' with
          | nil => intro _ hx; simp [mapFind] at hx
          | cons q r ih =>
            intro hl hx
            have ih := ih fun p hp => hl p (List.mem_cons_of_mem _ hp)
            unfold mapFind at hx
            split at hx
            · rename_i hq
              simp only [Bool.and_eq_true] at hq
              obtain ⟨⟨h1, h2⟩, h3⟩ := hq
              have h1 := Nat.eq_of_beq_eq_true h1
              have h2 := Nat.eq_of_beq_eq_true h2
              have h3 := sameEs_eq h3
              simp only [Option.some.injEq, Prod.mk.injEq] at hx
              obtain ⟨rfl, rfl⟩ := hx
              subst h1 h2 h3
              exact ⟨map_lift (hl q List.mem_cons_self) hg, (hl q List.mem_cons_self).2.2⟩
            · exact ih hx
        exact key l hl hx1
      · simp at hx1
    · simp at hx1

/-- a run over a map becomes known -/
theorem mapM_of {P : Program} {e : Env} (he : e.ids = []) (hN : @NoOwn e P) (n : Nat) {q : MapM} (h : @mapN e P (@evR e P n) n q.g q.es q.clock q.x = true) (hp : (q.es.all fun q => below 0 q.1 && below 0 q.2.1) = true) : q.Ok P := by
  refine ⟨mapN_ok he hN (@drawOk e P hN) (@ev_ok e P hN n) h, hp, ?_⟩
  unfold mapN at h
  split at h
  · rename_i fn hfn
    split at h
    · rename_i c hc
      exact ⟨fn, hfn, by simp [hc]⟩
    · simp at h
  · simp at h
end Go.Rv
