/- Tables of any plain cells. -/
import Derived.Test.YtgchcfhbcaemoabGreatDoorRvZ
namespace Go.Rv
open Go Go.RowKit Go.WideShapes Go.ChangeShapes
section

abbrev VTabs := List (Nat × List Value)

def vtabRw (l : VTabs) : RW := ⟨l.length, (l.map fun t => RObj.cells (t.2.map .v) .ro).reverse⟩

def VTabsAt (l : VTabs) (w : World) : Prop := ∀ t ∈ l, ∃ ty fz, w.heap[t.1]? = some (.cells t.2.toArray ty fz)

theorem vtabRw_get {l : VTabs} {b : Nat} {o : RObj} (h : (vtabRw l).get b = some o) : ∃ t, l[b]? = some t ∧ o = .cells (t.2.map .v) .ro := by
  unfold vtabRw RW.get at h
  simp only [blt_eq, decide_eq_true_eq, lget_eq] at h
  split at h
  · rename_i hb
    rw [List.getElem?_reverse (by rw [List.length_map]; omega)] at h
    simp only [List.length_map, List.getElem?_map] at h
    rw [show l.length - 1 - (l.length - 1 - b) = b by omega] at h
    cases ht : l[b]? with
    | none => rw [ht] at h; simp at h
    | some t =>
      rw [ht] at h
      simp only [Option.map_some, Option.some.injEq] at h
      exact ⟨t, rfl, h.symm⟩
  · simp at h

theorem vtabRel {e : Env} {l : VTabs} (hids : e.ids = l.map (·.1)) (hv : (l.all fun t => t.2.all oneV) = true) {w : World} (h : VTabsAt l w) : ∃ m, @Rel e m (vtabRw l) w := by
  refine ⟨fun b => match l[b]? with | some t => ⟨t.1, 0, t.2.length⟩ | none => ⟨0, 0, 0⟩, @Rel.mk e _ _ _ ?_ ?_ ?_ ?_ ?_⟩
  · simp [RW.wf, vtabRw]
  · intro b o hb
    obtain ⟨t, ht, rfl⟩ := vtabRw_get hb
    obtain ⟨ty, fz, hh⟩ := h t (List.mem_of_getElem? ht)
    simp only [ht]
    refine ⟨_, ty, fz, hh, ?_, fun hk _ => absurd rfl hk, by simp, by simp, fun hk => by simp at hk, trivial⟩
    intro j x hj
    simp only [List.getElem?_map, Option.map_eq_some_iff] at hj
    obtain ⟨z, hz, rfl⟩ := hj
    simp [hz, rv]
  · intro b o hb
    obtain ⟨t, ht, rfl⟩ := vtabRw_get hb
    refine (belowC_iff _ _).2 fun x hx => ?_
    obtain ⟨z, hz, rfl⟩ := List.mem_map.1 hx
    have h1 := List.all_eq_true.1 (List.all_eq_true.1 hv t (List.mem_of_getElem? ht)) z hz
    refine ⟨h1, ?_⟩
    cases z <;> first | rfl | simp [oneV] at h1
  · intro a b x y ha _ hx
    obtain ⟨t, ht, rfl⟩ := vtabRw_get ha
    simp [RObj.own] at hx
  · intro i g hi
    rw [hids, List.getElem?_map] at hi
    cases ht : l[i]? with
    | none => rw [ht] at hi; simp at hi
    | some t =>
      rw [ht] at hi
      simp only [Option.map_some, Option.some.injEq] at hi
      exact ⟨by show i < l.length; exact (List.getElem?_eq_some_iff.1 ht).1, by simp [hi], by simp⟩

/-- a function without arguments, over tables -/
theorem vrun_calls {P : Program} {e : Env} (hN : @NoOwn e P) {l : VTabs} (hids : e.ids = l.map (·.1)) (hv : (l.all fun t => t.2.all oneV) = true) {n : Nat} {g : FuncId} {v : Value} (h : (@callF e P (@evR e P n) g [] (vtabRw l)).map (·.1) = some (.v v)) {w : World} (ht : VTabsAt l w) :
    Calls P g #[] w fun e w' => e = .returned v ∧ RowKit.Below w.heap.size w w' := by
  cases hc : @callF e P (@evR e P n) g [] (vtabRw l) with
  | none => rw [hc] at h; simp at h
  | some q =>
    obtain ⟨y, W1⟩ := q
    rw [hc] at h
    simp only [Option.map_some, Option.some.injEq] at h
    subst h
    obtain ⟨m, hr⟩ := vtabRel hids hv ht
    obtain ⟨h1, _⟩ := @callF_ok e P _ hN (@ev_ok e P hN n) g [] (vtabRw l) W1 (.v v) hc
    refine CallOk.calls h1 hr rfl fun m' w' _ hp _ => ⟨rfl, hp.below fun b o hb => ?_⟩
    obtain ⟨t, _, rfl⟩ := vtabRw_get hb
    rfl

theorem vtab_of {P : Program} {w : World} {name : String} {k : IntKind} {zs : List Int} {g : Nat} (hg : P.globalNamed name = some g) (h : Lib.TabIs P w name k zs) :
    ∃ ty fz, w.heap[g]? = some (.cells (zs.map fun z => Value.int k z).toArray ty fz) := tab_at hg h

/-- strings as a row lists them -/
def strData {H : Type} (l : List (List UInt8)) : DataW H := .agg (l.map fun s => .lit (.string s))

def strVals (l : List (List UInt8)) : List Value := l.map fun s => .string ⟨s.toArray⟩

theorem cells_of_strs {H : Type} {enc : TypeId × Value → H} {P : Program} {w : World} {base : Nat} {sp : Nat → Bool} {held : Bool} {fuel : Nat} {t e : TypeId} {n : Nat} {cs : List Value} {l : List (List UInt8)} {p : List MemPlace}
    (ht : P.underlying t = some (.array n e)) (he : P.underlying e = some .string) (hce : P.cellsOf e = 1) (hct : P.cellsOf t = n)
    (h : DataW.trod enc P w base sp held fuel t cs = some (strData l, p)) : cs = strVals l := by
  cases fuel with
  | zero => simp [DataW.trod] at h
  | succ fuel =>
    simp only [DataW.trod, ht, hce, hct, Nat.mul_one] at h
    split at h
    · rename_i hl
      obtain ⟨xs, hm, hx⟩ := Option.map_eq_some_iff.1 h
      have hxs : xs.map (·.1) = l.map fun s => (DataW.lit (.string s) : DataW H) := by
        have := congrArg Prod.fst hx
        simpa [strData] using this
      have hxl : xs.length = n := by simpa using Lib.mapM_length hm
      have hzl : l.length = n := by
        have := congrArg List.length hxs
        simp at this
        omega
      apply List.ext_getElem?
      intro i
      by_cases hi : i < n
      · obtain ⟨b, hb, hf⟩ := Lib.mapM_at hm i i (by simp [hi])
        obtain ⟨s, hc, hbe, _⟩ := DataW.trod_string he hf
        have h1 : cs[i]? = some (.string s) := by
          have := congrArg (·[0]?) hc
          simpa [List.getElem?_take, List.getElem?_drop] using this
        have h2 : (xs.map (·.1))[i]? = some b.1 := by simp [hb]
        rw [hxs, hbe] at h2
        simp only [List.getElem?_map, Option.map_eq_some_iff, DataW.lit.injEq, Lit.string.injEq] at h2
        obtain ⟨s', hs', he'⟩ := h2
        rw [h1]
        simp only [strVals, List.getElem?_map, hs', Option.map_some, he']
      · rw [List.getElem?_eq_none (by omega), List.getElem?_eq_none (by simp [strVals]; omega)]
    · cases h

theorem rows_cut (k : Nat) : ∀ (ls : List (List (List UInt8))) (cs : List Value), cs.length = ls.length * k → (∀ i l, ls[i]? = some l → (cs.drop (i * k)).take k = strVals l) → cs = ls.flatMap strVals
  | [], cs, h, _ => by
    have : cs.length = 0 := by simpa using h
    simpa using List.eq_nil_of_length_eq_zero this
  | l :: r, cs, h, hl => by
    have h0 := hl 0 l rfl
    rw [Nat.zero_mul, List.drop_zero] at h0
    rw [List.flatMap_cons, ← h0]
    have := rows_cut k r (cs.drop k) (by rw [List.length_drop, h, List.length_cons, Nat.succ_mul]; omega) fun i l' hi => by
      have := hl (i + 1) l' (by simpa using hi)
      rw [Nat.succ_mul] at this
      rw [List.drop_drop, Nat.add_comm k]
      exact this
    rw [← this, List.take_append_drop]

theorem cells_of_nest {H : Type} {enc : TypeId × Value → H} {P : Program} {w : World} {base : Nat} {sp : Nat → Bool} {held : Bool} {fuel : Nat} {t e s : TypeId} {n k : Nat} {cs : List Value} {ls : List (List (List UInt8))} {p : List MemPlace}
    (ht : P.underlying t = some (.array n e)) (he : P.underlying e = some (.array k s)) (hs : P.underlying s = some .string) (hcs : P.cellsOf s = 1) (hce : P.cellsOf e = k) (hct : P.cellsOf t = n * k)
    (h : DataW.trod enc P w base sp held fuel t cs = some (.agg (ls.map strData), p)) : cs = ls.flatMap strVals := by
  cases fuel with
  | zero => simp [DataW.trod] at h
  | succ fuel =>
    simp only [DataW.trod, ht, hce] at h
    split at h
    · rename_i hl
      obtain ⟨xs, hm, hx⟩ := Option.map_eq_some_iff.1 h
      have hxs : xs.map (·.1) = ls.map fun l => (strData l : DataW H) := by
        have := congrArg Prod.fst hx
        simpa using this
      have hxl : xs.length = n := by simpa using Lib.mapM_length hm
      have hzl : ls.length = n := by
        have := congrArg List.length hxs
        simp at this
        omega
      refine rows_cut k ls cs (by rw [hzl]; exact hl.trans hct) fun i l hi => ?_
      have hin : i < n := by
        have := (List.getElem?_eq_some_iff.1 hi).1
        omega
      obtain ⟨b, hb, hf⟩ := Lib.mapM_at hm i i (by simp [hin])
      have h2 : (xs.map (·.1))[i]? = some b.1 := by simp [hb]
      rw [hxs] at h2
      simp only [List.getElem?_map, hi, Option.map_some, Option.some.injEq] at h2
      exact cells_of_strs (p := b.2) he hs hcs hce (hf.trans (by rw [h2]))
    · cases h

theorem nest_at {P : Program} {W : World} {name : String} {ls : List (List (List UInt8))} {g : Nat} {t e s : TypeId} {n k : Nat}
    (hg : P.globalNamed name = some g) (hty : (P.globals[g]?).map (·.type) = some t) (ht : P.underlying t = some (.array n e)) (he : P.underlying e = some (.array k s)) (hs : P.underlying s = some .string) (hcs : P.cellsOf s = 1) (hce : P.cellsOf e = k) (hct : P.cellsOf t = n * k)
    (h : laidMet P [(name, .agg (ls.map strData))] W) : ∃ ty fz, W.heap[g]? = some (.cells (ls.flatMap strVals).toArray ty fz) := by
  obtain ⟨ps, ⟨g', t', cs, fuel, p, q, hg', ht', hvar, hd, _, _⟩, _⟩ := h
  obtain rfl := Option.some.inj (hg.symm.trans hg')
  obtain rfl := Option.some.inj (hty.symm.trans ht')
  have hcs := cells_of_nest ht he hs hcs hce hct hd
  unfold World.var? at hvar
  rw [hg] at hvar
  simp only [Option.bind_some] at hvar
  split at hvar
  · rename_i cs' ty fz hh
    simp only [Option.some.injEq] at hvar
    subst hvar
    refine ⟨ty, fz, ?_⟩
    rw [hh, ← hcs]
  · simp at hvar

theorem strs_at {P : Program} {W : World} {name : String} {l : List (List UInt8)} {g : Nat} {t e : TypeId} {n : Nat}
    (hg : P.globalNamed name = some g) (hty : (P.globals[g]?).map (·.type) = some t) (ht : P.underlying t = some (.array n e)) (he : P.underlying e = some .string) (hce : P.cellsOf e = 1) (hct : P.cellsOf t = n)
    (h : laidMet P [(name, strData l)] W) : ∃ ty fz, W.heap[g]? = some (.cells (strVals l).toArray ty fz) := by
  obtain ⟨ps, ⟨g', t', cs, fuel, p, q, hg', ht', hvar, hd, _, _⟩, _⟩ := h
  obtain rfl := Option.some.inj (hg.symm.trans hg')
  obtain rfl := Option.some.inj (hty.symm.trans ht')
  have hcs := cells_of_strs ht he hce hct hd
  unfold World.var? at hvar
  rw [hg] at hvar
  simp only [Option.bind_some] at hvar
  split at hvar
  · rename_i cs' ty fz hh
    simp only [Option.some.injEq] at hvar
    subst hvar
    refine ⟨ty, fz, ?_⟩
    rw [hh, ← hcs]
  · simp at hvar
end
end Go.Rv
