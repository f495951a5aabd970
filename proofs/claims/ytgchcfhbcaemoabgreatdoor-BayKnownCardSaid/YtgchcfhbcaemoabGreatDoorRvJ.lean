/- Maps: what is made of them. -/
import Derived.Test.YtgchcfhbcaemoabGreatDoorRvI
namespace Go.Rv
open Go
variable [Env]
section
variable {P : Program} {m : Nat → Loc} {t : RT} {W : RW} {arr : Array Value} {w : World} {e : Eff}

omit [Env] in
theorem mapAt_spec {x : RV} {b : Nat} {es : List (RV × RV × Nat)} {clock : Nat} {ro : Bool} (h : mapAt W x = some (b, es, clock, ro)) : x = .mp b ∧ W.get b = some (.map es clock ro) := by
  unfold mapAt at h
  split at h
  · split at h
    · rename_i hg
      simp only [Option.some.injEq, Prod.mk.injEq] at h
      obtain ⟨rfl, rfl, rfl, rfl⟩ := h
      exact ⟨rfl, hg⟩
    · simp at h
  · simp at h

omit [Env] in
theorem run_getMap {r : Nat} {es : Array MapEntry} {clock : Nat} (h : w.heap[r]? = some (.map es clock)) : (getObj r).run P w = .ok (.map es clock) w := by
  simp [getObj, Sem.run, h]

omit [Env] in
theorem run_getIter {r : Nat} {a : Option Nat} {b d : Nat} {c : Array Nat} (h : w.heap[r]? = some (.mapIter a b c d)) : (getObj r).run P w = .ok (.mapIter a b c d) w := by
  simp [getObj, Sem.run, h]

omit [Env] in
theorem run_getStr {r : Nat} {s : ByteArray} {p : Nat} (h : w.heap[r]? = some (.stringIter s p)) : (getObj r).run P w = .ok (.stringIter s p) w := by
  simp [getObj, Sem.run, h]

omit [Env] in
theorem run_setStr {r : Nat} {s : ByteArray} {p : Nat} {o : Obj} (h : w.heap[r]? = some (.stringIter s p)) : (setObj r o).run P w = .ok () { w with heap := w.heap.setIfInBounds r o } := by
  simp [setObj, Sem.run, h]

omit [Env] in
theorem run_setMap {r : Nat} {es : Array MapEntry} {clock : Nat} {o : Obj} (h : w.heap[r]? = some (.map es clock)) : (setObj r o).run P w = .ok () { w with heap := w.heap.setIfInBounds r o } := by
  simp [setObj, Sem.run, h]

omit [Env] in
theorem run_setIter {r : Nat} {a : Option Nat} {b d : Nat} {c : Array Nat} {o : Obj} (h : w.heap[r]? = some (.mapIter a b c d)) : (setObj r o).run P w = .ok () { w with heap := w.heap.setIfInBounds r o } := by
  simp [setObj, Sem.run, h]

/-- a block that is no cells is changed -/
theorem Rel.setObj {W' : RW} (hr : Rel m W w) {b : Nat} {o o' : RObj} {x : Obj} (hb : W.get b = some o) (ho : o.own = true) (hs : W.set b o' = some W') (hlt : o'.lt W.n)
    (hsz : (m b).blk < w.heap.size) (hrel : ∀ heap : Array Obj, heap[(m b).blk]? = some x → ORel m o' (m b) heap) :
    Rel m W' { w with heap := w.heap.setIfInBounds (m b).blk x } ∧ Post m W w m W' { w with heap := w.heap.setIfInBounds (m b).blk x } := by
  refine hr.set hb ho hs (fun r hne => ?_) (by simp) (hrel _ ?_) hlt rfl rfl rfl
  · exact Array.getElem?_setIfInBounds_ne (Ne.symm hne)
  · exact Array.getElem?_setIfInBounds_self_of_lt hsz

omit [Env] in
theorem findKeyR_scan {s : Bool} {ks : List Nat} {k : RV} {es : List (RV × RV × Nat)} {r : Option (Nat × RV)} (h : findKeyR s ks k es = some r) : scanR s ks k es 0 = some r := by
  unfold findKeyR at h
  split at h
  · exact h
  · simp at h

omit [Env] in
theorem scan_at {s : Bool} {ks : List Nat} {k : RV} : ∀ (es : List (RV × RV × Nat)) (i0 i : Nat) (x : RV), scanR s ks k es i0 = some (some (i, x)) →
    ∃ j k' bn, i = i0 + j ∧ es[j]? = some (k', x, bn) ∧ sameK s ks k k' = some true
  | [], i0, i, x, h => by simp [scanR] at h
  | (k', y, bn) :: es, i0, i, x, h => by
    simp only [scanR] at h
    split at h
    · rename_i hs
      simp only [Option.some.injEq, Prod.mk.injEq] at h
      obtain ⟨rfl, rfl⟩ := h
      exact ⟨0, k', bn, rfl, rfl, hs⟩
    · obtain ⟨j, k2, b2, h1, h2, h3⟩ := scan_at es (i0 + 1) i x h
      exact ⟨j + 1, k2, b2, by omega, by simpa using h2, h3⟩
    · simp at h

theorem xLk_ok {ty kt el : TypeId} {i : TypeInfo} {z : Value} {s : Bool} {ks : List Nat} {a k : RV} (hr : Rel m W w) (hu : P.underlying ty = some (.map kt el)) (hi : P.info? el = some i) (hz : i.zero = some z) (hf : flatV z = true)
    (hk : keyKinds P kt = some (s, ks)) (h : xLk W s ks (ofValue z) a k = some e) : EffOk P m W w (sv (Instr.lookup ty (rv m a) (rv m k) false)) e := by
  unfold xLk at h
  split at h
  · rename_i b es clock ro hm
    obtain ⟨rfl, hb⟩ := mapAt_spec hm
    have ho : w.heap[(m b).blk]? = some (.map (es.map (entryOf m)).toArray clock) := hr.obj b _ hb
    have hlt : ∀ x ∈ es, below W.n x.1 = true ∧ below W.n x.2.1 = true := hr.lt b _ hb
    have run : ∀ r, findKeyR s ks k es = some r → (Instr.lookup ty (.map (some (m b).blk)) (rv m k) false).run P w = .ok (match found m r with | some (_, v) => v | none => z) w := by
      intro r hfk
      obtain ⟨h1, h2, _⟩ := key_findKey (P := P) (m := m) hk hfk
      unfold Instr.lookup
      simp only [Sem.run_bind, run_underlying hu, Result.andThen_ok, run_getMap ho, Sem.run_pure, h2, h1]
      cases r with
      | none => simp [found, zeroValue, typeInfo, hi, hz]
      | some r => simp [found]
    split at h
    · rename_i i0 x hfk
      simp only [Option.some.injEq] at h
      subst h
      obtain ⟨j, k', bn, _, hj, _⟩ := scan_at es 0 i0 x (findKeyR_scan hfk)
      refine effOk_val (hlt _ (List.mem_of_getElem? hj)).2 ?_
      simpa [rv, found] using run _ hfk
    · rename_i hfk
      simp only [Option.some.injEq] at h
      subst h
      obtain ⟨o1, o2⟩ := ofValue_ok m W.n hf
      refine effOk_val o2 ?_
      rw [o1]
      simpa [rv, found] using run _ hfk
    · simp at h
  · simp at h

theorem xLkO_ok {ty kt el : TypeId} {i : TypeInfo} {z : Value} {s : Bool} {ks : List Nat} {a k : RV} (hr : Rel m W w) (hu : P.underlying ty = some (.map kt el)) (hi : P.info? el = some i) (hz : i.zero = some z) (hf : flatV z = true)
    (hk : keyKinds P kt = some (s, ks)) (h : xLkO W s ks (ofValue z) a k = some e) : EffOk P m W w (sv (Instr.lookup ty (rv m a) (rv m k) true)) e := by
  unfold xLkO at h
  split at h
  · rename_i b es clock ro hm
    obtain ⟨rfl, hb⟩ := mapAt_spec hm
    have ho : w.heap[(m b).blk]? = some (.map (es.map (entryOf m)).toArray clock) := hr.obj b _ hb
    have hlt : ∀ x ∈ es, below W.n x.1 = true ∧ below W.n x.2.1 = true := hr.lt b _ hb
    have run : ∀ r, findKeyR s ks k es = some r → (Instr.lookup ty (.map (some (m b).blk)) (rv m k) true).run P w = .ok (match found m r with | some (_, v) => .tuple #[v, .bool true] | none => .tuple #[z, .bool false]) w := by
      intro r hfk
      obtain ⟨h1, h2, _⟩ := key_findKey (P := P) (m := m) hk hfk
      unfold Instr.lookup
      simp only [Sem.run_bind, run_underlying hu, Result.andThen_ok, run_getMap ho, Sem.run_pure, h2, h1]
      cases r with
      | none => simp [found, zeroValue, typeInfo, hi, hz]
      | some r => simp [found]
    split at h
    · rename_i i0 x hfk
      simp only [Option.some.injEq] at h
      subst h
      obtain ⟨j, k', bn, _, hj, _⟩ := scan_at es 0 i0 x (findKeyR_scan hfk)
      refine effOk_val (by simp only [below, belowL, (hlt _ (List.mem_of_getElem? hj)).2, Bool.and_self]) ?_
      simpa [rv, rvL, found] using run _ hfk
    · rename_i hfk
      simp only [Option.some.injEq] at h
      subst h
      obtain ⟨o1, o2⟩ := ofValue_ok m W.n hf
      refine effOk_val (by simp only [below, belowL, o2, Bool.and_self]) ?_
      have e : rv m (.tup [ofValue z, .v (.bool false)]) = .tuple #[z, .bool false] := by simp only [rv, rvL, o1]
      rw [e]
      simpa [rv, found] using run _ hfk
    · simp at h
  · simp at h

omit [Env] in
theorem wset_spec {b : Nat} {o : RObj} {x : RV} (h : wset W b o x = some e) : ∃ W', W.set b o = some W' ∧ e = .wr x W' := by
  unfold wset at h
  split at h
  · rename_i W' hs
    exact ⟨W', hs, (Option.some.inj h).symm⟩
  · simp at h

theorem xMup_ok {ty kt el : TypeId} {s : Bool} {ks : List Nat} {a k x : RV} (hr : Rel m W w) (hu : P.underlying ty = some (.map kt el)) (hk : keyKinds P kt = some (s, ks)) (hbk : below W.n k = true) (hbx : below W.n x = true)
    (h : xMup W s ks a k x = some e) : EffOk P m W w (do Instr.mapUpdate ty (rv m a) (rv m k) (rv m x); pure .skip) e := by
  unfold xMup at h
  split at h
  · rename_i b es clock hm
    obtain ⟨rfl, hb⟩ := mapAt_spec hm
    have ho : w.heap[(m b).blk]? = some (.map (es.map (entryOf m)).toArray clock) := hr.obj b _ hb
    have hlt : ∀ x ∈ es, below W.n x.1 = true ∧ below W.n x.2.1 = true := hr.lt b _ hb
    have hsz : (m b).blk < w.heap.size := (Array.getElem?_eq_some_iff.1 ho).1
    split at h
    · rename_i i y hfk
      obtain ⟨h1, h2, h3⟩ := key_findKey (P := P) (m := m) hk hfk
      obtain ⟨j, k', bn, hij, hj, hs⟩ := scan_at es 0 i y (findKeyR_scan hfk)
      have hij' : i = j := by omega
      subst hij'
      obtain ⟨rfl, hst⟩ := key_stays (P := P) (m := m) hk hs w
      rw [lget_eq, hj] at h
      simp only at h
      split at h
      · rename_i es' hes
        obtain ⟨hlen, rfl⟩ := lset_spec _ _ _ hes
        obtain ⟨W', hset, rfl⟩ := wset_spec h
        have hlt' : ∀ z ∈ es.set i (k, x, bn), below W.n z.1 = true ∧ below W.n z.2.1 = true := by
          intro z hz
          rcases List.mem_or_eq_of_mem_set hz with hz | rfl
          · exact hlt z hz
          · exact ⟨hbk, hbx⟩
        obtain ⟨hrel, hpost⟩ := hr.setObj (o' := .map (es.set i (k, x, bn)) clock false) (x := .map ((es.set i (k, x, bn)).map (entryOf m)).toArray clock) hb rfl hset hlt' hsz (fun heap hh => hh)
        refine ⟨m, _, .skip, ?_, .inr ⟨rfl, rfl⟩, hrel, hpost, rfl⟩
        have hmod : ((es.map (entryOf m)).toArray.modify i fun e => { e with key := rv m k, val := rv m x }) = ((es.set i (k, x, bn)).map (entryOf m)).toArray := by
          apply Array.ext'
          apply List.ext_getElem?
          intro q
          simp only [Array.toList_modify, List.getElem?_modify, List.getElem?_map, List.getElem?_set]
          by_cases hq : i = q
          · subst hq
            have hj' := (List.getElem?_eq_some_iff.1 hj).2
            simp [entryOf, hlen, hj']
          · simp [hq]
        have hkey : ((((es.map (entryOf m)).toArray[i]?).map (·.key)).getD (rv m k)) = rv m k := by
          simp [hj, entryOf]
        unfold Instr.mapUpdate
        simp only [rv, Sem.run_bind, run_underlying hu, Result.andThen_ok, run_getMap ho, h2, h1, found, hkey, hst, hmod, run_setMap ho, Sem.run_pure]
      · simp at h
    · rename_i hfk
      obtain ⟨h1, h2, h3⟩ := key_findKey (P := P) (m := m) hk hfk
      obtain ⟨W', hset, rfl⟩ := wset_spec h
      have hlt' : ∀ z ∈ es ++ [(k, x, clock)], below W.n z.1 = true ∧ below W.n z.2.1 = true := by
        intro z hz
        rcases List.mem_append.1 hz with hz | hz
        · exact hlt z hz
        · simp only [List.mem_singleton] at hz
          subst hz
          exact ⟨hbk, hbx⟩
      obtain ⟨hrel, hpost⟩ := hr.setObj (o' := .map (es ++ [(k, x, clock)]) (clock + 1) false) (x := .map ((es ++ [(k, x, clock)]).map (entryOf m)).toArray (clock + 1)) hb rfl hset hlt' hsz (fun heap hh => hh)
      refine ⟨m, _, .skip, ?_, .inr ⟨rfl, rfl⟩, hrel, hpost, rfl⟩
      have hpush : ((es.map (entryOf m)).toArray.push { key := rv m k, val := rv m x, born := clock }) = ((es ++ [(k, x, clock)]).map (entryOf m)).toArray := by
        apply Array.ext'
        simp [entryOf]
      unfold Instr.mapUpdate
      simp only [rv, Sem.run_bind, run_underlying hu, Result.andThen_ok, run_getMap ho, h2, h1, found, hpush, run_setMap ho, Sem.run_pure]
    · simp at h
  · simp at h

theorem xRngS_ok {ty : TypeId} {x : RV} (hr : Rel m W w) (hu : P.underlying ty = some .string) (h : xRngS W x = some e) : EffOk P m W w (sv (Instr.range ty (rv m x))) e := by
  unfold xRngS at h
  split at h
  · rename_i s
    simp only [Option.some.injEq] at h
    subst h
    obtain ⟨hrel, hpost⟩ := hr.push (o := .siter s 0) (robj := .stringIter s 0) (l := ⟨w.heap.size, 0, 0⟩) rfl (by
      show (w.heap.push _)[w.heap.size]? = some (.stringIter s 0)
      simp) trivial
    refine ⟨_, _, _, run_sv (v := .pointer (some ⟨w.heap.size, 0, none⟩)) ?_, .inl (by simp [rv, upd]), hrel, hpost, ?_⟩
    · simp [Instr.range, run_underlying hu, rv]
    · simp [below, blt_eq, RW.push]
  · simp at h

theorem xRngM_ok {ty kt el : TypeId} {x : RV} (hr : Rel m W w) (hu : P.underlying ty = some (.map kt el)) (h : xRngM W x = some e) : EffOk P m W w (sv (Instr.range ty (rv m x))) e := by
  unfold xRngM at h
  split at h
  · rename_i b es clock ro hm
    obtain ⟨rfl, hb⟩ := mapAt_spec hm
    have ho : w.heap[(m b).blk]? = some (.map (es.map (entryOf m)).toArray clock) := hr.obj b _ hb
    simp only [Option.some.injEq] at h
    subst h
    have hbn : b ≠ W.n := Nat.ne_of_lt (get_lt hb)
    obtain ⟨hrel, hpost⟩ := hr.push (o := .miter b clock [] clock) (robj := .mapIter (some (m b).blk) clock #[] clock) (l := ⟨w.heap.size, 0, 0⟩) rfl (by
      show (w.heap.push _)[w.heap.size]? = some (.mapIter (some (upd m W.n _ b).blk) clock #[] clock)
      simp [upd, hbn]) (Nat.lt_succ_of_lt (get_lt hb))
    refine ⟨_, _, _, run_sv (v := .pointer (some ⟨w.heap.size, 0, none⟩)) ?_, .inl (by simp [rv, upd]), hrel, hpost, ?_⟩
    · simp [Instr.range, run_underlying hu, rv, run_getMap ho]
    · simp [below, blt_eq, RW.push]
  · simp at h
end
end Go.Rv
