/- Operations on memory: loads, stores, addresses. -/
import Derived.Test.YtgchcfhbcaemoabGreatDoorRvD
import Derived.Laws.Tables
import Derived.Laws.MakeOwn
namespace Go.Rv
open Go
variable [Env]
section
variable {P : Program} {m : Nat → Loc} {t : RT} {W : RW} {arr : Array Value} {w : World} {e : Eff}

omit [Env] in
theorem cellsAt_spec {b : Nat} {c : List RV} (h : cellsAt W b = some c) : ∃ k, W.get b = some (.cells c k) := by
  unfold cellsAt at h
  split at h
  · rename_i c' k hg
    exact ⟨k, by rw [hg, Option.some.inj h]⟩
  · simp at h

theorem Rel.cell (h : Rel m W w) {b j : Nat} {c : List RV} {k : Kd} {x : RV} (hb : W.get b = some (.cells c k)) (hj : c[j]? = some x) :
    w.cell? ⟨(m b).blk, (m b).off + j, none⟩ = some (rv m x) := by
  obtain ⟨arr, ty, fz, h1, h2, _⟩ := h.obj b _ hb
  simp [World.cell?, h1, h2 j x hj]

theorem Rel.cellLt (h : Rel m W w) {b j : Nat} {c : List RV} {k : Kd} {x : RV} (hb : W.get b = some (.cells c k)) (hj : c[j]? = some x) : oneB x = true ∧ below W.n x = true :=
  (belowC_iff W.n c).1 (h.lt b _ hb) x (List.mem_of_getElem? hj)

omit [Env] in
theorem run_isAgg {ty : TypeId} {b : Bool} (h : isAggB P ty = some b) (w : World) : (isAgg ty).run P w = .ok b w := by
  unfold isAggB at h
  cases hu : P.underlying ty with
  | none => rw [hu] at h; simp at h
  | some d =>
    rw [hu] at h
    simp only [isAgg, Sem.run_bind, run_underlying hu, Result.andThen]
    cases d <;> simp_all

omit [Env] in
theorem run_size {ty : TypeId} {i : TypeInfo} (h : P.info? ty = some i) (w : World) : (sizeOf ty).run P w = .ok i.size w := by
  simp [sizeOf, typeInfo, h]

omit [Env] in
theorem add_none (b o n : Nat) : (⟨b, o, none⟩ : Addr).add n = ⟨b, o + n, none⟩ := by
  unfold Addr.add
  split
  · subst_vars; rfl
  · rfl

theorem xLd1_ok {ty : TypeId} {a : RV} (hr : Rel m W w) (hg : isAggB P ty = some false) (h : xLd1 W a = some e) : EffOk P m W w (sv (Instr.loadAt ty (rv m a))) e := by
  unfold xLd1 at h
  split at h
  · rename_i b o
    split at h
    · rename_i c hc
      obtain ⟨k, hb⟩ := cellsAt_spec hc
      rw [lget_eq] at h
      cases hx : c[o]? with
      | none => rw [hx] at h; simp [oval] at h
      | some x =>
        rw [hx] at h
        simp only [oval, Option.some.injEq] at h
        subst h
        refine effOk_val (hr.cellLt hb hx).2 ?_
        simp only [rv, Instr.loadAt, Instr.sureAddr, loadVar, Sem.run_bind, Sem.run_pure, Result.andThen, run_isAgg hg]
        simp only [Bool.false_eq_true, if_false, run_load, hr.cell hb hx]
    · simp at h
  · simp at h

theorem lcut_cells (hr : Rel m W w) {b o n : Nat} {c l : List RV} {k : Kd} (hb : W.get b = some (.cells c k)) (hl : lcut c o n = some l) :
    (loadCells ⟨(m b).blk, (m b).off + o, none⟩ n).run P w = .ok (l.map (rv m)).toArray w ∧ belowC W.n l = true ∧ l.length = n := by
  obtain ⟨h1, h2⟩ := lcut_spec hl
  have hlen : l.length = n := by subst h2; simp; omega
  have hget : ∀ j x, l[j]? = some x → c[o + j]? = some x := by
    intro j x hj
    subst h2
    rw [List.getElem?_take] at hj
    split at hj
    · rw [List.getElem?_drop] at hj; exact hj
    · simp at hj
  refine ⟨?_, ?_, hlen⟩
  · have := run_loadCells_list (P := P) w ⟨(m b).blk, (m b).off + o, none⟩ (l.map (rv m)) (by
      intro j v hj
      rw [List.getElem?_map] at hj
      cases hx : l[j]? with
      | none => rw [hx] at hj; simp at hj
      | some x =>
        rw [hx] at hj
        simp only [Option.map_some, Option.some.injEq] at hj
        subst hj
        rw [add_none, Nat.add_assoc]
        exact hr.cell hb (hget j x hx))
    rwa [List.length_map, hlen] at this
  · rw [belowC_iff]
    intro x hx
    obtain ⟨j, hj⟩ := List.mem_iff_getElem?.1 hx
    exact hr.cellLt hb (hget j x hj)

theorem xLdn_ok {ty : TypeId} {i : TypeInfo} {a : RV} (hr : Rel m W w) (hg : isAggB P ty = some true) (hi : P.info? ty = some i) (h : xLdn W i.size a = some e) :
    EffOk P m W w (sv (Instr.loadAt ty (rv m a))) e := by
  unfold xLdn at h
  split at h
  · rename_i b o
    split at h
    · rename_i c hc
      obtain ⟨k, hb⟩ := cellsAt_spec hc
      split at h
      · rename_i l hl
        simp only [Option.some.injEq] at h
        subst h
        obtain ⟨h1, h2, h3⟩ := lcut_cells (P := P) hr hb hl
        refine effOk_val (by simpa [below] using h2) ?_
        simp only [rv, Instr.loadAt, Instr.sureAddr, loadVar, Sem.run_bind, Sem.run_pure, Result.andThen, run_isAgg hg, if_true, run_size hi, h1, rvL_eq]
      · simp at h
    · simp at h
  · simp at h

theorem setRow_rel (hr : Rel m W w) {b o : Nat} {c c' ys : List RV} {k : Kd} {W' : RW} (hb : W.get b = some (.cells c k)) (hk : k ≠ .ro ∧ k ≠ .rx) (hp : lput c o ys = some c') (hs : W.set b (.cells c' k) = some W')
    (hy : belowC W.n ys = true) :
    ∃ w', (∀ P, (storeCells ⟨(m b).blk, (m b).off + o, none⟩ (ys.map (rv m)) 0).run P w = .ok () w') ∧ Rel m W' w' ∧ Post m W w m W' w' := by
  obtain ⟨arr, ty, fz, h1, h2, h3, h4, h5, h6, h7⟩ := hr.obj b _ hb
  have hfz := h3 hk.1 hk.2
  subst hfz
  obtain ⟨hle, _⟩ := lput_spec _ _ _ hp
  have hlen := lput_length hp
  have hy1 : ∀ v ∈ ys.map (rv m), v.oneCell' = true := by
    intro v hv
    obtain ⟨x, hx, rfl⟩ := List.mem_map.1 hv
    exact oneB_cell ((belowC_iff W.n ys).1 hy x hx).1
  have hrun := fun P => run_storeCells_at (P := P) (m b).blk ((m b).off + o) ty (ys.map (rv m)) 0 arr w h1 (by simp; omega) hy1
  refine ⟨_, hrun, ?_⟩
  have hown : (RObj.cells c k).own = true := by cases k <;> simp_all [RObj.own]
  refine hr.set hb hown hs (fun r hne => setRow_other w _ r _ hne) (setRow_size w _ _) ?_ ?_ rfl rfl rfl
  · refine ⟨_, ty, (0, 0), setRow_heap w _ _ _ _ _ h1, ?_, fun _ _ => rfl, by omega, ?_, by rw [hlen]; exact h6, ?_⟩
    · intro j x hj
      rw [lput_get hp] at hj
      simp only [Nat.add_zero, List.length_map, List.getElem?_toArray, List.append_assoc]
      by_cases hin : o ≤ j ∧ j < o + ys.length
      · rw [if_pos hin] at hj
        rw [List.getElem?_append_right (by simp; omega), List.getElem?_append_left (by simp; omega)]
        have e : (m b).off + j - (arr.toList.take ((m b).off + o)).length = j - o := by simp; omega
        rw [e, List.getElem?_map, hj]
        rfl
      · rw [if_neg hin] at hj
        have h7 := h2 j x hj
        by_cases hlt : j < o
        · rw [List.getElem?_append_left (by simp; omega), List.getElem?_take, if_pos (by omega)]
          simpa using h7
        · rw [List.getElem?_append_right (by simp; omega), List.getElem?_append_right (by simp; omega), List.getElem?_drop]
          have e : (m b).off + o + ys.length + ((m b).off + j - (arr.toList.take ((m b).off + o)).length - (ys.map (rv m)).length) = (m b).off + j := by simp; omega
          rw [e]
          simpa using h7
    · simp
      omega
    · rw [hlen]
      cases k with
      | bd t => exact ⟨h7.1, h7.2.1, by
          have := h7.2.2
          simp
          omega⟩
      | gy t => exact h7
      | _ => trivial
  · show belowC W.n c' = true
    rw [belowC_iff]
    intro x hx
    obtain ⟨j, hj⟩ := List.mem_iff_getElem?.1 hx
    rw [lput_get hp] at hj
    split at hj
    · exact (belowC_iff W.n ys).1 hy x (List.mem_of_getElem? hj)
    · exact hr.cellLt hb hj

omit [Env] in
theorem cellsOf_below {x : RV} {n : Nat} (h : below n x = true) (h1 : flatB x = true) : belowC n (cellsOf x) = true := by
  cases x with
  | agg cs => simpa [below, cellsOf] using h
  | _ => simp_all [belowC, cellsOf, flatB]

theorem xSt_ok {ty : TypeId} {i : TypeInfo} {a x : RV} (hr : Rel m W w) (hi : P.info? ty = some i) (hx : below W.n x = true) (h : xSt W i.size a x = some e) :
    EffOk P m W w (do Instr.storeAt ty (rv m a) (rv m x); pure .skip) e := by
  unfold xSt at h
  split at h
  · rename_i b o
    split at h
    · rename_i hf
      have hf' : flatB x = true ∧ (cellsOf x).length = i.size := by
        simp only [Bool.and_eq_true] at hf
        exact ⟨hf.1, Nat.eq_of_beq_eq_true hf.2⟩
      unfold storeAt at h
      split at h
      · rename_i c k hb
        split at h
        · simp at h
        · simp at h
        · rename_i hk hk2
          split at h
          · rename_i c' hp
            split at h
            · rename_i W' hs
              simp only [Option.some.injEq] at h
              subst h
              obtain ⟨w', h1, h2, h3⟩ := setRow_rel hr hb ⟨fun e => hk e, fun e => hk2 e⟩ hp hs (cellsOf_below hx hf'.1)
              refine ⟨m, w', .skip, ?_, .inr ⟨rfl, rfl⟩, h2, h3, rfl⟩
              have hc := cells_rv m hx
              have hsz : (rv m x).cells.size = i.size := by
                rw [← Array.length_toList, hc, List.length_map]; exact hf'.2
              simp only [rv, Instr.storeAt, Instr.sureAddr, storeVar, Sem.run_bind, Sem.run_pure, Result.andThen, run_size hi, hsz, ne_eq, not_true_eq_false, if_false, hc, h1 P]
            · simp at h
          · simp at h
      · simp at h
    · simp at h
  · simp at h
end
end Go.Rv
