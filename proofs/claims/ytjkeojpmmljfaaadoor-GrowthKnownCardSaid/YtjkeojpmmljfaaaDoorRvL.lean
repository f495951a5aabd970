/- append. -/
import Derived.Test.YtjkeojpmmljfaaaDoorRvK
namespace Go.Rv
open Go
variable [Env]
section
variable {P : Program} {m : Nat → Loc} {t : RT} {W : RW} {arr : Array Value} {w : World} {e : Eff}

omit [Env] in
theorem growBy_le (need : Nat) : ∀ (r c : Nat), c ≤ need → Builtin.growBy need r c ≤ need + (need + 768) / 4
  | 0, c, h => by simp only [Builtin.growBy]; omega
  | r + 1, c, h => by
    simp only [Builtin.growBy]
    split
    · omega
    · rename_i hc
      by_cases h2 : c + (c + 768) / 4 ≤ need
      · exact growBy_le need r _ h2
      · have : ∀ r, Builtin.growBy need r (c + (c + 768) / 4) = c + (c + 768) / 4 := by
          intro r
          cases r with
          | zero => rfl
          | succ r => simp only [Builtin.growBy]; rw [if_pos (by omega)]
        rw [this]
        omega

omit [Env] in
theorem nextcap_le (need cap : Nat) (h : cap < need) : Builtin.nextslicecap need cap ≤ 2 * need := by
  unfold Builtin.nextslicecap
  split
  · omega
  · split
    · omega
    · have := growBy_le need 4 cap (by omega)
      omega

/-- what sliceCells says -/
theorem sliceCells_spec (hr : Rel m W w) {size n : Nat} {x : RV} {cs : List RV} (h0 : 0 < size) (h : sliceCells W size x = some (n, cs)) :
    cs.length = n * size ∧ belowC W.n cs = true ∧
    ((x = .v (.slice none 0 0) ∧ n = 0 ∧ cs = []) ∨
      ∃ b o c k, x = .sl b o n size ∧ W.get b = some (.cells c k) ∧ lcut c o (n * size) = some cs ∧
        (loadCells ⟨(m b).blk, (m b).off + o, none⟩ (n * size)).run P w = .ok (cs.map (rv m)).toArray w) := by
  unfold sliceCells at h
  split at h
  · simp only [Option.some.injEq, Prod.mk.injEq] at h
    obtain ⟨rfl, rfl⟩ := h
    exact ⟨by simp, rfl, .inl ⟨rfl, rfl, rfl⟩⟩
  · rename_i b o n' e'
    split at h
    · rename_i he
      subst he
      split at h
      · rename_i c hc
        obtain ⟨k, hb⟩ := cellsAt_spec hc
        split at h
        · rename_i l hl
          simp only [Option.some.injEq, Prod.mk.injEq] at h
          obtain ⟨rfl, rfl⟩ := h
          obtain ⟨h1, h2, h3⟩ := lcut_cells (P := P) hr hb hl
          exact ⟨h3, h2, .inr ⟨b, o, c, k, rfl, hb, hl, h1⟩⟩
        · simp at h
      · simp at h
    · simp at h
  · simp at h

theorem firstCells_run (hr : Rel m W w) {size n : Nat} {x : RV} {cs : List RV} (h0 : 0 < size) (h : sliceCells W size x = some (n, cs)) :
    (Builtin.firstCells size n (rv m x)).run P w = .ok (cs.map (rv m)).toArray w ∧ (Builtin.lenOf (rv m x)).run P w = .ok n w := by
  obtain ⟨h1, h2, h3⟩ := sliceCells_spec (P := P) hr h0 h
  rcases h3 with ⟨rfl, rfl, rfl⟩ | ⟨b, o, c, k, rfl, hb, hl, hrun⟩
  · exact ⟨rfl, rfl⟩
  · exact ⟨hrun, rfl⟩

omit [Env] in
theorem zeroCells_size (z : Array Value) (n : Nat) : (Builtin.zeroCells z n).size = n * z.size := by
  simp [Builtin.zeroCells]

theorem rv_slice {size n : Nat} {x : RV} {cs : List RV} (hr : Rel m W w) (h0 : 0 < size) (h : sliceCells W size x = some (n, cs)) :
    ∃ base cap, rv m x = .slice base n cap ∧ ((base = none ∧ n = 0 ∧ cap = 0 ∧ x = .v (.slice none 0 0)) ∨
      ∃ b o c k, x = .sl b o n size ∧ W.get b = some (.cells c k) ∧ lcut c o (n * size) = some cs ∧ base = some ⟨(m b).blk, (m b).off + o, none⟩ ∧ cap = ((m b).cap - ((m b).off + o)) / size) := by
  obtain ⟨h1, h2, h3⟩ := sliceCells_spec (P := default) hr h0 h
  rcases h3 with ⟨rfl, rfl, rfl⟩ | ⟨b, o, c, k, rfl, hb, hl, hrun⟩
  · exact ⟨_, _, rfl, .inl ⟨rfl, rfl, rfl, rfl⟩⟩
  · exact ⟨_, _, rfl, .inr ⟨b, o, c, k, rfl, hb, hl, rfl, rfl⟩⟩

omit [Env] in
/-- the run of an append that makes a new row -/
theorem append_new {ty tx aty el el2 : TypeId} {inf : TypeInfo} {z : Value} {n k cap : Nat} {base : Option Addr} {x : Value} {old new : Array Value}
    (hu : P.underlying ty = some (.slice el)) (hux : P.underlying tx = some (.slice el2)) (hi : P.info? el = some inf) (hz : inf.zero = some z)
    (hlen : (Builtin.lenOf x).run P w = .ok k w) (hold : ∀ w' : World, w'.heap = w.heap → (Builtin.firstCells inf.size n (.slice base n cap)).run P w' = .ok old w') (hnew : ∀ w' : World, w'.heap = w.heap → (Builtin.firstCells inf.size k x).run P w' = .ok new w')
    (hneed : cap < n + k) (hb : (n + k) * 2 * (inf.bytes + 1) ≤ 1099511627776) :
    ∃ cap' d, n + k ≤ cap' ∧ (Builtin.append_ #[ty, tx] aty #[.slice base n cap, x]).run P w =
      .ok (.slice (some ⟨w.heap.size, 0, none⟩) (n + k) cap') { w with heap := w.heap.push (.cells (old ++ new ++ Builtin.zeroCells z.cells (cap' - (n + k))) el), drawn := d } := by
  have h1 : ¬ (n + k ≤ cap) := by omega
  have hbm : (n + k) * 2 * inf.bytes + (n + k) * 2 ≤ 1099511627776 := by rw [Nat.mul_add, Nat.mul_one] at hb; exact hb
  have h2 : ¬ ((n + k : Nat) : Int) > IntKind.i64.max := by rw [IntKind.max_i64]; omega
  have h3 : ¬ (Builtin.nextslicecap (n + k) cap * inf.bytes > 2 ^ 48) := by
    have := nextcap_le (n + k) cap hneed
    have := Nat.mul_le_mul_right inf.bytes this
    rw [Nat.mul_comm 2 (n + k)] at this
    omega
  let q : Question := .appendCap (n + k) cap el
  refine ⟨q.cut (w.tape w.drawn q), w.drawn + 1, Nat.le_add_right _ _, ?_⟩
  have ho := hold w.drew rfl
  have hn := hnew w.drew rfl
  have h2' : ¬ (9223372036854775807 < (n : Int) + (k : Int) ∧ inf.bytes = 0) := by
    rw [IntKind.max_i64] at h2
    intro hh
    omega
  have h3' : ¬ (281474976710656 < Builtin.nextslicecap (n + k) cap * inf.bytes) := by simpa using h3
  unfold Builtin.append_
  simp [run_underlying hu, run_underlying hux, run_size hi, hlen, h1, typeInfo, hi, h2', h3', Question.forced, ho, hn, zeroValue, hz, newRow, q]
  rfl

omit [Env] in
theorem append_fits {ty tx aty el el2 : TypeId} {inf : TypeInfo} {n k cap : Nat} {base : Option Addr} {x : Value} {new : Array Value} {w' : World}
    (hu : P.underlying ty = some (.slice el)) (hux : P.underlying tx = some (.slice el2)) (hi : P.info? el = some inf)
    (hlen : (Builtin.lenOf x).run P w = .ok k w) (hnew : (Builtin.firstCells inf.size k x).run P w = .ok new w)
    (hneed : n + k ≤ cap) (hst : ∀ a, base = some a → (storeCells (a.add (n * inf.size)) new.toList).run P w = .ok () w') (hn : base = none → w' = w) :
    (Builtin.append_ #[ty, tx] aty #[.slice base n cap, x]).run P w = .ok (.slice base (n + k) cap) w' := by
  unfold Builtin.append_
  cases base with
  | none =>
    have := hn rfl
    subst this
    simp [run_underlying hu, run_underlying hux, run_size hi, hlen, hneed, hnew]
  | some a => simp [run_underlying hu, run_underlying hux, run_size hi, hlen, hneed, hnew, hst a rfl]

theorem Rel.drop_post (_h : Rel m W w) {W1 : RW} {b : Nat} (hs : W.set b .dead = some W1) (hw : W.wf) : Post m W w m W1 w := by
  obtain ⟨h1, h2, h3, h4⟩ := set_spec hs
  refine ⟨fun _ _ => rfl, by omega, Nat.le_refl _, fun _ _ _ => rfl, ?_, rfl, rfl, rfl⟩
  intro a x ha hx
  rw [h4 hw] at ha
  by_cases hab : a = b
  · rw [if_pos hab] at ha
    simp only [Option.some.injEq] at ha
    subst ha
    simp [RObj.own] at hx
  · rw [if_neg hab] at ha
    exact .inr ⟨a, x, ha, hx, rfl⟩

/-- a new row behind what was spent -/
theorem push_row (hr : Rel m W w) {cs : List RV} (hc : belowC W.n cs = true) {vals : Array Value} {rest : Array Value} {el cap : Nat} (hv : vals.toList = cs.map (rv m)) (hcap : cs.length ≤ cap) (hsz : cap ≤ (vals ++ rest).size) (d : Nat) :
    Rel (upd m W.n ⟨w.heap.size, 0, cap⟩) (W.push (.cells cs .gr)) { w with heap := w.heap.push (.cells (vals ++ rest) el), drawn := d } ∧
    Post m W w (upd m W.n ⟨w.heap.size, 0, cap⟩) (W.push (.cells cs .gr)) { w with heap := w.heap.push (.cells (vals ++ rest) el), drawn := d } := by
  obtain ⟨h1, h2⟩ := hr.push (o := .cells cs .gr) (robj := .cells (vals ++ rest) el) (l := ⟨w.heap.size, 0, cap⟩) rfl (by
    refine ⟨vals ++ rest, el, (0, 0), by simp, ?_, fun _ => rfl, by simpa using hcap, hsz, by simp⟩
    intro j x hj
    have hx := ((belowC_iff W.n cs).1 hc x (List.mem_of_getElem? hj)).2
    have hlen : vals.size = cs.length := by rw [← Array.length_toList, hv, List.length_map]
    have hjl : j < cs.length := (List.getElem?_eq_some_iff.1 hj).1
    rw [rv_agree (agree_upd _ _ _) x hx, Nat.zero_add, Array.getElem?_append_left (by omega), ← Array.getElem?_toList, hv, List.getElem?_map, hj]
    rfl) (belowC_mono (Nat.le_succ _) _ hc)
  exact ⟨h1.same rfl, ⟨h2.ag, h2.mono, h2.size, h2.keep, h2.own, rfl, rfl, rfl⟩⟩

theorem xApp_ok {ty tx aty el el2 : TypeId} {inf : TypeInfo} {z : List RV} {s x : RV} (hr : Rel m W w) (hu : P.underlying ty = some (.slice el)) (hux : P.underlying tx = some (.slice el2)) (hi : P.info? el = some inf) (hz : zeroCells inf = some z)
    (h0 : 0 < inf.size ∧ z.length = inf.size) (hbs : below W.n s = true) (h : xApp W inf.size inf.bytes s x = some e) : EffOk P m W w (sv (Builtin.append_ #[ty, tx] aty #[rv m s, rv m x])) e := by
  obtain ⟨zv, z1, rfl, z3⟩ := zeroCells_spec hz
  have hzs : zv.cells.size = inf.size := by rw [← h0.2]; simp
  unfold xApp at h
  split at h
  · rename_i n cs k ds hs hx
    obtain ⟨hcl, hcb, hcs⟩ := sliceCells_spec (P := P) hr h0.1 hs
    obtain ⟨hdl, hdb, _⟩ := sliceCells_spec (P := P) hr h0.1 hx
    obtain ⟨f1, f2⟩ := firstCells_run (P := P) hr h0.1 hx
    obtain ⟨base, cap, hsv, hbase⟩ := rv_slice hr h0.1 hs
    have hncap : n ≤ cap := by
      rcases hbase with ⟨_, rfl, rfl, _⟩ | ⟨b, o, c, kd, rfl, hb, hl, rfl, rfl⟩
      · exact Nat.le_refl _
      · obtain ⟨arr', ty', fz, _, _, _, q4, q5, _⟩ := hr.obj b _ hb
        obtain ⟨l1, _⟩ := lcut_spec hl
        rw [Nat.le_div_iff_mul_le h0.1]
        omega
    have hfirst : ∀ w' : World, w'.heap = w.heap → (Builtin.firstCells inf.size k (rv m x)).run P w' = .ok (ds.map (rv m)).toArray w' := fun w' hw => (firstCells_run (P := P) (hr.same hw) h0.1 hx).1
    have holdc : ∀ w' : World, w'.heap = w.heap → (Builtin.firstCells inf.size n (.slice base n cap)).run P w' = .ok (cs.map (rv m)).toArray w' := fun w' hw => by
      rw [← hsv]; exact (firstCells_run (P := P) (hr.same hw) h0.1 hs).1
    have hvals : ((cs.map (rv m)).toArray ++ (ds.map (rv m)).toArray).toList = (cs ++ ds).map (rv m) := by simp
    have hcdl : (cs ++ ds).length = (n + k) * inf.size := by rw [List.length_append, hcl, hdl, Nat.add_mul]
    split at h
    · rename_i hk
      have hk0 : k = 0 := Nat.eq_of_beq_eq_true hk
      subst hk0
      simp only [Option.some.injEq] at h
      subst h
      have hds : ds = [] := List.eq_nil_of_length_eq_zero (by rw [hdl]; simp)
      refine ⟨m, w, _, run_sv (v := rv m s) ?_, .inl rfl, hr, Post.refl _ _ _, hbs⟩
      rw [hsv]
      have := append_fits (P := P) (w := w) (w' := w) (aty := aty) (n := n) (cap := cap) (base := base) hu hux hi f2 f1 (by omega) (fun a _ => by subst hds; rfl) (fun _ => rfl)
      simpa using this
    · rename_i hk
      split at h
      · rename_i hbd
        have hbd' : (n + k) * 2 * (inf.bytes + 1) ≤ 1099511627776 := Nat.le_of_ble_eq_true hbd
        split at h
        · rename_i W1 hsp
          rw [fnat_eq] at h
          simp only [Option.some.injEq] at h
          subst h
          -- a new row, over the memory that is left
          have fresh : Rel m W1 w → Post m W w m W1 w → W1.n = W.n → cap < n + k → EffOk P m W w (sv (Builtin.append_ #[ty, tx] aty #[rv m s, rv m x])) (.wr (.sl W1.n 0 (n + k) inf.size) (W1.push (.cells (cs ++ ds) .gr))) := by
            intro hr1 hp1 hn1 hlt
            obtain ⟨cap', d, hc1, hrun⟩ := append_new (P := P) (w := w) (aty := aty) hu hux hi z1 f2 holdc hfirst hlt hbd'
            obtain ⟨g1, g2⟩ := push_row hr1 (cs := cs ++ ds) (by rw [hn1]; exact belowC_append hcb hdb) (vals := (cs.map (rv m)).toArray ++ (ds.map (rv m)).toArray) (rest := Builtin.zeroCells zv.cells (cap' - (n + k))) (el := el) (cap := cap' * inf.size) hvals
              (by rw [hcdl]; exact Nat.mul_le_mul_right _ hc1) (by
                rw [Array.size_append, ← Array.length_toList, hvals, List.length_map, hcdl, zeroCells_size, hzs, ← Nat.add_mul]
                exact Nat.mul_le_mul_right _ (by omega)) d
            refine ⟨_, _, _, run_sv (by rw [hsv]; exact hrun), .inl ?_, g1, hp1.trans g2, by simp [below, blt_eq, RW.push]⟩
            simp [rv, upd, Nat.mul_div_cancel _ h0.1]
          rcases hbase with ⟨rfl, rfl, rfl, rfl⟩ | ⟨b, o, c, kd, rfl, hb, hl, rfl, hcap⟩
          · simp only [spent, Option.some.injEq] at hsp
            subst hsp
            exact fresh hr (Post.refl _ _ _) rfl (by
              have : k ≠ 0 := fun e => hk (by rw [e]; rfl)
              omega)
          · simp only [spent, hb] at hsp
            obtain ⟨arr', ty', fz, q1, q2, q3, q4, q5, q6⟩ := hr.obj b _ hb
            obtain ⟨l1, l2⟩ := lcut_spec hl
            cases kd with
            | ro => simp at hsp
            | ex =>
              simp only at hsp
              split at hsp
              · rename_i hnf
                simp only [Option.some.injEq] at hsp
                subst hsp
                rw [blt_eq, decide_eq_true_eq] at hnf
                refine fresh hr (Post.refl _ _ _) rfl ?_
                rw [hcap, Nat.div_lt_iff_lt_mul h0.1]
                have := q6 rfl
                omega
              · simp at hsp
            | gr =>
              simp only at hsp
              have hr1 := hr.drop hsp
              have hp1 := hr.drop_post hsp hr.wf
              obtain ⟨s1, s2, s3, s4⟩ := set_spec hsp
              have s4 := s4 hr.wf
              by_cases hlt : cap < n + k
              · exact fresh hr1 hp1 s1 hlt
              · -- in place
                have hfz := q3 (by simp)
                subst hfz
                have hend : (m b).off + o + (n + k) * inf.size ≤ (m b).cap := by
                  have h1 : n + k ≤ ((m b).cap - ((m b).off + o)) / inf.size := by rw [← hcap]; omega
                  rw [Nat.le_div_iff_mul_le h0.1] at h1
                  have : 0 < (n + k) * inf.size := Nat.mul_pos (by
                    have : k ≠ 0 := fun e => hk (by rw [e]; rfl)
                    omega) h0.1
                  omega
                have hnk : (n + k) * inf.size = n * inf.size + k * inf.size := Nat.add_mul _ _ _
                have hdv : ∀ v ∈ ds.map (rv m), v.oneCell' = true := by
                  intro v hv
                  obtain ⟨y, hy, rfl⟩ := List.mem_map.1 hv
                  exact oneB_cell ((belowC_iff W.n ds).1 hdb y hy).1
                have hrun := run_storeCells_at (P := P) (m b).blk ((m b).off + o + n * inf.size) ty' (ds.map (rv m)) 0 arr' w q1 (by simp [hdl]; omega) hdv
                simp only [Nat.add_zero] at hrun
                have hrow := append_fits (P := P) (w := w) (aty := aty) (n := n) (cap := cap) (base := some ⟨(m b).blk, (m b).off + o, none⟩) hu hux hi f2 f1 (by omega) (w' := _) (fun a ha => by
                  simp only [Option.some.injEq] at ha
                  subst ha
                  rw [add_none]
                  exact hrun) (fun hh => by simp at hh)
                have hoth : ∀ a y, W1.get a = some y → y.live = true → (m b).blk ≠ (m a).blk := by
                  intro a y ha hy
                  rw [s4] at ha
                  by_cases hab : a = b
                  · rw [if_pos hab] at ha
                    simp only [Option.some.injEq] at ha
                    subst ha
                    simp [RObj.live] at hy
                  · rw [if_neg hab] at ha
                    exact hr.inj b a _ y hb ha rfl hy (Ne.symm hab)
                have hup : ∀ a y, W1.get a = some y → upd m W1.n ⟨(m b).blk, (m b).off + o, (m b).cap⟩ a = m a := fun a y ha => by simp [upd, Nat.ne_of_lt (get_lt ha)]
                refine ⟨upd m W1.n ⟨(m b).blk, (m b).off + o, (m b).cap⟩, w.setRow (m b).blk (arr'.toList.take ((m b).off + o + n * inf.size) ++ ds.map (rv m) ++ arr'.toList.drop ((m b).off + o + n * inf.size + (ds.map (rv m)).length)).toArray, _, run_sv (by rw [hsv]; exact hrow), .inl ?_, ⟨wf_push hr1.wf _, ?_, ?_, ?_, fun i g hi => ⟨Nat.lt_succ_of_lt (hr1.glb i g hi).1, by rw [agree_upd m W1.n _ i (hr1.glb i g hi).1]; exact (hr1.glb i g hi).2⟩⟩, ⟨?_, ?_, by simp, ?_, ?_, rfl, rfl, rfl⟩, by simp [below, blt_eq, RW.push]⟩
                · simp [rv, upd, hcap]
                · intro a y ha
                  rw [get_push] at ha
                  by_cases han : a = W1.n
                  · rw [if_pos han] at ha
                    simp only [Option.some.injEq] at ha
                    subst ha
                    have hma : upd m W1.n ⟨(m b).blk, (m b).off + o, (m b).cap⟩ a = ⟨(m b).blk, (m b).off + o, (m b).cap⟩ := by simp [upd, han]
                    rw [hma]
                    refine ⟨_, ty', (0, 0), setRow_heap w _ _ _ _ _ q1, ?_, fun _ => rfl, by rw [hcdl]; exact hend, ?_, by simp⟩
                    · intro j y hj
                      have hy : below W.n y = true := ((belowC_iff W.n _).1 (belowC_append hcb hdb) y (List.mem_of_getElem? hj)).2
                      rw [rv_agree (n := W1.n) (agree_upd _ _ _) y (by rw [s1]; exact hy)]
                      have htl : (arr'.toList.take ((m b).off + o + n * inf.size)).length = (m b).off + o + n * inf.size := by rw [List.length_take, Array.length_toList]; omega
                      simp only [List.getElem?_toArray, List.append_assoc]
                      by_cases hjn : j < n * inf.size
                      · rw [List.getElem?_append_left (by omega)] at hj
                        rw [List.getElem?_append_left (by omega), List.getElem?_take, if_pos (by omega)]
                        subst l2
                        rw [List.getElem?_take, if_pos hjn, List.getElem?_drop] at hj
                        have := q2 (o + j) y hj
                        rw [← Nat.add_assoc] at this
                        simpa using this
                      · rw [List.getElem?_append_right (by omega), hcl] at hj
                        have hjk : j - n * inf.size < ds.length := (List.getElem?_eq_some_iff.1 hj).1
                        rw [List.getElem?_append_right (by omega), htl, List.getElem?_append_left (by rw [List.length_map]; omega)]
                        have e1 : (m b).off + o + j - ((m b).off + o + n * inf.size) = j - n * inf.size := by omega
                        rw [e1, List.getElem?_map, hj]
                        rfl
                    · simp [hdl]
                      omega
                  · rw [if_neg han] at ha
                    rw [hup a y ha]
                    refine ((hr1.obj a y ha).agree (hr1.lt a y ha) (agree_upd _ _ _)).heap fun hlv => ?_
                    exact setRow_other w _ _ _ (hoth a y ha hlv).symm
                · intro a y ha
                  rw [get_push] at ha
                  by_cases han : a = W1.n
                  · rw [if_pos han] at ha
                    simp only [Option.some.injEq] at ha
                    subst ha
                    exact belowC_mono (by simp [RW.push]; omega) _ (belowC_append hcb hdb)
                  · rw [if_neg han] at ha
                    exact RObj.lt_mono (Nat.le_succ _) (hr1.lt a y ha)
                · intro a c' y1 y2 ha hc' hy1 hy2 hac
                  rw [get_push] at ha hc'
                  by_cases han : a = W1.n
                  · by_cases hcn : c' = W1.n
                    · omega
                    · rw [if_neg hcn] at hc'
                      rw [hup c' y2 hc']
                      simp only [upd, han, if_true]
                      exact hoth c' y2 hc' hy2
                  · rw [if_neg han] at ha
                    by_cases hcn : c' = W1.n
                    · rw [hup a y1 ha]
                      simp only [upd, hcn, if_true]
                      exact (hoth a y1 ha (own_live hy1)).symm
                    · rw [if_neg hcn] at hc'
                      rw [hup a y1 ha, hup c' y2 hc']
                      exact hr1.inj a c' y1 y2 ha hc' hy1 hy2 hac
                · rw [← s1]; exact agree_upd _ _ _
                · simp [RW.push]; omega
                · intro r hr' hnr
                  exact setRow_other w _ _ _ fun hh => hnr b _ hb rfl hh.symm
                · intro a y ha hy
                  rw [get_push] at ha
                  by_cases han : a = W1.n
                  · exact .inr ⟨b, _, hb, rfl, by simp [upd, han]⟩
                  · rw [if_neg han] at ha
                    rw [s4] at ha
                    by_cases hab : a = b
                    · rw [if_pos hab] at ha
                      simp only [Option.some.injEq] at ha
                      subst ha
                      simp [RObj.own] at hy
                    · rw [if_neg hab] at ha
                      exact .inr ⟨a, y, ha, hy, by simp [upd, han]⟩
        · simp at h
      · simp at h
  · simp at h
end
end Go.Rv
