/- append. -/
import Derived.Test.YtgchcfhbcaemoabGreatDoorRvK
import Derived.Lib.ConvBytes
import Derived.Lib.AppendZeros
namespace Go.Rv
open Go
variable [Env]
section
variable {P : Program} {m : Nat → Loc} {t : RT} {W : RW} {arr : Array Value} {w : World} {e : Eff}

omit [Env] in
theorem growBy_le (need : Nat) : ∀ (r c : Nat), c ≤ need → Builtin.growBy need r c ≤ need + (need + 768) / 4
  | 0, c, h => by simp only [Builtin.growBy]; omega
  | r + 1, c, h => by
    simp only [Builtin.growBy]
    split
    · omega
    · rename_i hc
      by_cases h2 : c + (c + 768) / 4 ≤ need
      · exact growBy_le need r _ h2
      · have : ∀ r, Builtin.growBy need r (c + (c + 768) / 4) = c + (c + 768) / 4 := by
          intro r
          cases r with
          | zero => rfl
          | succ r => simp only [Builtin.growBy]; rw [if_pos (by omega)]
        rw [this]
        omega

omit [Env] in
theorem nextcap_le (need cap : Nat) (h : cap < need) : Builtin.nextslicecap need cap ≤ 2 * need := by
  unfold Builtin.nextslicecap
  split
  · omega
  · split
    · omega
    · have := growBy_le need 4 cap (by omega)
      omega

/-- what sliceCells says -/
theorem sliceCells_spec (hr : Rel m W w) {size n : Nat} {x : RV} {cs : List RV} (h0 : 0 < size) (h : sliceCells W size x = some (n, cs)) :
    cs.length = n * size ∧ belowC W.n cs = true ∧
    ((x = .v (.slice none 0 0) ∧ n = 0 ∧ cs = []) ∨
      ∃ b o c k, x = .sl b o n size ∧ W.get b = some (.cells c k) ∧ lcut c o (n * size) = some cs ∧
        (loadCells ⟨(m b).blk, (m b).off + o, none⟩ (n * size)).run P w = .ok (cs.map (rv m)).toArray w) := by
  unfold sliceCells at h
  split at h
  · simp only [Option.some.injEq, Prod.mk.injEq] at h
    obtain ⟨rfl, rfl⟩ := h
    exact ⟨by simp, rfl, .inl ⟨rfl, rfl, rfl⟩⟩
  · rename_i b o n' e'
    split at h
    · rename_i he
      subst he
      split at h
      · rename_i c hc
        obtain ⟨k, hb⟩ := cellsAt_spec hc
        split at h
        · rename_i l hl
          simp only [Option.some.injEq, Prod.mk.injEq] at h
          obtain ⟨rfl, rfl⟩ := h
          obtain ⟨h1, h2, h3⟩ := lcut_cells (P := P) hr hb hl
          exact ⟨h3, h2, .inr ⟨b, o, c, k, rfl, hb, hl, h1⟩⟩
        · simp at h
      · simp at h
    · simp at h
  · simp at h

theorem firstCells_run (hr : Rel m W w) {size n : Nat} {x : RV} {cs : List RV} (h0 : 0 < size) (h : sliceCells W size x = some (n, cs)) :
    (Builtin.firstCells size n (rv m x)).run P w = .ok (cs.map (rv m)).toArray w ∧ (Builtin.lenOf (rv m x)).run P w = .ok n w := by
  obtain ⟨h1, h2, h3⟩ := sliceCells_spec (P := P) hr h0 h
  rcases h3 with ⟨rfl, rfl, rfl⟩ | ⟨b, o, c, k, rfl, hb, hl, hrun⟩
  · exact ⟨rfl, rfl⟩
  · exact ⟨hrun, rfl⟩

omit [Env] in
theorem zeroCells_size (z : Array Value) (n : Nat) : (Builtin.zeroCells z n).size = n * z.size := by
  simp [Builtin.zeroCells]

theorem rv_slice {size n : Nat} {x : RV} {cs : List RV} (hr : Rel m W w) (h0 : 0 < size) (h : sliceCells W size x = some (n, cs)) :
    ∃ base cap, rv m x = .slice base n cap ∧ ((base = none ∧ n = 0 ∧ cap = 0 ∧ x = .v (.slice none 0 0)) ∨
      ∃ b o c k, x = .sl b o n size ∧ W.get b = some (.cells c k) ∧ lcut c o (n * size) = some cs ∧ base = some ⟨(m b).blk, (m b).off + o, none⟩ ∧ cap = ((m b).cap - ((m b).off + o)) / size) := by
  obtain ⟨h1, h2, h3⟩ := sliceCells_spec (P := default) hr h0 h
  rcases h3 with ⟨rfl, rfl, rfl⟩ | ⟨b, o, c, k, rfl, hb, hl, hrun⟩
  · exact ⟨_, _, rfl, .inl ⟨rfl, rfl, rfl, rfl⟩⟩
  · exact ⟨_, _, rfl, .inr ⟨b, o, c, k, rfl, hb, hl, rfl, rfl⟩⟩

omit [Env] in
/-- the run of an append that makes a new row -/
theorem append_new {ty tx aty el : TypeId} {dx : TypeDesc} {inf : TypeInfo} {z : Value} {n k cap : Nat} {base : Option Addr} {x : Value} {old new : Array Value}
    (hu : P.underlying ty = some (.slice el)) (hux : P.underlying tx = some dx) (hdx : ∀ k, dx ≠ .int k) (hi : P.info? el = some inf) (hz : inf.zero = some z)
    (hlen : (Builtin.lenOf x).run P w = .ok k w) (hold : ∀ w' : World, w'.heap = w.heap → (Builtin.firstCells inf.size n (.slice base n cap)).run P w' = .ok old w') (hnew : ∀ w' : World, w'.heap = w.heap → (Builtin.firstCells inf.size k x).run P w' = .ok new w')
    (hneed : cap < n + k) (hb : (n + k) * 2 * (inf.bytes + 1) ≤ 1099511627776) :
    ∃ cap' d, n + k ≤ cap' ∧ (Builtin.append_ #[ty, tx] aty #[.slice base n cap, x]).run P w =
      .ok (.slice (some ⟨w.heap.size, 0, none⟩) (n + k) cap') { w with heap := w.heap.push (.cells (old ++ new ++ Builtin.zeroCells z.cells (cap' - (n + k))) el), drawn := d } := by
  have h1 : ¬ (n + k ≤ cap) := by omega
  have hbm : (n + k) * 2 * inf.bytes + (n + k) * 2 ≤ 1099511627776 := by rw [Nat.mul_add, Nat.mul_one] at hb; exact hb
  have h2 : ¬ ((n + k : Nat) : Int) > IntKind.i64.max := by rw [IntKind.max_i64]; omega
  have h3 : ¬ (Builtin.nextslicecap (n + k) cap * inf.bytes > 2 ^ 48) := by
    have := nextcap_le (n + k) cap hneed
    have := Nat.mul_le_mul_right inf.bytes this
    rw [Nat.mul_comm 2 (n + k)] at this
    omega
  let q : Question := .appendCap (n + k) cap el
  refine ⟨q.cut (w.tape w.drawn q), w.drawn + 1, Nat.le_add_right _ _, ?_⟩
  have ho := hold w.drew rfl
  have hn := hnew w.drew rfl
  have h2' : ¬ (9223372036854775807 < (n : Int) + (k : Int) ∧ inf.bytes = 0) := by
    rw [IntKind.max_i64] at h2
    intro hh
    omega
  have h3' : ¬ (281474976710656 < Builtin.nextslicecap (n + k) cap * inf.bytes) := by simpa using h3
  unfold Builtin.append_
  simp [run_underlying hu, run_underlying hux, run_size hi, hlen, h1, typeInfo, hi, h2', h3', Question.forced, ho, hn, zeroValue, hz, newRow, q]
  rfl

omit [Env] in
theorem append_fits {ty tx aty el : TypeId} {dx : TypeDesc} {inf : TypeInfo} {n k cap : Nat} {base : Option Addr} {x : Value} {new : Array Value} {w' : World}
    (hu : P.underlying ty = some (.slice el)) (hux : P.underlying tx = some dx) (hdx : ∀ k, dx ≠ .int k) (hi : P.info? el = some inf)
    (hlen : (Builtin.lenOf x).run P w = .ok k w) (hnew : (Builtin.firstCells inf.size k x).run P w = .ok new w)
    (hneed : n + k ≤ cap) (hst : ∀ a, base = some a → (storeCells (a.add (n * inf.size)) new.toList).run P w = .ok () w') (hn : base = none → w' = w) :
    (Builtin.append_ #[ty, tx] aty #[.slice base n cap, x]).run P w = .ok (.slice base (n + k) cap) w' := by
  unfold Builtin.append_
  cases base with
  | none =>
    have := hn rfl
    subst this
    simp [run_underlying hu, run_underlying hux, run_size hi, hlen, hneed, hnew]
  | some a => simp [run_underlying hu, run_underlying hux, run_size hi, hlen, hneed, hnew, hst a rfl]

theorem Rel.drop_post (_h : Rel m W w) {W1 : RW} {b : Nat} (hs : W.set b .dead = some W1) (hw : W.wf) : Post m W w m W1 w := by
  obtain ⟨h1, h2, h3, h4⟩ := set_spec hs
  refine ⟨fun _ _ => rfl, by omega, Nat.le_refl _, fun _ _ _ => rfl, ?_, rfl, rfl, rfl⟩
  intro a x ha hx
  rw [h4 hw] at ha
  by_cases hab : a = b
  · rw [if_pos hab] at ha
    simp only [Option.some.injEq] at ha
    subst ha
    simp [RObj.own] at hx
  · rw [if_neg hab] at ha
    exact .inr ⟨a, x, ha, hx, rfl⟩

/-- a new row behind what was spent -/
theorem push_rowK (hr : Rel m W w) {cs : List RV} (hc : belowC W.n cs = true) {vals : Array Value} {rest : Array Value} {el cap : Nat} (hv : vals.toList = cs.map (rv m)) (hcap : cs.length ≤ cap) (hsz : cap ≤ (vals ++ rest).size) (d : Nat)
    {kd : Kd} (hkx : ¬ (kd = .ex ∨ kd = .rx)) (hk : ∀ n, kd.tyOk el 0 n cs.length) :
    Rel (upd m W.n ⟨w.heap.size, 0, cap⟩) (W.push (.cells cs kd)) { w with heap := w.heap.push (.cells (vals ++ rest) el), drawn := d } ∧
    Post m W w (upd m W.n ⟨w.heap.size, 0, cap⟩) (W.push (.cells cs kd)) { w with heap := w.heap.push (.cells (vals ++ rest) el), drawn := d } := by
  obtain ⟨h1, h2⟩ := hr.push (o := .cells cs kd) (robj := .cells (vals ++ rest) el) (l := ⟨w.heap.size, 0, cap⟩) rfl (by
    refine ⟨vals ++ rest, el, (0, 0), by simp, ?_, fun _ _ => rfl, by simpa using hcap, hsz, fun hh => absurd hh hkx, hk _⟩
    intro j x hj
    have hx := ((belowC_iff W.n cs).1 hc x (List.mem_of_getElem? hj)).2
    have hlen : vals.size = cs.length := by rw [← Array.length_toList, hv, List.length_map]
    have hjl : j < cs.length := (List.getElem?_eq_some_iff.1 hj).1
    rw [rv_agree (agree_upd _ _ _) x hx, Nat.zero_add, Array.getElem?_append_left (by omega), ← Array.getElem?_toList, hv, List.getElem?_map, hj]
    rfl) (belowC_mono (Nat.le_succ _) _ hc)
  exact ⟨h1.same rfl, ⟨h2.ag, h2.mono, h2.size, h2.keep, h2.own, rfl, rfl, rfl⟩⟩

theorem push_row (hr : Rel m W w) {cs : List RV} (hc : belowC W.n cs = true) {vals : Array Value} {rest : Array Value} {el cap : Nat} (hv : vals.toList = cs.map (rv m)) (hcap : cs.length ≤ cap) (hsz : cap ≤ (vals ++ rest).size) (d : Nat) :
    Rel (upd m W.n ⟨w.heap.size, 0, cap⟩) (W.push (.cells cs .gr)) { w with heap := w.heap.push (.cells (vals ++ rest) el), drawn := d } ∧
    Post m W w (upd m W.n ⟨w.heap.size, 0, cap⟩) (W.push (.cells cs .gr)) { w with heap := w.heap.push (.cells (vals ++ rest) el), drawn := d } :=
  push_rowK hr hc hv hcap hsz d (by simp) fun _ => trivial

/-- nothing is appended -/
theorem app_none {ty tx aty el : TypeId} {dx : TypeDesc} {inf : TypeInfo} {s : RV} {vx : Value} {n : Nat} {cs : List RV} (hr : Rel m W w) (hu : P.underlying ty = some (.slice el)) (hux : P.underlying tx = some dx) (hdx : ∀ k, dx ≠ .int k)
    (hi : P.info? el = some inf) (h0 : 0 < inf.size) (hbs : below W.n s = true) (hs : sliceCells W inf.size s = some (n, cs))
    (f2 : (Builtin.lenOf vx).run P w = .ok 0 w) (f1 : (Builtin.firstCells inf.size 0 vx).run P w = .ok #[] w) :
    EffOk P m W w (sv (Builtin.append_ #[ty, tx] aty #[rv m s, vx])) (.wr s W) := by
  obtain ⟨base, cap, hsv, hbase⟩ := rv_slice hr h0 hs
  have hncap : n ≤ cap := by
    rcases hbase with ⟨_, rfl, rfl, _⟩ | ⟨b, o, c, kd, rfl, hb, hl, rfl, rfl⟩
    · exact Nat.le_refl _
    · obtain ⟨arr', ty', fz, _, _, _, q4, q5, _⟩ := hr.obj b _ hb
      obtain ⟨l1, _⟩ := lcut_spec hl
      rw [Nat.le_div_iff_mul_le h0]
      omega
  refine ⟨m, w, _, run_sv (v := rv m s) ?_, .inl rfl, hr, Post.refl _ _ _, hbs⟩
  rw [hsv]
  have := append_fits (P := P) (w := w) (w' := w) (aty := aty) (n := n) (cap := cap) (base := base) hu hux hdx hi f2 f1 (by omega) (fun a _ => rfl) (fun _ => rfl)
  simpa using this

theorem app_core {ty tx aty el : TypeId} {dx : TypeDesc} {inf : TypeInfo} {z : List RV} {s : RV} {vx : Value} {n k : Nat} {cs ds : List RV} {W1 : RW} (kd : Kd) (hr : Rel m W w) (hu : P.underlying ty = some (.slice el)) (hux : P.underlying tx = some dx) (hdx : ∀ k, dx ≠ .int k)
    (hi : P.info? el = some inf) (hz : zeroCells inf = some z) (h0 : 0 < inf.size ∧ z.length = inf.size) (hbs : below W.n s = true) (hs : sliceCells W inf.size s = some (n, cs))
    (hdl : ds.length = k * inf.size) (hdb : belowC W.n ds = true) (f2 : (Builtin.lenOf vx).run P w = .ok k w)
    (hfirst : ∀ w' : World, w'.heap = w.heap → (Builtin.firstCells inf.size k vx).run P w' = .ok (ds.map (rv m)).toArray w')
    (hkx : ¬ (kd = .ex ∨ kd = .rx)) (hkt : ∀ n' n, kd.tyOk el 0 n' n) (hk : k ≠ 0) (hbd' : (n + k) * 2 * (inf.bytes + 1) ≤ 1099511627776)
    (hsp : (s = .v (.slice none 0 0) ∧ W1 = W) ∨ (∃ b o c k', s = .sl b o n inf.size ∧ W.get b = some (.cells c k') ∧ (k' = .ex ∨ k' = .rx) ∧ W1 = W ∧ c.length < o + (n + k) * inf.size) ∨
      (∃ b o c k', s = .sl b o n inf.size ∧ W.get b = some (.cells c k') ∧ W.set b .dead = some W1 ∧ (k' ≠ .ro ∧ k' ≠ .rx) ∧ ∀ ty' a1 a2 a3 b1 b2, k'.tyOk ty' a1 a2 a3 → kd.tyOk ty' (a1 + o) b1 b2)) :
    EffOk P m W w (sv (Builtin.append_ #[ty, tx] aty #[rv m s, vx])) (.wr (.sl W1.n 0 (n + k) inf.size) (W1.push (.cells (cs ++ ds) kd))) := by
  obtain ⟨zv, z1, rfl, z3⟩ := zeroCells_spec hz
  have hzs : zv.cells.size = inf.size := by rw [← h0.2]; simp
  obtain ⟨hcl, hcb, hcs⟩ := sliceCells_spec (P := P) hr h0.1 hs
  have f1 := hfirst w rfl
  obtain ⟨base, cap, hsv, hbase⟩ := rv_slice hr h0.1 hs
  have holdc : ∀ w' : World, w'.heap = w.heap → (Builtin.firstCells inf.size n (.slice base n cap)).run P w' = .ok (cs.map (rv m)).toArray w' := fun w' hw => by
    rw [← hsv]; exact (firstCells_run (P := P) (hr.same hw) h0.1 hs).1
  have hvals : ((cs.map (rv m)).toArray ++ (ds.map (rv m)).toArray).toList = (cs ++ ds).map (rv m) := by simp
  have hcdl : (cs ++ ds).length = (n + k) * inf.size := by rw [List.length_append, hcl, hdl, Nat.add_mul]
  have fresh : Rel m W1 w → Post m W w m W1 w → W1.n = W.n → cap < n + k → EffOk P m W w (sv (Builtin.append_ #[ty, tx] aty #[rv m s, vx])) (.wr (.sl W1.n 0 (n + k) inf.size) (W1.push (.cells (cs ++ ds) kd))) := by
    intro hr1 hp1 hn1 hlt
    obtain ⟨cap', d, hc1, hrun⟩ := append_new (P := P) (w := w) (aty := aty) hu hux hdx hi z1 f2 holdc hfirst hlt hbd'
    obtain ⟨g1, g2⟩ := push_rowK hr1 (cs := cs ++ ds) (by rw [hn1]; exact belowC_append hcb hdb) (vals := (cs.map (rv m)).toArray ++ (ds.map (rv m)).toArray) (rest := Builtin.zeroCells zv.cells (cap' - (n + k))) (el := el) (cap := cap' * inf.size) hvals
      (by rw [hcdl]; exact Nat.mul_le_mul_right _ hc1) (by
        rw [Array.size_append, ← Array.length_toList, hvals, List.length_map, hcdl, zeroCells_size, hzs, ← Nat.add_mul]
        exact Nat.mul_le_mul_right _ (by omega)) d hkx fun _ => hkt _ _
    refine ⟨_, _, _, run_sv (by rw [hsv]; exact hrun), .inl ?_, g1, hp1.trans g2, by simp [below, blt_eq, RW.push]⟩
    simp [rv, upd, Nat.mul_div_cancel _ h0.1]
  rcases hsp with ⟨rfl, rfl⟩ | ⟨b, o, c, k', rfl, hb, hk', rfl, hnf⟩ | ⟨b, o, c, k', rfl, hb, hsp, hk', hkt'⟩
  · rcases hbase with ⟨rfl, rfl, rfl, _⟩ | ⟨_, _, _, _, hh, _⟩
    · exact fresh hr (Post.refl _ _ _) rfl (by omega)
    · simp at hh
  · rcases hbase with ⟨_, _, _, hh⟩ | ⟨b', o', c', k2, hh, hb', hl, rfl, hcap⟩
    · simp at hh
    · simp only [RV.sl.injEq] at hh
      obtain ⟨rfl, rfl, _, _⟩ := hh
      rw [hb] at hb'
      simp only [Option.some.injEq, RObj.cells.injEq] at hb'
      obtain ⟨rfl, rfl⟩ := hb'
      obtain ⟨arr', ty', fz, q1, q2, q3, q4, q5, q6, _⟩ := hr.obj b _ hb
      obtain ⟨l1, l2⟩ := lcut_spec hl
      refine fresh hr (Post.refl _ _ _) rfl ?_
      rw [hcap, Nat.div_lt_iff_lt_mul h0.1]
      have := q6 hk'
      omega
  · rcases hbase with ⟨_, _, _, hh⟩ | ⟨b', o', c', k2, hh, hb', hl, rfl, hcap⟩
    · simp at hh
    · simp only [RV.sl.injEq] at hh
      obtain ⟨rfl, rfl, _, _⟩ := hh
      rw [hb] at hb'
      simp only [Option.some.injEq, RObj.cells.injEq] at hb'
      obtain ⟨rfl, rfl⟩ := hb'
      obtain ⟨arr', ty', fz, q1, q2, q3, q4, q5, q6, q7⟩ := hr.obj b _ hb
      obtain ⟨l1, l2⟩ := lcut_spec hl
      have hr1 := hr.drop hsp
      have hp1 := hr.drop_post hsp hr.wf
      obtain ⟨s1, s2, s3, s4⟩ := set_spec hsp
      have s4 := s4 hr.wf
      have hown : (RObj.cells c k').own = true := by cases k' <;> simp_all [RObj.own]
      by_cases hlt : cap < n + k
      · exact fresh hr1 hp1 s1 hlt
      · -- in place
        have hfz := q3 hk'.1 hk'.2
        subst hfz
        have hend : (m b).off + o + (n + k) * inf.size ≤ (m b).cap := by
          have h1 : n + k ≤ ((m b).cap - ((m b).off + o)) / inf.size := by rw [← hcap]; omega
          rw [Nat.le_div_iff_mul_le h0.1] at h1
          have : 0 < (n + k) * inf.size := Nat.mul_pos (by
            have : k ≠ 0 := hk
            omega) h0.1
          omega
        have hnk : (n + k) * inf.size = n * inf.size + k * inf.size := Nat.add_mul _ _ _
        have hdv : ∀ v ∈ ds.map (rv m), v.oneCell' = true := by
          intro v hv
          obtain ⟨y, hy, rfl⟩ := List.mem_map.1 hv
          exact oneB_cell ((belowC_iff W.n ds).1 hdb y hy).1
        have hrun := run_storeCells_at (P := P) (m b).blk ((m b).off + o + n * inf.size) ty' (ds.map (rv m)) 0 arr' w q1 (by simp [hdl]; omega) hdv
        simp only [Nat.add_zero] at hrun
        have hrow := append_fits (P := P) (w := w) (aty := aty) (n := n) (cap := cap) (base := some ⟨(m b).blk, (m b).off + o, none⟩) hu hux hdx hi f2 f1 (by omega) (w' := _) (fun a ha => by
          simp only [Option.some.injEq] at ha
          subst ha
          rw [add_none]
          exact hrun) (fun hh => by simp at hh)
        have hoth : ∀ a y, W1.get a = some y → y.live = true → (m b).blk ≠ (m a).blk := by
          intro a y ha hy
          rw [s4] at ha
          by_cases hab : a = b
          · rw [if_pos hab] at ha
            simp only [Option.some.injEq] at ha
            subst ha
            simp [RObj.live] at hy
          · rw [if_neg hab] at ha
            exact hr.inj b a _ y hb ha hown hy (Ne.symm hab)
        have hup : ∀ a y, W1.get a = some y → upd m W1.n ⟨(m b).blk, (m b).off + o, (m b).cap⟩ a = m a := fun a y ha => by simp [upd, Nat.ne_of_lt (get_lt ha)]
        refine ⟨upd m W1.n ⟨(m b).blk, (m b).off + o, (m b).cap⟩, w.setRow (m b).blk (arr'.toList.take ((m b).off + o + n * inf.size) ++ ds.map (rv m) ++ arr'.toList.drop ((m b).off + o + n * inf.size + (ds.map (rv m)).length)).toArray, _, run_sv (by rw [hsv]; exact hrow), .inl ?_, ⟨wf_push hr1.wf _, ?_, ?_, ?_, fun i g hi => ⟨Nat.lt_succ_of_lt (hr1.glb i g hi).1, by rw [agree_upd m W1.n _ i (hr1.glb i g hi).1]; exact (hr1.glb i g hi).2⟩⟩, ⟨?_, ?_, by simp, ?_, ?_, rfl, rfl, rfl⟩, by simp [below, blt_eq, RW.push]⟩
        · simp [rv, upd, hcap]
        · intro a y ha
          rw [get_push] at ha
          by_cases han : a = W1.n
          · rw [if_pos han] at ha
            simp only [Option.some.injEq] at ha
            subst ha
            have hma : upd m W1.n ⟨(m b).blk, (m b).off + o, (m b).cap⟩ a = ⟨(m b).blk, (m b).off + o, (m b).cap⟩ := by simp [upd, han]
            rw [hma]
            refine ⟨_, ty', (0, 0), setRow_heap w _ _ _ _ _ q1, ?_, fun _ _ => rfl, by rw [hcdl]; exact hend, ?_, fun hh => absurd hh hkx, hkt' _ _ _ _ _ _ q7⟩
            · intro j y hj
              have hy : below W.n y = true := ((belowC_iff W.n _).1 (belowC_append hcb hdb) y (List.mem_of_getElem? hj)).2
              rw [rv_agree (n := W1.n) (agree_upd _ _ _) y (by rw [s1]; exact hy)]
              have htl : (arr'.toList.take ((m b).off + o + n * inf.size)).length = (m b).off + o + n * inf.size := by rw [List.length_take, Array.length_toList]; omega
              simp only [List.getElem?_toArray, List.append_assoc]
              by_cases hjn : j < n * inf.size
              · rw [List.getElem?_append_left (by omega)] at hj
                rw [List.getElem?_append_left (by omega), List.getElem?_take, if_pos (by omega)]
                subst l2
                rw [List.getElem?_take, if_pos hjn, List.getElem?_drop] at hj
                have := q2 (o + j) y hj
                rw [← Nat.add_assoc] at this
                simpa using this
              · rw [List.getElem?_append_right (by omega), hcl] at hj
                have hjk : j - n * inf.size < ds.length := (List.getElem?_eq_some_iff.1 hj).1
                rw [List.getElem?_append_right (by omega), htl, List.getElem?_append_left (by rw [List.length_map]; omega)]
                have e1 : (m b).off + o + j - ((m b).off + o + n * inf.size) = j - n * inf.size := by omega
                rw [e1, List.getElem?_map, hj]
                rfl
            · simp [hdl]
              omega
          · rw [if_neg han] at ha
            rw [hup a y ha]
            refine ((hr1.obj a y ha).agree (hr1.lt a y ha) (agree_upd _ _ _)).heap fun hlv => ?_
            exact setRow_other w _ _ _ (hoth a y ha hlv).symm
        · intro a y ha
          rw [get_push] at ha
          by_cases han : a = W1.n
          · rw [if_pos han] at ha
            simp only [Option.some.injEq] at ha
            subst ha
            exact belowC_mono (by simp [RW.push]; omega) _ (belowC_append hcb hdb)
          · rw [if_neg han] at ha
            exact RObj.lt_mono (Nat.le_succ _) (hr1.lt a y ha)
        · intro a c' y1 y2 ha hc' hy1 hy2 hac
          rw [get_push] at ha hc'
          by_cases han : a = W1.n
          · by_cases hcn : c' = W1.n
            · omega
            · rw [if_neg hcn] at hc'
              rw [hup c' y2 hc']
              simp only [upd, han, if_true]
              exact hoth c' y2 hc' hy2
          · rw [if_neg han] at ha
            by_cases hcn : c' = W1.n
            · rw [hup a y1 ha]
              simp only [upd, hcn, if_true]
              exact (hoth a y1 ha (own_live hy1)).symm
            · rw [if_neg hcn] at hc'
              rw [hup a y1 ha, hup c' y2 hc']
              exact hr1.inj a c' y1 y2 ha hc' hy1 hy2 hac
        · rw [← s1]; exact agree_upd _ _ _
        · simp [RW.push]; omega
        · intro r hr' hnr
          exact setRow_other w _ _ _ fun hh => hnr b _ hb hown hh.symm
        · intro a y ha hy
          rw [get_push] at ha
          by_cases han : a = W1.n
          · exact .inr ⟨b, _, hb, hown, by simp [upd, han]⟩
          · rw [if_neg han] at ha
            rw [s4] at ha
            by_cases hab : a = b
            · rw [if_pos hab] at ha
              simp only [Option.some.injEq] at ha
              subst ha
              simp [RObj.own] at hy
            · rw [if_neg hab] at ha
              exact .inr ⟨a, y, ha, hy, by simp [upd, han]⟩

theorem xApp_ok {ty tx aty el el2 : TypeId} {inf : TypeInfo} {z : List RV} {s x : RV} (hr : Rel m W w) (hu : P.underlying ty = some (.slice el)) (hux : P.underlying tx = some (.slice el2)) (hi : P.info? el = some inf) (hz : zeroCells inf = some z)
    (h0 : 0 < inf.size ∧ z.length = inf.size) (hbs : below W.n s = true) (h : xApp W inf.size inf.bytes s x = some e) : EffOk P m W w (sv (Builtin.append_ #[ty, tx] aty #[rv m s, rv m x])) e := by
  unfold xApp at h
  split at h
  · rename_i n cs k ds hs hx
    obtain ⟨hcl, hcb, hcs⟩ := sliceCells_spec (P := P) hr h0.1 hs
    obtain ⟨hdl, hdb, _⟩ := sliceCells_spec (P := P) hr h0.1 hx
    obtain ⟨f1, f2⟩ := firstCells_run (P := P) hr h0.1 hx
    have hfirst : ∀ w' : World, w'.heap = w.heap → (Builtin.firstCells inf.size k (rv m x)).run P w' = .ok (ds.map (rv m)).toArray w' := fun w' hw => (firstCells_run (P := P) (hr.same hw) h0.1 hx).1
    split at h
    · rename_i hk
      have hk0 : k = 0 := Nat.eq_of_beq_eq_true hk
      subst hk0
      simp only [Option.some.injEq] at h
      subst h
      exact app_none (P := P) hr hu hux (by simp) hi h0.1 hbs hs f2 (by
        have hds : ds = [] := List.eq_nil_of_length_eq_zero (by rw [hdl]; simp)
        subst hds
        simpa using f1)
    · rename_i hk
      split at h
      · rename_i hbd
        split at h
        · rename_i W1 hsp
          rw [fnat_eq] at h
          simp only [Option.some.injEq] at h
          subst h
          refine app_core .gr hr hu hux (by simp) hi hz h0 hbs hs hdl hdb f2 hfirst (by simp) (fun _ _ => trivial) (fun e => hk (by rw [e]; rfl)) (Nat.le_of_ble_eq_true hbd) ?_
          rcases hcs with ⟨rfl, rfl, rfl⟩ | ⟨b, o, c, kd, rfl, hb, hl, _⟩
          · simp only [spent, Option.some.injEq] at hsp
            exact .inl ⟨rfl, hsp.symm⟩
          · simp only [spent, hb] at hsp
            cases kd with
            | ro => simp at hsp
            | bd _ => simp at hsp
            | gy _ => simp at hsp
            | ex =>
              simp only at hsp
              split at hsp
              · rename_i hnf
                simp only [Option.some.injEq] at hsp
                rw [blt_eq, decide_eq_true_eq] at hnf
                exact .inr (.inl ⟨b, o, c, _, rfl, hb, .inl rfl, hsp.symm, hnf⟩)
              · simp at hsp
            | rx =>
              simp only at hsp
              split at hsp
              · rename_i hnf
                simp only [Option.some.injEq] at hsp
                rw [blt_eq, decide_eq_true_eq] at hnf
                exact .inr (.inl ⟨b, o, c, _, rfl, hb, .inr rfl, hsp.symm, hnf⟩)
              · simp at hsp
            | gr => exact .inr (.inr ⟨b, o, c, _, rfl, hb, hsp, by simp, fun _ _ _ _ _ _ _ => trivial⟩)
        · simp at h
      · simp at h
  · simp at h

/-- a block that is only looked at from now on -/
theorem Rel.toRo1 (hr : Rel m W w) {b : Nat} {c : List RV} {k : Kd} {W1 : RW} (hb : W.get b = some (.cells c k)) (hs : W.set b (.cells c .ro) = some W1) : Rel m W1 w ∧ Post m W w m W1 w := by
  obtain ⟨h1, h2, h3, h4⟩ := set_spec hs
  have h4 := h4 hr.wf
  have hget : ∀ a o, W1.get a = some o → (a = b ∧ o = .cells c .ro) ∨ (a ≠ b ∧ W.get a = some o) := by
    intro a o ha
    rw [h4] at ha
    by_cases hab : a = b
    · rw [if_pos hab] at ha
      exact .inl ⟨hab, (Option.some.inj ha).symm⟩
    · rw [if_neg hab] at ha
      exact .inr ⟨hab, ha⟩
  refine ⟨⟨h3 hr.wf, ?_, ?_, ?_, by rw [h1]; exact hr.glb⟩, ⟨fun _ _ => rfl, by omega, Nat.le_refl _, fun _ _ _ => rfl, ?_, rfl, rfl, rfl⟩⟩
  · intro a o ha
    rcases hget a o ha with ⟨rfl, rfl⟩ | ⟨_, ha⟩
    · obtain ⟨arr, ty, fz, q1, q2, q3, q4, q5, q6, _⟩ := hr.obj a _ hb
      exact ⟨arr, ty, fz, q1, q2, fun hk => absurd rfl hk, q4, q5, fun hk => by simp at hk, trivial⟩
    · exact hr.obj a o ha
  · intro a o ha
    rw [h1]
    rcases hget a o ha with ⟨rfl, rfl⟩ | ⟨_, ha⟩
    · exact (show RObj.lt W.n (.cells c k) from hr.lt a _ hb)
    · exact hr.lt a o ha
  · intro a a' x y ha ha' hx hy hne
    rcases hget a x ha with ⟨rfl, rfl⟩ | ⟨_, ha⟩
    · simp [RObj.own] at hx
    · rcases hget a' y ha' with ⟨rfl, rfl⟩ | ⟨_, ha'⟩
      · exact hr.inj a a' x _ ha hb hx rfl hne
      · exact hr.inj a a' x y ha ha' hx hy hne
  · intro a o ha ho
    rcases hget a o ha with ⟨rfl, rfl⟩ | ⟨_, ha⟩
    · simp [RObj.own] at ho
    · exact .inr ⟨a, o, ha, ho, rfl⟩

/-- a second name of a block that is only looked at -/
theorem Rel.alias (hr : Rel m W w) {b : Nat} {c c' : List RV} (hb : W.get b = some (.cells c .ro)) (hpre : ∀ (j : Nat) (x : RV), c'[j]? = some x → c[j]? = some x) (hlen : c'.length ≤ c.length) :
    Rel (upd m W.n ⟨(m b).blk, (m b).off, (m b).off + c'.length⟩) (W.push (.cells c' .rx)) w ∧ Post m W w (upd m W.n ⟨(m b).blk, (m b).off, (m b).off + c'.length⟩) (W.push (.cells c' .rx)) w := by
  have hbn : b < W.n := get_lt hb
  have hc' : belowC W.n c' = true := (belowC_iff W.n c').2 fun x hx => by
    obtain ⟨j, hj⟩ := List.getElem?_of_mem hx
    exact (belowC_iff W.n c).1 (hr.lt b _ hb) x (List.mem_of_getElem? (hpre j x hj))
  have hup : ∀ a y, W.get a = some y → upd m W.n ⟨(m b).blk, (m b).off, (m b).off + c'.length⟩ a = m a := fun a y ha => by simp [upd, Nat.ne_of_lt (get_lt ha)]
  refine ⟨⟨wf_push hr.wf _, ?_, ?_, ?_, fun i g hi => ⟨Nat.lt_succ_of_lt (hr.glb i g hi).1, by rw [agree_upd m W.n _ i (hr.glb i g hi).1]; exact (hr.glb i g hi).2⟩⟩, ⟨agree_upd _ _ _, Nat.le_succ _, Nat.le_refl _, fun _ _ _ => rfl, ?_, rfl, rfl, rfl⟩⟩
  · intro a o ha
    rw [get_push] at ha
    by_cases han : a = W.n
    · rw [if_pos han] at ha
      simp only [Option.some.injEq] at ha
      subst ha
      have hma : upd m W.n ⟨(m b).blk, (m b).off, (m b).off + c'.length⟩ a = ⟨(m b).blk, (m b).off, (m b).off + c'.length⟩ := by simp [upd, han]
      rw [hma]
      obtain ⟨arr, ty, fz, q1, q2, q3, q4, q5, q6, _⟩ := hr.obj b _ hb
      refine ⟨arr, ty, fz, q1, ?_, fun _ hk => absurd rfl hk, Nat.le_refl _, by show (m b).off + c'.length ≤ _; omega, fun _ => rfl, trivial⟩
      intro j x hj
      rw [q2 j x (hpre j x hj), rv_agree (n := W.n) (agree_upd _ _ _) x ((belowC_iff W.n c').1 hc' x (List.mem_of_getElem? hj)).2]
    · rw [if_neg han] at ha
      rw [hup a o ha]
      exact (hr.obj a o ha).agree (hr.lt a o ha) (agree_upd _ _ _)
  · intro a o ha
    rw [get_push] at ha
    by_cases han : a = W.n
    · rw [if_pos han] at ha
      simp only [Option.some.injEq] at ha
      subst ha
      exact belowC_mono (Nat.le_succ _) _ hc'
    · rw [if_neg han] at ha
      exact RObj.lt_mono (Nat.le_succ _) (hr.lt a o ha)
  · intro a a' x y ha ha' hx hy hne
    rw [get_push] at ha ha'
    by_cases han : a = W.n
    · rw [if_pos han] at ha
      simp only [Option.some.injEq] at ha
      subst ha
      simp [RObj.own] at hx
    · rw [if_neg han] at ha
      rw [hup a x ha]
      by_cases han' : a' = W.n
      · have hab : a ≠ b := by
          rintro rfl
          rw [hb] at ha
          simp only [Option.some.injEq] at ha
          subst ha
          simp [RObj.own] at hx
        have := hr.inj a b x _ ha hb hx rfl hab
        simpa [upd, han'] using this
      · rw [if_neg han'] at ha'
        rw [hup a' y ha']
        exact hr.inj a a' x y ha ha' hx hy hne
  · intro a o ha ho
    rw [get_push] at ha
    by_cases han : a = W.n
    · rw [if_pos han] at ha
      simp only [Option.some.injEq] at ha
      subst ha
      simp [RObj.own] at ho
    · rw [if_neg han] at ha
      exact .inr ⟨a, o, ha, ho, by rw [hup a o ha]⟩

/-- a name of a part of a block that is only looked at -/
theorem Rel.part (hr : Rel m W w) {b q : Nat} {c c' : List RV} (hb : W.get b = some (.cells c .ro)) (hpre : ∀ (j : Nat) (x : RV), c'[j]? = some x → c[q + j]? = some x) (hlen : q + c'.length ≤ c.length) :
    Rel (upd m W.n ⟨(m b).blk, (m b).off + q, (m b).off + q + c'.length⟩) (W.push (.cells c' .rx)) w ∧ Post m W w (upd m W.n ⟨(m b).blk, (m b).off + q, (m b).off + q + c'.length⟩) (W.push (.cells c' .rx)) w := by
  have hbn : b < W.n := get_lt hb
  have hc' : belowC W.n c' = true := (belowC_iff W.n c').2 fun x hx => by
    obtain ⟨j, hj⟩ := List.getElem?_of_mem hx
    exact (belowC_iff W.n c).1 (hr.lt b _ hb) x (List.mem_of_getElem? (hpre j x hj))
  have hup : ∀ a y, W.get a = some y → upd m W.n ⟨(m b).blk, (m b).off + q, (m b).off + q + c'.length⟩ a = m a := fun a y ha => by simp [upd, Nat.ne_of_lt (get_lt ha)]
  refine ⟨⟨wf_push hr.wf _, ?_, ?_, ?_, fun i g hi => ⟨Nat.lt_succ_of_lt (hr.glb i g hi).1, by rw [agree_upd m W.n _ i (hr.glb i g hi).1]; exact (hr.glb i g hi).2⟩⟩, ⟨agree_upd _ _ _, Nat.le_succ _, Nat.le_refl _, fun _ _ _ => rfl, ?_, rfl, rfl, rfl⟩⟩
  · intro a o ha
    rw [get_push] at ha
    by_cases han : a = W.n
    · rw [if_pos han] at ha
      simp only [Option.some.injEq] at ha
      subst ha
      have hma : upd m W.n ⟨(m b).blk, (m b).off + q, (m b).off + q + c'.length⟩ a = ⟨(m b).blk, (m b).off + q, (m b).off + q + c'.length⟩ := by simp [upd, han]
      rw [hma]
      obtain ⟨arr, ty, fz, q1, q2, q3, q4, q5, q6, _⟩ := hr.obj b _ hb
      refine ⟨arr, ty, fz, q1, ?_, fun _ hk => absurd rfl hk, Nat.le_refl _, by show (m b).off + q + c'.length ≤ _; omega, fun _ => rfl, trivial⟩
      intro j x hj
      rw [show (m b).off + q + j = (m b).off + (q + j) by omega, q2 (q + j) x (hpre j x hj), rv_agree (n := W.n) (agree_upd _ _ _) x ((belowC_iff W.n c').1 hc' x (List.mem_of_getElem? hj)).2]
    · rw [if_neg han] at ha
      rw [hup a o ha]
      exact (hr.obj a o ha).agree (hr.lt a o ha) (agree_upd _ _ _)
  · intro a o ha
    rw [get_push] at ha
    by_cases han : a = W.n
    · rw [if_pos han] at ha
      simp only [Option.some.injEq] at ha
      subst ha
      exact belowC_mono (Nat.le_succ _) _ hc'
    · rw [if_neg han] at ha
      exact RObj.lt_mono (Nat.le_succ _) (hr.lt a o ha)
  · intro a a' x y ha ha' hx hy hne
    rw [get_push] at ha ha'
    by_cases han : a = W.n
    · rw [if_pos han] at ha
      simp only [Option.some.injEq] at ha
      subst ha
      simp [RObj.own] at hx
    · rw [if_neg han] at ha
      rw [hup a x ha]
      by_cases han' : a' = W.n
      · have hab : a ≠ b := by
          rintro rfl
          rw [hb] at ha
          simp only [Option.some.injEq] at ha
          subst ha
          simp [RObj.own] at hx
        have := hr.inj a b x _ ha hb hx rfl hab
        simpa [upd, han'] using this
      · rw [if_neg han'] at ha'
        rw [hup a' y ha']
        exact hr.inj a a' x y ha ha' hx hy hne
  · intro a o ha ho
    rw [get_push] at ha
    by_cases han : a = W.n
    · rw [if_pos han] at ha
      simp only [Option.some.injEq] at ha
      subst ha
      simp [RObj.own] at ho
    · rw [if_neg han] at ha
      exact .inr ⟨a, o, ha, ho, by rw [hup a o ha]⟩

/-- where that name lies -/
theorem Rel.pushLink (hr : Rel m W w) {b q k a : Nat} (hb : b < W.n) (ha : a < W.n) (hl : m a = ⟨(m b).blk, (m b).off + q, (m b).off + q + k⟩) : Rel m (W.push (.link b q k a)) w ∧ Post m W w m (W.push (.link b q k a)) w := by
  have hget : ∀ c o, (W.push (.link b q k a)).get c = some o → (c = W.n ∧ o = .link b q k a) ∨ W.get c = some o := by
    intro c o hc
    rw [get_push] at hc
    by_cases hcn : c = W.n
    · rw [if_pos hcn] at hc
      exact .inl ⟨hcn, (Option.some.inj hc).symm⟩
    · rw [if_neg hcn] at hc
      exact .inr hc
  refine ⟨⟨wf_push hr.wf _, ?_, ?_, ?_, fun i g hi => ⟨Nat.lt_succ_of_lt (hr.glb i g hi).1, (hr.glb i g hi).2⟩⟩, ⟨fun _ _ => rfl, Nat.le_succ _, Nat.le_refl _, fun _ _ _ => rfl, ?_, rfl, rfl, rfl⟩⟩
  · intro c o hc
    rcases hget c o hc with ⟨_, rfl⟩ | hc
    · exact hl
    · exact hr.obj c o hc
  · intro c o hc
    rcases hget c o hc with ⟨_, rfl⟩ | hc
    · exact ⟨Nat.lt_succ_of_lt hb, Nat.lt_succ_of_lt ha⟩
    · exact RObj.lt_mono (Nat.le_succ _) (hr.lt c o hc)
  · intro c d x y hc hd hx hy hne
    rcases hget c x hc with ⟨_, rfl⟩ | hc
    · simp [RObj.own] at hx
    · rcases hget d y hd with ⟨_, rfl⟩ | hd
      · simp [RObj.live] at hy
      · exact hr.inj c d x y hc hd hx hy hne
  · intro c o hc ho
    rcases hget c o hc with ⟨_, rfl⟩ | hc
    · simp [RObj.own] at ho
    · exact .inr ⟨c, o, hc, ho, rfl⟩

theorem rotOne_ok (hr : Rel m W w) {b q k : Nat} {c c' : List RV} {kd : Kd} {W1 : RW} (hb : W.get b = some (.cells c kd)) (hc : lcut c q k = some c') (hs : W.set b (.cells c .ro) = some W1) :
    ∃ m', Rel m' ((W1.push (.cells c' .rx)).push (.link b q k W1.n)) w ∧ Post m W w m' ((W1.push (.cells c' .rx)).push (.link b q k W1.n)) w := by
  obtain ⟨t1, t2⟩ := lcut_spec hc
  obtain ⟨s1, s2, s3, s4⟩ := set_spec hs
  obtain ⟨r1, p1⟩ := hr.toRo1 hb hs
  have hb1 : W1.get b = some (.cells c .ro) := by rw [s4 hr.wf, if_pos rfl]
  have hcl : c'.length = k := by rw [t2, List.length_take, List.length_drop]; omega
  obtain ⟨r2, p2⟩ := r1.part (q := q) (c' := c') hb1 (fun i x hi2 => by
    rw [t2, List.getElem?_take] at hi2
    split at hi2
    · rw [List.getElem?_drop] at hi2
      exact hi2
    · simp at hi2) (by rw [hcl]; exact t1)
  have hbn : b < W1.n := get_lt hb1
  have hne : b ≠ W1.n := by omega
  obtain ⟨r3, p3⟩ := r2.pushLink (b := b) (q := q) (k := k) (a := W1.n) (by show b < W1.n + 1; omega) (by show W1.n < W1.n + 1; omega) (by simp [upd, hne, hcl])
  exact ⟨_, r3, (p1.trans p2).trans p3⟩

theorem rot1_ok (hr : Rel m W w) (x : RV) (d k : Nat) : ∃ m', Rel m' (rot1 W x d k) w ∧ Post m W w m' (rot1 W x d k) w := by
  have base : ∃ m', Rel m' W w ∧ Post m W w m' W w := ⟨m, hr, Post.refl m W w⟩
  unfold rot1
  split
  · rename_i b p
    split
    · rename_i c kd hb
      split
      · rw [fnat_eq]
        split
        · rename_i c' hc
          split
          · rename_i W1 hs
            obtain ⟨n, l⟩ := W1
            simp only [fnat_eq]
            exact rotOne_ok hr hb hc hs
          · exact base
        · exact base
      · rw [fnat_eq]
        split
        · rename_i c' hc
          split
          · rename_i W1 hs
            obtain ⟨n, l⟩ := W1
            simp only [fnat_eq]
            exact rotOne_ok hr hb hc hs
          · exact base
        · exact base
      · exact base
    · exact base
  · exact base

theorem rotW_ok : ∀ (us : List (Opd × Nat × Nat)) (t : RT) {m : Nat → Loc} {W : RW} {w : World}, Rel m W w → ∃ m', Rel m' (rotW us t W) w ∧ Post m W w m' (rotW us t W) w
  | [], _, m, W, w, hr => ⟨m, hr, Post.refl m W w⟩
  | u :: r, t, m, W, w, hr => by
    obtain ⟨m1, r1, p1⟩ := rot1_ok hr (u.1 t) u.2.1 u.2.2
    obtain ⟨m2, r2, p2⟩ := rotW_ok r t r1
    exact ⟨m2, r2, p1.trans p2⟩

theorem xClip_ok {ty el : TypeId} {inf : TypeInfo} {x hi mx : RV} (hr : Rel m W w) (hu : P.underlying ty = some (.slice el)) (hi' : P.info? el = some inf) (h0 : 0 < inf.size)
    (h : xClip W inf.size x hi mx = some e) : EffOk P m W w (sv (Instr.sliceAt ty (rv m x) none (some (rv m hi)) (some (rv m mx)))) e := by
  unfold xClip at h
  split at h
  case h_2 => simp at h
  rename_i k1 hh k2 j
  split at h
  · split at h
    · rename_i hc
      rw [Bool.and_eq_true] at hc
      have e1 := Nat.eq_of_beq_eq_true hc.1
      have e2 := Nat.eq_of_beq_eq_true hc.2
      subst e1 e2
      simp only [Option.some.injEq] at h
      subst h
      refine effOk_val rfl ?_
      simp [Instr.sliceAt, Instr.slice, rv, run_underlying hu, Instr.sliceBounds, Instr.sliceBound, asIntOf, run_size hi']
    · simp at h
  · rename_i b o n es
    split at h
    case isFalse => simp at h
    rename_i hc
    simp only [Bool.and_eq_true, blt_eq, decide_eq_true_eq] at hc
    obtain ⟨⟨⟨c1, c2⟩, c3⟩, c4⟩ := hc
    have c1 := Nat.eq_of_beq_eq_true c1
    have c2 := Nat.eq_of_beq_eq_true c2
    have c3 := Nat.eq_of_beq_eq_true c3
    subst c1 c2 c3
    split at h
    case h_2 => simp at h
    rename_i c kd hb
    split at h
    case h_2 => simp at h
    rename_i c' ht
    split at h
    case h_2 => simp at h
    rename_i W1 hs
    rw [pushF_eq] at h
    simp only [Option.some.injEq] at h
    subst h
    obtain ⟨t1, t2⟩ := ltake_spec _ _ ht
    obtain ⟨s1, s2, s3, s4⟩ := set_spec hs
    obtain ⟨r1, p1⟩ := hr.toRo1 hb hs
    have hb1 : W1.get b = some (.cells c .ro) := by rw [s4 hr.wf, if_pos rfl]
    have hcl : c'.length = o + j * inf.size := by rw [t2, List.length_take]; omega
    obtain ⟨r2, p2⟩ := r1.alias (c' := c') hb1 (fun i x hi2 => by
      rw [t2, List.getElem?_take] at hi2
      split at hi2
      · exact hi2
      · simp at hi2) (by rw [hcl]; exact t1)
    obtain ⟨arr, ty', fz, _, _, _, hcap, _, _⟩ := hr.obj b _ hb
    have hC : j ≤ ((m b).cap - ((m b).off + o)) / inf.size := by
      rw [Nat.le_div_iff_mul_le h0]
      omega
    refine ⟨_, w, _, run_sv (v := .slice (some ⟨(m b).blk, (m b).off + o, none⟩) j j) ?_, .inl ?_, r2, p1.trans p2, by simp [below, blt_eq, RW.push]⟩
    · simp only [Instr.sliceAt, Instr.slice, rv, Instr.sliceBounds, Instr.sliceBound, asIntOf, Sem.run_bind, run_underlying hu, Result.andThen_ok, Sem.run_pure, if_true, run_size hi', Int.toNat_natCast, Int.ofNat_eq_natCast, Int.natCast_nonneg]
      rw [if_pos ⟨trivial, Int.ofNat_le.2 hC⟩]
      simp only [Sem.run_pure, Result.andThen_ok]
      rw [if_pos ⟨trivial, Int.le_refl _⟩]
      simp only [Sem.run_pure, Result.andThen_ok, if_neg (show ¬ j = 0 by omega), Option.map_some, Nat.zero_mul, add_none, Nat.add_zero, Nat.sub_zero]
    · simp only [rv, upd, if_true, hcl]
      rw [show (m b).off + (o + j * inf.size) - ((m b).off + o) = j * inf.size by omega, Nat.mul_div_cancel _ h0]
  · simp at h

omit [Env] in
theorem fbytes_eq {β : Type} : ∀ (l : List UInt8) (k : List RV → β), fbytes l k = k (l.map fun b => RV.v (.int .u8 b.toNat))
  | [], k => rfl
  | b :: r, k => by
    show fnat b.toNat (fun n => fbytes r fun r => k (.v (.int .u8 (.ofNat n)) :: r)) = _
    rw [fnat_eq, fbytes_eq r]
    rfl

omit [Env] in
theorem bytes_heap (w : World) (el : TypeId) (s : ByteArray) : (Lib.bytesWorld w el s).heap = w.heap.push (.cells (Lib.bytesCells w el s) el ((Lib.bytesCells w el s).size, (Lib.bytesCells w el s).size + 1)) := by
  apply Array.ext_getElem?
  intro j
  by_cases h1 : j < w.heap.size
  · rw [Lib.bytesWorld_at_old w el s j h1, Array.getElem?_push, if_neg (by omega)]
  · by_cases h2 : j = w.heap.size
    · subst h2
      rw [Lib.bytesWorld_at_new]
      simp
    · rw [Array.getElem?_eq_none (by rw [Lib.bytesWorld_size]; omega), Array.getElem?_eq_none (by rw [Array.size_push]; omega)]

theorem xStb_ok {src dst el : TypeId} {x : RV} (hr : Rel m W w) (hs : P.underlying src = some .string) (he : P.underlying el = some (.int .u8)) (hd : P.underlying dst = some (.slice el))
    (h : xStb W x = some e) : EffOk P m W w (sv (convert src dst (rv m x))) e := by
  unfold xStb at h
  split at h
  · rename_i s
    rw [fbytes_eq, fnat_eq, fnat_eq] at h
    simp only [Option.some.injEq] at h
    subst h
    obtain ⟨cs, hcs⟩ : ∃ cs, cs = s.data.toList.map fun b => RV.v (.int .u8 b.toNat) := ⟨_, rfl⟩
    rw [← hcs]
    have hlen : cs.length = s.size := by rw [hcs, List.length_map]; exact Array.length_toList
    have hcb : belowC W.n cs = true := (belowC_iff W.n cs).2 fun y hy => by
      rw [hcs] at hy
      obtain ⟨b, _, rfl⟩ := List.mem_map.1 hy
      exact ⟨rfl, rfl⟩
    have hcap : s.size ≤ grownCap w s.size 0 el := by
      unfold grownCap
      simp [Question.cut]
    have hrun := Lib.run_convert_string_bytes (P := P) w src dst el s hs hd he
    have hsz : (Lib.bytesCells w el s).size = grownCap w s.size 0 el := by
      have : s.data.size = s.size := rfl
      simp [Lib.bytesCells, this]
      omega
    obtain ⟨h1, h2⟩ := hr.push (o := .cells cs .ro) (robj := .cells (Lib.bytesCells w el s) el ((Lib.bytesCells w el s).size, (Lib.bytesCells w el s).size + 1)) (l := ⟨w.heap.size, 0, grownCap w s.size 0 el⟩) rfl (by
      refine ⟨Lib.bytesCells w el s, el, ((Lib.bytesCells w el s).size, (Lib.bytesCells w el s).size + 1), by simp, ?_, fun hk => absurd rfl hk, by simp [hlen, hcap], by rw [hsz]; exact Nat.le_refl _, by simp, trivial⟩
      intro j y hj
      have hjl : j < cs.length := (List.getElem?_eq_some_iff.1 hj).1
      have hd2 : s.data.size = s.size := rfl
      rw [Nat.zero_add]
      unfold Lib.bytesCells
      rw [Array.getElem?_append_left (by simp [hd2]; omega), ← Array.getElem?_toList, Array.toList_map, List.getElem?_map]
      rw [hcs, List.getElem?_map] at hj
      cases hb : s.data.toList[j]? with
      | none => rw [hb] at hj; simp at hj
      | some b =>
        rw [hb] at hj
        simp only [Option.map_some, Option.some.injEq] at hj
        subst hj
        rfl) (belowC_mono (Nat.le_succ _) _ hcb)
    refine ⟨_, Lib.bytesWorld w el s, _, run_sv (by simpa [rv] using hrun), .inl ?_, h1.same (bytes_heap w el s), ⟨h2.ag, h2.mono, by rw [Lib.bytesWorld_size]; omega, ?_, h2.own, rfl, rfl, rfl⟩, by simp [below, blt_eq, RW.push]⟩
    · simp [rv, upd, hlen]
    · intro r hr1 hn
      exact Lib.bytesWorld_at_old w el s r hr1
  · simp at h

theorem xApz_ok {ty tx aty el : TypeId} {ik : IntKind} {inf : TypeInfo} {z : List RV} {s x : RV} (hr : Rel m W w) (hu : P.underlying ty = some (.slice el)) (hux : P.underlying tx = some (.int ik)) (hi : P.info? el = some inf) (hz : zeroCells inf = some z)
    (h0 : 0 < inf.size ∧ z.length = inf.size) (h : xApz W inf.size inf.bytes z s x = some e) : EffOk P m W w (sv (Builtin.append_ #[ty, tx] aty #[rv m s, rv m x])) e := by
  obtain ⟨zv, z1, rfl, z3⟩ := zeroCells_spec hz
  have hzs : zv.cells.size = inf.size := by rw [← h0.2]; simp
  unfold xApz at h
  split at h
  · rename_i n
    split at h
    · rename_i hc
      simp only [Bool.and_eq_true, blt_eq, decide_eq_true_eq] at hc
      have hb := Nat.le_of_ble_eq_true hc.2
      have hbm : n * 2 * inf.bytes + n * 2 ≤ 1099511627776 := by rw [Nat.mul_add, Nat.mul_one] at hb; exact hb
      have h48 : n * inf.bytes ≤ n * 2 * inf.bytes := Nat.mul_le_mul_right _ (by omega)
      rw [fnat_eq] at h
      simp only [Option.some.injEq] at h
      subst h
      have hrun := Lib.run_append_nil_zeros w ty tx aty el inf zv .i64 ik hu hux hi z1 n hc.1 h0.1 (by omega) (by omega)
      have hcap : n ≤ grownCap w n 0 el := Nat.le_add_right _ _
      have hv : (Builtin.zeroCells zv.cells n).toList = (repl n (zv.cells.toList.map RV.v)).map (rv m) := zeros_eq zv.cells n (by omega)
      have hlen : (repl n (zv.cells.toList.map RV.v)).length = n * inf.size := by rw [repl_length, h0.2]
      obtain ⟨g1, g2⟩ := push_row hr (cs := repl n (zv.cells.toList.map RV.v)) (belowC_repl (belowC_v z3 W.n) n) (vals := Builtin.zeroCells zv.cells n) (rest := Builtin.zeroCells zv.cells (grownCap w n 0 el - n)) (el := el) (cap := grownCap w n 0 el * inf.size) hv
        (by rw [hlen]; exact Nat.mul_le_mul_right _ hcap) (by
          rw [Array.size_append, zeroCells_size, zeroCells_size, hzs, ← Nat.add_mul]
          exact Nat.mul_le_mul_right _ (by omega)) (w.drawn + 1)
      refine ⟨_, _, _, run_sv hrun, .inl ?_, g1, g2, by simp [below, blt_eq, RW.push]⟩
      simp [rv, upd, Nat.mul_div_cancel _ h0.1]
    · simp at h
  · simp at h

end
end Go.Rv
