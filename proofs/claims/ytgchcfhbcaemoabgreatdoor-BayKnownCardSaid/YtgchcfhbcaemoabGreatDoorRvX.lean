/- Regions that draw their order; the evaluator is sound. -/
import Derived.Test.YtgchcfhbcaemoabGreatDoorRvW
import Derived.Below
namespace Go.Rv
open Go

theorem unl_ge {listed : Array Bool} {k : Nat} : ∀ n, (∀ i, k ≤ i → i < n → listed.getD i true = false) → n - k ≤ unl listed n
  | 0, _ => by simp
  | n + 1, h => by
    have ih := unl_ge (listed := listed) (k := k) n fun i h1 h2 => h i h1 (by omega)
    unfold unl
    by_cases hk : k ≤ n
    · rw [if_pos (h n hk (Nat.lt_succ_self n))]
      omega
    · omega

section
variable [Env] {P : Program} {ev : Ev} {ops : Array Oper} {k : Nat} {ws : Wrs} {T : Nat → PS} {m0 : Nat → Loc} {W : RW} {w : World}

omit [Env] in
theorem todo_same {fr : Frame} {cs : List Frame} {w : World} {todo : List Item} (ht : fr.todo = todo) : Steps P (lone fr cs w) (lone { fr with tmps := fr.tmps, todo := todo } cs w) := by
  subst ht
  exact Steps.refl _ _

theorem Pre.all (hev : EvOk P ev) (hN : NoOwn P) (hE : Edges ops) (hk : k = planTail (Region.before ops).toList ops.size) (h : Pre P ev ops k W.n ws T) (hr0 : Rel m0 W w) (h0 : tlt W.n (T 0).t) (hV0 : (T 0).V = W.l) (cs : List Frame) (K : List Item) :
    ∀ (fuel tp : Nat) (listed : Array Bool) (m : Nat → Loc) (w' : World) (fr : Frame) (th : Nat), unl listed ops.size ≤ fuel → Inv ops k ws T m0 W w listed m w' fr.tmps th → Closed ops listed → listed.size = ops.size →
      (∀ i, k ≤ i → i < ops.size → listed.getD i true = false) → fr.mode = .run → fr.todo = .inRegion ops (Region.linearise.go .any ops fuel tp listed []) :: K →
      ∃ m' w'' arr' listed' th', Steps P (lone fr cs w') (lone { fr with tmps := arr', todo := .inRegion ops (List.range' k (ops.size - k)) :: K } cs w'') ∧ (∀ i, i < k → listed'.getD i false = true) ∧ Inv ops k ws T m0 W w listed' m' w'' arr' th' := by
  intro fuel
  induction fuel with
  | zero =>
    intro tp listed m w' fr th hf inv hc hs ht hm htd
    have hle : k ≤ ops.size := by rw [hk]; exact planTail_le _ _
    have hall : ∀ i, i < k → listed.getD i false = true := by
      intro i hi
      rcases hb : listed.getD i false with _ | _
      · have := unl_pos (off_in (by omega) hb) ops.size (by omega)
        omega
      · rfl
    have hgo := go_tail hE hk (ops.size - k) k listed 0 tp rfl (Nat.le_refl _) hle hs hc hall ht (by
      have := unl_ge ops.size ht
      omega)
    rw [hgo] at htd
    exact ⟨m, w', fr.tmps, listed, th, todo_same htd, hall, inv⟩
  | succ fuel ih =>
    intro tp listed m w' fr th hf inv hc hs ht hm htd
    have hle : k ≤ ops.size := by rw [hk]; exact planTail_le _ _
    by_cases hall : ∀ i, i < k → listed.getD i false = true
    · have hgo := go_tail hE hk (ops.size - k) k listed (fuel + 1) tp rfl (Nat.le_refl _) hle hs hc hall ht (by
        have := unl_ge ops.size ht
        omega)
      rw [hgo] at htd
      exact ⟨m, w', fr.tmps, listed, th, todo_same htd, hall, inv⟩
    · simp only [Classical.not_forall] at hall
      obtain ⟨j, hj, hoff⟩ := hall
      have hoff' : listed.getD j false = false := by simpa using hoff
      obtain ⟨i, o, t', ho, hun, hl, hgo⟩ := go_take hE hs (show j < ops.size by omega) (off_in (by omega) hoff') fuel tp
      rw [hgo] at htd
      have hin : i < ops.size := (Array.getElem?_eq_some_iff.1 ho).1
      have hi : i < k := by
        rcases Nat.lt_or_ge i k with h1 | h1
        · exact h1
        · have hb := tail_bits (ops := ops) (by omega) hin (show j < i by omega)
          rw [closed_before hE hc i o ho hl j hb] at hoff'
          simp at hoff'
      obtain ⟨m1, w1, arr1, th1, st1, inv1⟩ := h.step_ok hev hN hE hr0 h0 hV0 inv hi ho hun hl hc hs (cs := cs) hm htd
      obtain ⟨m2, w2, arr2, listed2, th2, st2, hall2, inv2⟩ := ih t' (listed.setIfInBounds i true) m1 w1 { fr with tmps := arr1, todo := .inRegion ops (Region.linearise.go .any ops fuel t' (listed.setIfInBounds i true) []) :: K } th1 (by
        have := unl_set (by omega) hun ops.size hin
        omega) inv1 (hc.set ho hl) (by simp [hs]) (fun l h1 h2 => by rw [getD_set_ne true (by omega)]; exact ht l h1 h2) hm rfl
      exact ⟨m2, w2, arr2, listed2, th2, st1.trans st2, hall2, inv2⟩
omit [Env] in
theorem allBut_ok {l : List (Oper × Nat)} (h : allBut l ops = true) {i j : Nat} {x y : Oper × Nat} (hi : l[i]? = some x) (hj : l[j]? = some y) (hij : i ≠ j) {d : Nat} (hd : x.1.dst = some d) :
    y.1.dst ≠ some d ∧ (d ∈ looks ops y.1 → y.2.testBit i = true ∨ x.2.testBit j = true) := by
  unfold allBut at h
  have h1 := List.all_eq_true.1 h (x, i) (List.mem_zipIdx_iff_getElem?.2 hi)
  have h2 := List.all_eq_true.1 h1 (y, j) (List.mem_zipIdx_iff_getElem?.2 hj)
  simp only [hd, Bool.or_eq_true, Bool.and_eq_true, beq_iff_eq, hij, false_or, bne_iff_ne, ne_eq] at h2
  refine ⟨h2.2, fun hl => ?_⟩
  have h3 := h2.1
  have h4 : (looks ops y.1).contains d = true := by simpa using hl
  rw [h4] at h3
  simp only [Bool.true_and, Bool.not_eq_true', Bool.and_eq_false_iff, Bool.not_eq_false'] at h3
  exact h3

theorem drawR_ok (hev : EvOk P ev) (hN : NoOwn P) {l : List ROper} (hl2 : omap (decOper P ops) ops.toList = some l) (hcheck1 : edgesB P ops = true)
    (hcheck2 : allBut (List.take (planTail (Region.before ops).toList ops.size) (ops.toList.zip (Region.before ops).toList)) ops = true)
    {pre : List (ROper × Nat)} {post : List ROper} (hpre : ltake (planTail (Region.before ops).toList ops.size) (l.zip (Region.before ops).toList) = some pre) (hpost : ldrop (planTail (Region.before ops).toList ops.size) l = some post)
    (hchain : ∀ i c bi j d bj, (i, c, bi) ∈ ws → (j, d, bj) ∈ ws → i < j → bj.testBit i = true)
    {t t' : RT} {W' : RW} (hreg : drawR P ev pre post ws t W = some (t', W')) {m : Nat → Loc} {fr : Frame} {cs : List Frame} {K : List Item} {tp : Nat} (hr : Rel m W w) (hl : tlt W.n t) (htr : TR m t fr.tmps) (hm : fr.mode = .run)
    (htd : fr.todo = .inRegion ops (Region.schedule (P.follows .mixedOrders) ops tp) :: K) :
    ∃ m' w' tm, Steps P (lone fr cs w) (lone { fr with tmps := tm, todo := K } cs w') ∧ Rel m' W' w' ∧ Post m W w m' W' w' ∧ tlt W'.n t' ∧ TR m' t' tm := by
  obtain ⟨hlen, hlall⟩ := decRegs_ok hl2
  obtain ⟨hE, hmix⟩ := edges_ok hcheck1
  obtain ⟨hp1, hp2⟩ := ltake_spec _ _ hpre
  obtain ⟨hq1, hq2⟩ := ldrop_spec _ _ hpost
  unfold drawR at hreg
  cases hpr : preR P ev W.n ws pre 0 ⟨t, [], W.l⟩ with
  | none => rw [hpr] at hreg; simp at hreg
  | some q =>
    obtain ⟨t1, sl, V1⟩ := q
    rw [hpr] at hreg
    simp only [fnat_eq] at hreg
    obtain ⟨Tr, ht0, htk, htrace⟩ := preR_trace W.n ws pre 0 _ _ hpr
    have hk : planTail (Region.before ops).toList ops.size ≤ ops.size := planTail_le _ _
    have hzip : (l.zip (Region.before ops).toList).length = ops.size := by simp [hlen, before_size]
    have hprelen : pre.length = planTail (Region.before ops).toList ops.size := by rw [hp2, List.length_take]; omega
    have hget : ∀ j, j < planTail (Region.before ops).toList ops.size → ∃ o ro, ops[j]? = some o ∧ OpOk P ops o ro ∧ pre[j]? = some (ro, (Region.before ops).getD j 0) := by
      intro j hj
      have hjl : j < l.length := by omega
      have hjb : j < (Region.before ops).toList.length := by rw [Array.length_toList, before_size]; omega
      obtain ⟨o, ho, hok⟩ := hlall j l[j] (List.getElem?_eq_getElem hjl)
      refine ⟨o, l[j], ho, hok, ?_⟩
      rw [hp2, List.getElem?_take, if_pos hj, List.getElem?_zip_eq_some (z := (l[j], (Region.before ops).toList[j])) |>.2 ⟨List.getElem?_eq_getElem hjl, List.getElem?_eq_getElem hjb⟩]
      rw [Array.getD_eq_getD_getElem?, ← Array.getElem?_toList, List.getElem?_eq_getElem hjb]
      rfl
    have hP : Pre P ev ops (planTail (Region.before ops).toList ops.size) W.n ws Tr := by
      refine ⟨?_, ?_, by rw [ht0], hchain⟩
      · intro j hj
        obtain ⟨o, ro, ho, hok, hpj⟩ := hget j hj
        have h1 := htrace j _ hpj
        rw [Nat.zero_add] at h1
        obtain ⟨x, hx⟩ := preOne_ok (o := o) hok.put h1
        exact ⟨o, ro, x, ho, hok, hx⟩
      · intro i j oi oj hi hj hij hoi hoj d hd
        have hel : ∀ n on, n < planTail (Region.before ops).toList ops.size → ops[n]? = some on → ((ops.toList.zip (Region.before ops).toList).take (planTail (Region.before ops).toList ops.size))[n]? = some (on, (Region.before ops).getD n 0) := by
          intro n on hn hon
          have hnb : n < (Region.before ops).toList.length := by rw [Array.length_toList, before_size]; omega
          rw [List.getElem?_take, if_pos hn, List.getElem?_zip_eq_some (z := (on, (Region.before ops).toList[n])) |>.2 ⟨by simpa using hon, List.getElem?_eq_getElem hnb⟩]
          rw [Array.getD_eq_getD_getElem?, ← Array.getElem?_toList, List.getElem?_eq_getElem hnb]
          rfl
        exact allBut_ok hcheck2 (hel i oi hi hoi) (hel j oj hj hoj) hij hd
    have hT0 : (Tr 0).t = t := by rw [ht0]
    have hV0 : (Tr 0).V = W.l := by rw [ht0]
    have hTk : (Tr (planTail (Region.before ops).toList ops.size)).t = t1 := by rw [← hprelen, htk]
    have hSk : (Tr (planTail (Region.before ops).toList ops.size)).sl = sl := by rw [← hprelen, htk]
    have hVk : (Tr (planTail (Region.before ops).toList ops.size)).V = V1 := by rw [← hprelen, htk]
    -- the start
    have hoff : ∀ i, (Array.replicate ops.size false).getD i false = false := fun i => by
      rcases Nat.lt_or_ge i ops.size with h | h
      · simp [h]
      · simp [h]
    have hget0 : ∀ b o, (WS ⟨W.n, (Tr 0).V⟩ sl (Array.replicate ops.size false)).get b = some o → W.get b = some o ∨ o = .dead := by
      intro b o hb
      rw [WS_get] at hb
      simp only [hV0] at hb
      split at hb
      · exact .inl hb
      · cases hx : sl.reverse[b - W.n]? with
        | none => rw [hx] at hb; simp at hb
        | some y =>
          rw [hx] at hb
          simp only [Option.map_some, hoff, Option.some.injEq] at hb
          exact .inr hb.symm
    have hle0 : W.n ≤ (WS ⟨W.n, (Tr 0).V⟩ sl (Array.replicate ops.size false)).n := Nat.le_add_right _ _
    have inv0 : Inv ops (planTail (Region.before ops).toList ops.size) ws Tr m W w (Array.replicate ops.size false) m w fr.tmps 0 := by
      refine ⟨Nat.zero_le _, fun j c hj => absurd hj (Nat.not_lt_zero j), fun j c _ _ _ => hoff j, ?_, ?_, ?_, ?_, ?_⟩
      · rw [hSk]
        refine ⟨WS_wf (by show (Tr 0).V.length = W.n; rw [hV0]; exact hr.wf) _ _, ?_, ?_, ?_, fun i g hi => ⟨Nat.lt_of_lt_of_le (hr.glb i g hi).1 hle0, (hr.glb i g hi).2⟩⟩
        · intro b o hb
          rcases hget0 b o hb with h1 | rfl
          · exact hr.obj b o h1
          · trivial
        · intro b o hb
          rcases hget0 b o hb with h1 | rfl
          · exact RObj.lt_mono hle0 (hr.lt b o h1)
          · trivial
        · intro a b x y ha hb hx hy hab
          rcases hget0 a x ha with h1 | rfl
          · rcases hget0 b y hb with h2 | rfl
            · exact hr.inj a b x y h1 h2 hx hy hab
            · simp [RObj.live] at hy
          · simp [RObj.own] at hx
      · rw [hT0]; exact htr.size
      · intro j o d _ hlj _ _
        rw [hoff] at hlj
        simp at hlj
      · intro d _
        rw [hT0]; exact htr.get d
      · rw [hSk]
        refine ⟨fun _ _ => rfl, hle0, Nat.le_refl _, fun _ _ _ => rfl, ?_, rfl, rfl, rfl⟩
        intro b o hb ho
        rcases hget0 b o hb with h1 | rfl
        · exact .inr ⟨b, o, h1, ho, rfl⟩
        · simp [RObj.own] at ho
    have hsched : ∃ tp', Region.schedule (P.follows .mixedOrders) ops tp = Region.linearise.go .any ops ops.size tp' (Array.replicate ops.size false) [] := by
      unfold Region.schedule
      rw [if_pos hmix]
      exact ⟨_, rfl⟩
    obtain ⟨tp', hs2⟩ := hsched
    rw [hs2] at htd
    obtain ⟨m1, w1, arr1, listed1, th1, st1, hall1, inv1⟩ := hP.all hev hN hE rfl hr (by rw [hT0]; exact hl) hV0 cs K ops.size tp' _ m w fr 0 (unl_le _ _) inv0
      (fun j oj _ hlj => by rw [hoff] at hlj; simp at hlj) (by simp) (fun i _ hi => by simp [hi]) hm htd
    -- memory behind them
    have hth : (Tr th1).V = V1 := by
      have hle := inv1.le
      have := hP.vsame (i := th1) (planTail (Region.before ops).toList ops.size - th1) (by omega) fun j c h1 h2 hw => by
        have h3 := inv1.didnt j c h1 (by omega) hw
        rw [hall1 j (by omega)] at h3
        simp at h3
      rw [show th1 + (planTail (Region.before ops).toList ops.size - th1) = planTail (Region.before ops).toList ops.size by omega, hVk] at this
      exact this.symm
    have hW1 : WS ⟨W.n, (Tr th1).V⟩ sl listed1 = ⟨W.n + sl.length, sl.map (·.2) ++ V1⟩ := by
      unfold WS
      rw [hth]
      congr 2
      apply List.map_congr_left
      intro y hy
      obtain ⟨j, ob⟩ := y
      obtain ⟨q, hq⟩ := List.getElem?_of_mem (List.mem_reverse.2 hy)
      obtain ⟨h3, _⟩ := hP.entry _ (Nat.le_refl _) q j ob (by rw [hSk]; exact hq)
      simp only [hall1 j h3, if_true]
    have hrel1 := inv1.rel
    have hpost1 := inv1.post
    rw [hSk, hW1] at hrel1 hpost1
    have htr1 : TR m1 t1 arr1 := by
      refine ⟨?_, fun d => ?_⟩
      · have h2 := hP.num _ (Nat.le_refl _)
        rw [inv1.size, ← h2, hTk]
      · by_cases hw : ∃ j oj, j < planTail (Region.before ops).toList ops.size ∧ ops[j]? = some oj ∧ oj.dst = some d
        · obtain ⟨j, oj, hj, hoj, hdj⟩ := hw
          rw [inv1.wrote j oj d hj (hall1 j hj) hoj hdj, hTk]
        · have hno : ∀ j oj, j < planTail (Region.before ops).toList ops.size → ops[j]? = some oj → oj.dst ≠ some d := fun j oj hj hoj hdj => hw ⟨j, oj, hj, hoj, hdj⟩
          rw [inv1.same d fun j oj hj _ hoj => hno j oj hj hoj, ← hP.first (Nat.le_refl _) hno, hTk]
    have hlt1 : tlt (W.n + sl.length) t1 := by
      have := hP.lows (by rw [hT0]; exact hl) _ (Nat.le_refl _)
      rw [hSk, hTk] at this
      exact this
    have hpl : post.length = ops.size - planTail (Region.before ops).toList ops.size := by rw [hq2, List.length_drop, hlen]
    obtain ⟨m2, w2, tm, st2, hr2, hp2, hl3, ht3⟩ := seqR_ok hev hN post (List.range' (planTail (Region.before ops).toList ops.size) (ops.size - planTail (Region.before ops).toList ops.size)) t1 t' _ W' hreg (by rw [hpl]; simp) (fun j i ro hi hro => by
      have hij : i = planTail (Region.before ops).toList ops.size + j := by
        have := (List.getElem?_eq_some_iff.1 hi).2
        simp at this
        exact this.symm
      subst hij
      rw [hq2, List.getElem?_drop] at hro
      exact hlall _ ro hro) m1 w1 { fr with tmps := arr1, todo := .inRegion ops (List.range' (planTail (Region.before ops).toList ops.size) (ops.size - planTail (Region.before ops).toList ops.size)) :: K } cs K hrel1 hlt1 htr1 hm rfl
    exact ⟨m2, w2, tm, st1.trans st2, hr2, hpost1.trans hp2, hl3, ht3⟩
end
end Go.Rv
