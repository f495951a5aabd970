/- Operations in any order, by what the evaluator notes of each; the evaluator is sound. -/
import Derived.Test.YtgchcfhbcaemoabGreatDoorRvXA
namespace Go.Rv
open Go

theorem hasN_iff {l : List Nat} {c : Nat} : hasN l c = true ↔ c ∈ l := by
  unfold hasN
  rw [List.any_eq_true]
  constructor
  · rintro ⟨x, h1, h2⟩
    rw [← Nat.eq_of_beq_eq_true h2]; exact h1
  · exact fun h => ⟨c, h, Nat.beq_refl c⟩

theorem viewL_at (p w : Nat → Bool) : ∀ (l : List RObj) (n : Nat), l.length = n → ∀ i, (viewL p w l n)[i]? = (l[i]?).map fun o => if w (n - 1 - i) then o else if p (n - 1 - i) then o.toRo else .dead
  | [], n, h, i => by simp [viewL]
  | o :: r, 0, h, i => by simp at h
  | o :: r, n + 1, h, i => by
    have hr : r.length = n := by simpa using h
    cases i with
    | zero => simp [viewL]
    | succ i =>
      simp only [viewL, List.getElem?_cons_succ]
      rw [viewL_at p w r n hr i]
      rw [show n + 1 - 1 - (i + 1) = n - 1 - i by omega]

theorem viewL_len (p w : Nat → Bool) : ∀ (l : List RObj) (n : Nat), l.length = n → (viewL p w l n).length = n
  | [], n, h => by simpa [viewL] using h
  | o :: r, 0, h => by simp at h
  | o :: r, n + 1, h => by
    have hr : r.length = n := by simpa using h
    simp [viewL, viewL_len p w r n hr]

theorem viewL_get {p w : Nat → Bool} {M : RW} (hM : M.wf) {b : Nat} {o : RObj} (h : (⟨M.n, viewL p w M.l M.n⟩ : RW).get b = some o) : ∃ o1, M.get b = some o1 ∧ o = if w b then o1 else if p b then o1.toRo else .dead := by
  unfold RW.get at h ⊢
  simp only [blt_eq, decide_eq_true_eq, lget_eq] at h ⊢
  split at h
  · rename_i hb
    rw [viewL_at p w M.l M.n hM, Option.map_eq_some_iff] at h
    obtain ⟨o1, h1, h2⟩ := h
    rw [if_pos hb]
    refine ⟨o1, h1, ?_⟩
    rw [← h2, show M.n - 1 - (M.n - 1 - b) = b by omega]
  · simp at h

theorem rget (W : RW) (c : Nat) : W.get c = if c < W.n then W.l[W.n - 1 - c]? else none := by
  unfold RW.get
  simp only [blt_eq, decide_eq_true_eq, lget_eq]

theorem backA_len {n n0 : Nat} {mv : Nat → Bool} {V : RW} : ∀ (wr : List Nat) (l : List RObj), (backA n mv n0 V wr l).length = l.length
  | [], l => rfl
  | c :: r, l => by
    unfold backA
    rw [backA_len r]
    split <;> simp

theorem backA_get {n n0 : Nat} {mv : Nat → Bool} {V : RW} {b : Nat} (hb : b < n0) : ∀ (wr : List Nat) (l : List RObj), l.length = n0 →
    (backA n mv n0 V wr l)[n0 - 1 - b]? = if hasN wr b then some (keepB n mv ((V.get b).getD .dead)) else l[n0 - 1 - b]?
  | [], l, hl => by simp [backA, hasN]
  | c :: r, l, hl => by
    unfold backA
    rw [backA_get hb r _ (by split <;> simp [hl])]
    by_cases hr : hasN r b = true
    · have : hasN (c :: r) b = true := hasN_iff.2 (List.mem_cons_of_mem _ (hasN_iff.1 hr))
      rw [if_pos hr, if_pos this]
    · rw [if_neg hr]
      by_cases hc : c = b
      · subst hc
        have : hasN (c :: r) c = true := hasN_iff.2 List.mem_cons_self
        rw [if_pos this, if_pos (by rw [blt_eq]; simpa using hb), List.getElem?_set_self (by omega)]
      · have : ¬ hasN (c :: r) b = true := fun h => by
          rcases List.mem_cons.1 (hasN_iff.1 h) with h | h
          · exact hc h.symm
          · exact hr (hasN_iff.2 h)
        rw [if_neg this]
        split
        · rename_i hcn
          rw [blt_eq, decide_eq_true_eq] at hcn
          rw [List.getElem?_set_ne (by omega)]
        · rfl

section
variable [Env] {P : Program} {ev : Ev} {ops : Array Oper}

theorem anyOne_ok {L i b : Nat} {ws : Wrs} {o : Oper} {r : ROper} {ft : Option FootF} {s s' : AS} (hput : PutOk r.put o.dst) (hwf : s.M.wf) (h : anyOne P ev L ws ((r, b), ft) i s = some s') :
    ∃ x e, s'.log = e :: s.log ∧ e.j = i ∧ e.bits = b ∧ e.lo = s.M.n ∧ e.hi = s'.M.n ∧ (e.al = true → e.wr = []) ∧ (∀ c, hasN e.wr c = true → c < s.M.n) ∧
      AStep 0 P ev s.t s'.t s.M s'.M (fun c => hasN e.wr c || (Nat.ble s.M.n c && Nat.blt c s'.M.n)) (fun c => lookA L b s.log s.M.n e.rd e.wr e.al e.ex c) (fun c => seenA L b s.log c) o r x := by
  obtain ⟨t, M, log⟩ := s
  simp only at hwf
  unfold anyOne at h
  simp only at h
  split at h
  · rename_i hw
    have main : ∀ (rd wr : List Nat) (al : Bool), (al = true → wr = []) → anyRun P ev L ws r i b t M log rd wr al = some s' →
        ∃ x e, s'.log = e :: log ∧ e.j = i ∧ e.bits = b ∧ e.lo = M.n ∧ e.hi = s'.M.n ∧ (e.al = true → e.wr = []) ∧ (∀ c, hasN e.wr c = true → c < M.n) ∧
          AStep 0 P ev t s'.t M s'.M (fun c => hasN e.wr c || (Nat.ble M.n c && Nat.blt c s'.M.n)) (fun c => lookA L b log M.n e.rd e.wr e.al e.ex c) (fun c => seenA L b log c) o r x := by
      intro rd wr al hal h
      unfold anyRun at h
      split at h
      case isFalse => simp at h
      rename_i hwr
      have hwr : ∀ c, hasN wr c = true → c < M.n := fun c hc => by
        have := List.all_eq_true.1 hwr c (hasN_iff.1 hc)
        rw [blt_eq, decide_eq_true_eq] at this
        exact this
      unfold anyEnd at h
      split at h
      case h_2 => simp at h
      rename_i q x V' he
      rw [fnat_eq] at h
      split at h
      case isFalse => simp at h
      rename_i hc
      simp only [Bool.and_eq_true] at hc
      obtain ⟨⟨c1, c2⟩, c3⟩ := hc
      have c1 := Nat.le_of_ble_eq_true c1
      split at h
      case h_2 => simp at h
      rename_i t' hp
      split at h
      case h_2 => simp at h
      rename_i l hl
      simp only [Option.some.injEq] at h
      subst h
      obtain ⟨l1, l2⟩ := ltake_spec _ _ hl
      have hll : l.length = V'.n - M.n := by rw [l2, List.length_take]; omega
      obtain ⟨p1, p2, p3⟩ := hput t t' x hp
      let mv : Nat → Bool := fun c => (Nat.ble M.n c && Nat.blt c V'.n) || seenA L b log c
      have hmade : ∀ c, mv c = true → madeA (fun c => seenA L b log c) M.n V'.n c = true := fun c hc => by
        unfold madeA
        have hc' : ((Nat.ble M.n c && Nat.blt c V'.n) || seenA L b log c) = true := hc
        rw [Bool.or_comm]; exact hc'
      -- memory behind it
      have hget : ∀ c, (⟨V'.n, l.map (keepB V'.n mv) ++ backA V'.n mv M.n V' wr M.l⟩ : RW).get c =
          if c < M.n then (if hasN wr c then some (keepB V'.n mv ((V'.get c).getD .dead)) else M.get c) else if c < V'.n then some (keepB V'.n mv ((V'.get c).getD .dead)) else none := by
        intro c
        rw [rget ⟨V'.n, l.map (keepB V'.n mv) ++ backA V'.n mv M.n V' wr M.l⟩ c]
        show (if c < V'.n then (l.map (keepB V'.n mv) ++ backA V'.n mv M.n V' wr M.l)[V'.n - 1 - c]? else none) = _
        by_cases hcm : c < M.n
        · rw [if_pos hcm, if_pos (show c < V'.n by omega), List.getElem?_append_right (by rw [List.length_map]; omega), List.length_map, show V'.n - 1 - c - l.length = M.n - 1 - c by omega,
            backA_get hcm wr M.l hwf, rget M c, if_pos hcm]
        · rw [if_neg hcm]
          by_cases hcn : c < V'.n
          · rw [if_pos hcn, if_pos hcn, List.getElem?_append_left (by rw [List.length_map]; omega), List.getElem?_map, l2, List.getElem?_take, if_pos (by omega), rget V' c, if_pos hcn]
            have hlt : V'.n - 1 - c < V'.l.length := by omega
            rw [List.getElem?_eq_getElem hlt]
            rfl
          · rw [if_neg hcn, if_neg hcn]
      have hD : ∀ c ob, (hasN wr c || (Nat.ble M.n c && Nat.blt c V'.n)) = true → (⟨V'.n, l.map (keepB V'.n mv) ++ backA V'.n mv M.n V' wr M.l⟩ : RW).get c = some ob → ob = keepB V'.n mv ((V'.get c).getD .dead) := by
        intro c ob hd hg
        rw [hget] at hg
        by_cases hcm : c < M.n
        · rw [if_pos hcm] at hg
          have : hasN wr c = true := by
            rw [Bool.or_eq_true, Bool.and_eq_true] at hd
            rcases hd with hd | ⟨hd, _⟩
            · exact hd
            · have := Nat.le_of_ble_eq_true hd; omega
          rw [if_pos this] at hg
          exact (Option.some.inj hg).symm
        · rw [if_neg hcm] at hg
          split at hg
          · exact (Option.some.inj hg).symm
          · simp at hg
      refine ⟨x, ⟨i, b, M.n, V'.n, rd, wr, al, exA ws i b⟩, rfl, rfl, rfl, rfl, rfl, hal, hwr, p1, p2, p3, ?_, c1, ?_, ?_, c2, names_mono (fun c hc => hmade c hc) x c3, ?_, ?_, fun c hc => absurd hc (Nat.not_lt_zero c), .inr ⟨hw, ⟨M.n, viewL (lookA L b log M.n rd wr al (exA ws i b)) (hasN wr) M.l M.n⟩, V', ⟨viewL_len _ _ _ _ hwf, rfl, ?_⟩, he, rfl, ?_, fun c _ hc => absurd hc (Nat.not_lt_zero c)⟩⟩
      · show (l.map (keepB V'.n mv) ++ backA V'.n mv M.n V' wr M.l).length = V'.n
        rw [List.length_append, List.length_map, backA_len, hll, show M.l.length = M.n from hwf]
        omega
      · intro c hc
        unfold lookA at hc
        rw [Bool.and_eq_true, blt_eq, decide_eq_true_eq] at hc
        exact hc.1
      · intro c hd
        rw [Bool.or_eq_false_iff] at hd
        rw [hget]
        by_cases hcm : c < M.n
        · rw [if_pos hcm, if_neg (by rw [hd.1]; simp)]
        · rw [if_neg hcm]
          have : ¬ c < V'.n := fun hcn => by
            have h1 : (Nat.ble M.n c && Nat.blt c V'.n) = true := by
              rw [Bool.and_eq_true, blt_eq, decide_eq_true_eq]
              exact ⟨Nat.ble_eq_true_of_le (by omega), hcn⟩
            rw [h1] at hd
            exact absurd hd.2 (by simp)
          rw [if_neg this, get_ge' (by omega)]
      · intro c ob hd hg
        rw [hD c ob hd hg]
        exact newB_mono (Nat.le_refl _) (fun c hc => hmade c hc) (keepB_spec _).1
      · intro c ob hd hg hlv
        rw [hD c ob hd hg] at hlv ⊢
        rcases (keepB_spec (n := V'.n) (p := mv) ((V'.get c).getD .dead)).2 with h1 | ⟨h1, h2⟩
        · rw [h1] at hlv; simp [RObj.live] at hlv
        · rw [h1]; exact h2
      · intro c ob hg
        obtain ⟨o1, h1, h2⟩ := viewL_get hwf hg
        by_cases hwc : hasN wr c = true
        · rw [if_pos hwc] at h2
          refine .inr (.inl ⟨?_, o1, h1, .inr ⟨h2, by show (hasN wr c || _) = true; rw [hwc]; rfl⟩⟩)
          show lookA L b log M.n rd wr al (exA ws i b) c = true
          unfold lookA
          rw [Bool.and_eq_true, blt_eq, decide_eq_true_eq]
          refine ⟨get_lt h1, ?_⟩
          cases al with
          | true => rw [hal rfl] at hwc; simp [hasN] at hwc
          | false =>
            simp only
            rw [show (wr.any fun x => Nat.beq x c) = true from hwc, Bool.or_true]
        · rw [if_neg hwc] at h2
          split at h2
          · rename_i hlk
            exact .inr (.inl ⟨hlk, o1, h1, .inl h2⟩)
          · exact .inl h2
      · intro c ob hd hg
        rw [hD c ob hd hg]
        rcases (keepB_spec (n := V'.n) (p := mv) ((V'.get c).getD .dead)).2 with h1 | ⟨h1, h2⟩
        · exact .inl h1
        · rw [h1]
          cases hv : V'.get c with
          | none => exact .inl rfl
          | some o2 => exact .inr rfl
    split at h
    · exact main _ _ false (fun h => by simp at h) h
    · exact main _ _ true (fun _ => rfl) h
  · rename_i hw
    split at h
    case h_2 => simp at h
    rename_i t' hp
    simp only [Option.some.injEq] at h
    subst h
    obtain ⟨p1, p2, p3⟩ := hput t t' ud hp
    refine ⟨ud, ⟨i, b, M.n, M.n, [], [], false, []⟩, rfl, rfl, rfl, rfl, rfl, fun h => by simp at h, fun c hc => by simp [hasN] at hc, p1, p2, p3, hwf, Nat.le_refl _, ?_, fun _ _ => rfl, rfl, rfl, ?_, ?_, fun c hc => absurd hc (Nat.not_lt_zero c), .inl ⟨by simpa using hw, rfl, rfl, ?_⟩⟩
    · intro c hc
      simp [lookA] at hc
    · intro c ob hd
      exfalso
      simp only [hasN, List.any_nil, Bool.false_or, Bool.and_eq_true, blt_eq, decide_eq_true_eq] at hd
      have := Nat.le_of_ble_eq_true hd.1
      omega
    · intro c ob hd
      exfalso
      simp only [hasN, List.any_nil, Bool.false_or, Bool.and_eq_true, blt_eq, decide_eq_true_eq] at hd
      have := Nat.le_of_ble_eq_true hd.1
      omega
    · intro c
      cases hd : (hasN [] c || (Nat.ble M.n c && Nat.blt c M.n)) with
      | false => rfl
      | true =>
        exfalso
        simp only [hasN, List.any_nil, Bool.false_or, Bool.and_eq_true, blt_eq, decide_eq_true_eq] at hd
        have := Nat.le_of_ble_eq_true hd.1
        omega

theorem anyGo_trace (L : Nat) (ws : Wrs) : ∀ (l : List ((ROper × Nat) × Option FootF)) (i : Nat) (s s' : AS), anyGo P ev L ws l i s = some s' →
    ∃ Tr : Nat → AS, Tr 0 = s ∧ Tr l.length = s' ∧ ∀ (j : Nat) (x : (ROper × Nat) × Option FootF), l[j]? = some x → anyOne P ev L ws x (i + j) (Tr j) = some (Tr (j + 1))
  | [], i, s, s', h => by
    have h' : some s = some s' := h
    simp only [Option.some.injEq] at h'
    exact ⟨fun _ => s, rfl, h', fun j x hx => by simp at hx⟩
  | y :: l, i, s, s', h => by
    unfold anyGo at h
    split at h
    case h_2 => simp at h
    rename_i q he
    rw [fnat_eq] at h
    obtain ⟨Tr, h1, h2, h3⟩ := anyGo_trace L ws l (i + 1) q s' h
    refine ⟨fun j => match j with | 0 => s | j + 1 => Tr j, rfl, h2, ?_⟩
    intro j x hx
    cases j with
    | zero =>
      simp only [List.getElem?_cons_zero, Option.some.injEq] at hx
      subst hx
      simp only [Nat.add_zero, he, h1]
    | succ j =>
      have := h3 j x (by simpa using hx)
      rw [show i + (j + 1) = i + 1 + j by omega]
      exact this

/-- what is noted of the operation j -/
def entAt (Tr : Nat → AS) (j : Nat) : Ent := match (Tr (j + 1)).log with
  | e :: _ => e
  | [] => ⟨0, 0, 0, 0, [], [], false, []⟩

theorem anyR_ok (hev : EvOk P ev) (hN : NoOwn P) {l : List ROper} (hl2 : omap (decOper P ops) ops.toList = some l) (hcheck1 : edgesB P ops = true)
    (hcheck2 : allBut (List.take (planTail (Region.before ops).toList ops.size) (ops.toList.zip (Region.before ops).toList)) ops = true)
    {pre : List (ROper × Nat)} {post : List ROper} {fts : List (Option FootF)} (hfts : fts.length = ops.size) (hpre : ltake (planTail (Region.before ops).toList ops.size) (l.zip (Region.before ops).toList) = some pre) (hpost : ldrop (planTail (Region.before ops).toList ops.size) l = some post)
    {ws : Wrs} {w : World} {t t' : RT} {W W' : RW} (hreg : anyR P ev (pre.zip fts) post ws t W = some (t', W')) {m : Nat → Loc} {fr : Frame} {cs : List Frame} {K : List Item} {tp : Nat} (hr : Rel m W w) (hl : tlt W.n t) (htr : TR m t fr.tmps) (hm : fr.mode = .run)
    (htd : fr.todo = .inRegion ops (Region.schedule (P.follows .mixedOrders) ops tp) :: K) :
    ∃ m' w' tm, Steps P (lone fr cs w) (lone { fr with tmps := tm, todo := K } cs w') ∧ Rel m' W' w' ∧ Post m W w m' W' w' ∧ tlt W'.n t' ∧ TR m' t' tm := by
  obtain ⟨hlen, hlall⟩ := decRegs_ok hl2
  obtain ⟨hE, hmix⟩ := edges_ok hcheck1
  obtain ⟨hp1, hp2⟩ := ltake_spec _ _ hpre
  obtain ⟨hq1, hq2⟩ := ldrop_spec _ _ hpost
  unfold anyR at hreg
  split at hreg
  case h_2 => simp at hreg
  rename_i sk hgo
  split at hreg
  case isFalse => simp at hreg
  rename_i hapart
  obtain ⟨Tr, ht0, htk, htrace⟩ := anyGo_trace W.n ws (pre.zip fts) 0 _ _ hgo
  generalize hkdef : planTail (Region.before ops).toList ops.size = k at *
  have hk : k ≤ ops.size := by rw [← hkdef]; exact planTail_le _ _
  have hzip : (l.zip (Region.before ops).toList).length = ops.size := by simp [hlen, before_size]
  have hprelen : pre.length = k := by rw [hp2, List.length_take]; omega
  have hzlen : (pre.zip fts).length = k := by rw [List.length_zip]; omega
  rw [hzlen] at htk
  have hget : ∀ j, j < k → ∃ o ro ft, ops[j]? = some o ∧ OpOk P ops o ro ∧ (pre.zip fts)[j]? = some ((ro, (Region.before ops).getD j 0), ft) := by
    intro j hj
    have hjl : j < l.length := by omega
    have hjb : j < (Region.before ops).toList.length := by rw [Array.length_toList, before_size]; omega
    obtain ⟨o, ho, hok⟩ := hlall j l[j] (List.getElem?_eq_getElem hjl)
    have hpj : pre[j]? = some (l[j], (Region.before ops).getD j 0) := by
      rw [hp2, List.getElem?_take, if_pos hj, List.getElem?_zip_eq_some (z := (l[j], (Region.before ops).toList[j])) |>.2 ⟨List.getElem?_eq_getElem hjl, List.getElem?_eq_getElem hjb⟩]
      rw [Array.getD_eq_getD_getElem?, ← Array.getElem?_toList, List.getElem?_eq_getElem hjb]
      rfl
    have hjf : j < fts.length := by omega
    exact ⟨o, l[j], fts[j], ho, hok, List.getElem?_zip_eq_some (z := ((l[j], (Region.before ops).getD j 0), fts[j])) |>.2 ⟨hpj, List.getElem?_eq_getElem hjf⟩⟩
  have hstep : ∀ j, j < k → (Tr j).M.wf → ∃ o ro x, ops[j]? = some o ∧ OpOk P ops o ro ∧ (Tr (j + 1)).log = entAt Tr j :: (Tr j).log ∧ (entAt Tr j).j = j ∧ (entAt Tr j).bits = bitsOf ops j ∧ (entAt Tr j).lo = (Tr j).M.n ∧ (entAt Tr j).hi = (Tr (j + 1)).M.n ∧
      ((entAt Tr j).al = true → (entAt Tr j).wr = []) ∧ (∀ c, hasN (entAt Tr j).wr c = true → c < (Tr j).M.n) ∧
      AStep 0 P ev (Tr j).t (Tr (j + 1)).t (Tr j).M (Tr (j + 1)).M (fun c => hasN (entAt Tr j).wr c || (Nat.ble (Tr j).M.n c && Nat.blt c (Tr (j + 1)).M.n))
        (fun c => lookA W.n (bitsOf ops j) (Tr j).log (Tr j).M.n (entAt Tr j).rd (entAt Tr j).wr (entAt Tr j).al (entAt Tr j).ex c) (fun c => seenA W.n (bitsOf ops j) (Tr j).log c) o ro x := by
    intro j hj hwf
    obtain ⟨o, ro, ft, ho, hok, hpj⟩ := hget j hj
    have h1 := htrace j _ hpj
    rw [Nat.zero_add] at h1
    obtain ⟨x, e, g1, g2, g3, g4, g5, g6, g7, g8⟩ := anyOne_ok hok.put hwf h1
    have he : entAt Tr j = e := by unfold entAt; rw [g1]
    rw [he]
    exact ⟨o, ro, x, ho, hok, g1, g2, g3, g4, g5, g6, g7, g8⟩
  have hwf : ∀ j, j ≤ k → (Tr j).M.wf := by
    intro j
    induction j with
    | zero => intro _; rw [ht0]; exact hr.wf
    | succ j ih =>
      intro hj
      obtain ⟨_, _, _, _, _, _, _, _, _, _, _, _, st⟩ := hstep j (by omega) (ih (by omega))
      exact st.wf
  have hS := fun j hj => hstep j hj (hwf j (by omega))
  have hmono : ∀ i j, i ≤ j → j ≤ k → (Tr i).M.n ≤ (Tr j).M.n := by
    intro i j hij
    induction j with
    | zero => intro _; rw [show i = 0 by omega]; exact Nat.le_refl _
    | succ j ih =>
      intro hj
      rcases Nat.lt_or_ge i (j + 1) with h1 | h1
      · obtain ⟨_, _, _, _, _, _, _, _, _, _, _, _, st⟩ := hS j (by omega)
        exact Nat.le_trans (ih (by omega) (by omega)) st.mono
      · rw [show i = j + 1 by omega]; exact Nat.le_refl _
  have hlog : ∀ j, j ≤ k → (∀ e ∈ (Tr j).log, ∃ i, i < j ∧ e = entAt Tr i) ∧ ∀ i, i < j → entAt Tr i ∈ (Tr j).log := by
    intro j
    induction j with
    | zero =>
      intro _
      rw [ht0]
      exact ⟨fun e he => by simp at he, fun i hi => by omega⟩
    | succ j ih =>
      intro hj
      obtain ⟨_, _, _, _, _, hl1, _⟩ := hS j (by omega)
      obtain ⟨i1, i2⟩ := ih (by omega)
      rw [hl1]
      refine ⟨fun e he => ?_, fun i hi => ?_⟩
      · rcases List.mem_cons.1 he with rfl | he
        · exact ⟨j, by omega, rfl⟩
        · obtain ⟨i, h1, h2⟩ := i1 e he
          exact ⟨i, by omega, h2⟩
      · by_cases hij : i = j
        · subst hij; exact List.mem_cons_self
        · exact List.mem_cons_of_mem _ (i2 i (by omega))
  have hap : ∀ j, j ≤ k → apartL (Tr j).log = true := by
    intro j hj
    have key : ∀ d, d ≤ k → apartL (Tr (k - d)).log = true := by
      intro d
      induction d with
      | zero => intro _; rw [Nat.sub_zero, htk]; exact hapart
      | succ d ih =>
        intro hd
        have h1 := ih (by omega)
        obtain ⟨_, _, _, _, _, hl1, _⟩ := hS (k - (d + 1)) (by omega)
        rw [show k - (d + 1) + 1 = k - d by omega] at hl1
        rw [hl1] at h1
        unfold apartL at h1
        rw [Bool.and_eq_true] at h1
        exact h1.2
    have := key (k - j) (by omega)
    rwa [show k - (k - j) = j by omega] at this
  have hpair : ∀ i j, i < j → j < k → apartE (entAt Tr i) (entAt Tr j) = true := by
    intro i j hij hj
    obtain ⟨_, _, _, _, _, hl1, _⟩ := hS j hj
    have h1 := hap (j + 1) (by omega)
    rw [hl1] at h1
    unfold apartL at h1
    rw [Bool.and_eq_true] at h1
    exact List.all_eq_true.1 h1.1 _ ((hlog j (by omega)).2 i hij)
  have hM0 : (Tr 0).M = W := by rw [ht0]
  have hT0 : (Tr 0).t = t := by rw [ht0]
  have hrange : ∀ (lo hi c : Nat), (Nat.ble lo c && Nat.blt c hi) = true ↔ lo ≤ c ∧ c < hi := by
    intro lo hi c
    rw [Bool.and_eq_true, blt_eq, decide_eq_true_eq]
    exact ⟨fun h => ⟨Nat.le_of_ble_eq_true h.1, h.2⟩, fun h => ⟨Nat.ble_eq_true_of_le h.1, h.2⟩⟩
  -- a name that was made by an operation
  have hseen : ∀ i j b, i < k → j < k → seenA W.n (bitsOf ops j) (Tr j).log b = true → (Tr i).M.n ≤ b → b < (Tr (i + 1)).M.n → (bitsOf ops j).testBit i = true := by
    intro i j b hi hj hs h1 h2
    have hWi : W.n ≤ (Tr i).M.n := by
      have := hmono 0 i (by omega) (by omega)
      rwa [hM0] at this
    unfold seenA at hs
    rw [Bool.or_eq_true, blt_eq, decide_eq_true_eq] at hs
    rcases hs with hs | hs
    · omega
    · rw [List.any_eq_true] at hs
      obtain ⟨e, he, hs⟩ := hs
      rw [Bool.and_eq_true, hrange] at hs
      obtain ⟨i2, h3, rfl⟩ := (hlog j (by omega)).1 e he
      obtain ⟨_, _, _, _, _, _, g1, _, g3, g4, _, _, _⟩ := hS i2 (by omega)
      rw [g1, g3, g4] at hs
      have : i2 = i := by
        rcases Nat.lt_trichotomy i2 i with h4 | h4 | h4
        · have := hmono (i2 + 1) i (by omega) (by omega); omega
        · exact h4
        · have := hmono (i + 1) i2 (by omega) (by omega); omega
      rw [← this]
      exact hs.2
  have hA : Any 0 P ev ops k (fun j => (Tr j).t) (fun j => (Tr j).M) (fun j c => hasN (entAt Tr j).wr c || (Nat.ble (Tr j).M.n c && Nat.blt c (Tr (j + 1)).M.n))
      (fun j c => lookA W.n (bitsOf ops j) (Tr j).log (Tr j).M.n (entAt Tr j).rd (entAt Tr j).wr (entAt Tr j).al (entAt Tr j).ex c) (fun j c => seenA W.n (bitsOf ops j) (Tr j).log c) := by
    refine ⟨hk, ?_, ?_, ?_, ?_⟩
    · intro i hi
      obtain ⟨o, ro, x, ho, hok, _, _, _, _, _, _, _, st⟩ := hS i hi
      exact ⟨o, ro, x, ho, hok, st⟩
    · intro i j oi oj hi hj hij hoi hoj d hd
      have hel : ∀ n on, n < k → ops[n]? = some on → ((ops.toList.zip (Region.before ops).toList).take k)[n]? = some (on, (Region.before ops).getD n 0) := by
        intro n on hn hon
        have hnb : n < (Region.before ops).toList.length := by rw [Array.length_toList, before_size]; omega
        rw [List.getElem?_take, if_pos hn, List.getElem?_zip_eq_some (z := (on, (Region.before ops).toList[n])) |>.2 ⟨by simpa using hon, List.getElem?_eq_getElem hnb⟩]
        rw [Array.getD_eq_getD_getElem?, ← Array.getElem?_toList, List.getElem?_eq_getElem hnb]
        rfl
      exact allBut_ok hcheck2 (hel i oi hi hoi) (hel j oj hj hoj) hij hd
    · intro i j b hi hj hij hd hdf
      obtain ⟨_, _, _, _, _, _, i1, i2, i3, i4, i5, i6, sti⟩ := hS i hi
      obtain ⟨_, _, _, _, _, _, j1, j2, j3, j4, j5, j6, stj⟩ := hS j hj
      have hcases : ∀ n : Nat, (hasN (entAt Tr n).wr b || (Nat.ble (Tr n).M.n b && Nat.blt b (Tr (n + 1)).M.n)) = true → hasN (entAt Tr n).wr b = true ∨ ((Tr n).M.n ≤ b ∧ b < (Tr (n + 1)).M.n) := by
        intro n h
        rw [Bool.or_eq_true, hrange] at h
        exact h
      have hlook : ∀ n : Nat, lookA W.n (bitsOf ops n) (Tr n).log (Tr n).M.n (entAt Tr n).rd (entAt Tr n).wr (entAt Tr n).al (entAt Tr n).ex b = true → b < (Tr n).M.n ∧ touchB (entAt Tr n) b = true ∧
          ((entAt Tr n).al = true → seenA W.n (bitsOf ops n) (Tr n).log b = true) ∧ ((entAt Tr n).al = false → hasN (entAt Tr n).rd b = true ∨ hasN (entAt Tr n).wr b = true) := by
        intro n h
        unfold lookA at h
        rw [Bool.and_eq_true, blt_eq, decide_eq_true_eq] at h
        refine ⟨h.1, ?_⟩
        have h2 := h.2
        unfold touchB
        cases hal : (entAt Tr n).al with
        | true =>
          rw [hal] at h2
          simp only [Bool.and_eq_true] at h2
          refine ⟨?_, fun _ => h2.1, fun h => by simp at h⟩
          rw [Bool.or_eq_true]
          exact .inr h2.2
        | false =>
          rw [hal] at h2
          simp only [Bool.or_eq_true] at h2
          have h2' : hasN (entAt Tr n).rd b = true ∨ hasN (entAt Tr n).wr b = true := h2
          refine ⟨?_, fun h => by simp at h, fun _ => h2'⟩
          rw [Bool.or_eq_true]
          exact h2'.symm
      have htouchw : ∀ n : Nat, hasN (entAt Tr n).wr b = true → touchB (entAt Tr n) b = true := fun n h => by unfold touchB; rw [h]; rfl
      have hnot : ∀ {l : List Nat} {q : Nat → Bool}, l.all (fun c => !q c) = true → hasN l b = true → q b = false := by
        intro l q h1 h2
        have := List.all_eq_true.1 h1 b (hasN_iff.1 h2)
        simpa using this
      rcases Nat.lt_or_gt_of_ne hij with hlt | hlt
      · -- the writer stands first
        have hp := hpair i j hlt hj
        unfold apartE at hp
        rw [Bool.or_eq_true, j2, i1] at hp
        rcases hp with hp | hp
        · exact .inl hp
        · simp only [Bool.and_eq_true] at hp
          obtain ⟨⟨q1, q2⟩, q3, q4⟩ := hp
          have hmij := hmono (i + 1) j (by omega) (by omega)
          rcases hcases i hd with hw | hn
          · exfalso
            have hbi := i6 b hw
            have ht := hnot q1 hw
            have hmi := hmono i j (by omega) (by omega)
            rcases hdf with hdf | hdf
            · rcases hcases j hdf with hw2 | hn2
              · rw [htouchw j hw2] at ht; simp at ht
              · omega
            · rw [(hlook j hdf).2.1] at ht; simp at ht
          · have hin : (Nat.ble (entAt Tr i).lo b && Nat.blt b (entAt Tr i).hi) = true := by rw [hrange, i3, i4]; exact hn
            have noW : hasN (entAt Tr j).wr b = true → False := fun hw2 => by
              have := hnot q3 hw2
              rw [hin] at this; simp at this
            rcases hdf with hdf | hdf
            · rcases hcases j hdf with hw2 | hn2
              · exact (noW hw2).elim
              · omega
            · obtain ⟨f1, f2, f3, f4⟩ := hlook j hdf
              cases hal : (entAt Tr j).al with
              | true => exact .inl (hseen i j b hi hj (f3 hal) hn.1 hn.2)
              | false =>
                rcases f4 hal with hr2 | hw2
                · rw [hal, Bool.false_or] at q4
                  have := hnot q4 hr2
                  rw [hin] at this; simp at this
                · exact (noW hw2).elim
      · -- the writer stands behind
        have hp := hpair j i hlt hi
        unfold apartE at hp
        rw [Bool.or_eq_true, i2, j1] at hp
        rcases hp with hp | hp
        · exact .inr hp
        · exfalso
          simp only [Bool.and_eq_true] at hp
          obtain ⟨⟨q1, q2⟩, q3, q4⟩ := hp
          have hmij := hmono (j + 1) i (by omega) (by omega)
          have hmji := hmono j i (by omega) (by omega)
          rcases hcases i hd with hw | hn
          · have ht := hnot q2 hw
            rcases hdf with hdf | hdf
            · rcases hcases j hdf with hw2 | hn2
              · rw [htouchw j hw2] at ht; simp at ht
              · have h3 := hnot q3 hw
                have hin : (Nat.ble (entAt Tr j).lo b && Nat.blt b (entAt Tr j).hi) = true := by rw [hrange, j3, j4]; exact hn2
                rw [hin] at h3; simp at h3
            · rw [(hlook j hdf).2.1] at ht; simp at ht
          · rcases hdf with hdf | hdf
            · rcases hcases j hdf with hw2 | hn2
              · have := j6 b hw2; omega
              · omega
            · have := (hlook j hdf).1; omega
    · intro i j b hi hj hs h1 h2
      exact hseen i j b hi hj hs h1 h2
  have hsched : ∃ tp', Region.schedule (P.follows .mixedOrders) ops tp = Region.linearise.go .any ops ops.size tp' (Array.replicate ops.size false) [] := by
    unfold Region.schedule
    rw [if_pos hmix]
    exact ⟨_, rfl⟩
  obtain ⟨tp', hs2⟩ := hsched
  rw [hs2] at htd
  obtain ⟨m1, w1, arr1, st1, hr1, hp1', hlt1, htr1⟩ := hA.first_ok hev hN hE hkdef.symm (m := m) (fr := fr) (cs := cs) (K := K) (tp := tp') (w := w) (by rw [hM0]; exact hr) (by rw [hM0, hT0]; exact hl) (by rw [hT0]; exact htr) hm htd
  rw [htk] at hr1 hp1' hlt1 htr1
  rw [hM0] at hp1'
  have hpl : post.length = ops.size - k := by rw [hq2, List.length_drop, hlen]
  obtain ⟨m2, w2, tm, st2, hr2, hp2', hl3, ht3⟩ := seqR_ok hev hN post (List.range' k (ops.size - k)) sk.t t' _ W' hreg (by rw [hpl]; simp) (fun j i ro hi hro => by
    have hij : i = k + j := by
      have := (List.getElem?_eq_some_iff.1 hi).2
      simp at this
      exact this.symm
    subst hij
    rw [hq2, List.getElem?_drop] at hro
    exact hlall _ ro hro) m1 w1 { fr with tmps := arr1, todo := .inRegion ops (List.range' k (ops.size - k)) :: K } cs K hr1 hlt1 htr1 hm rfl
  exact ⟨m2, w2, tm, st1.trans st2, hr2, hp1'.trans hp2', hl3, ht3⟩

theorem drawOk0 (hN : NoOwn P) : ∀ (ev : Ev), EvOk P ev → ∀ (ops : Array Oper) (r : RReg) (t t' : RT) (W W' : RW), decReg0 P ops true = some r → regR0 P ev r t W = some (t', W') →
  ∀ (m : Nat → Loc) (w : World) (fr : Frame) (cs : List Frame) (k : List Item) (tp : Nat), Rel m W w → tlt W.n t → TR m t fr.tmps → fr.mode = .run →
    fr.todo = .inRegion ops (Region.schedule (P.follows .mixedOrders) ops tp) :: k →
    ∃ m' w' tm, Steps P (lone fr cs w) (lone { fr with tmps := tm, todo := k } cs w') ∧ Rel m' W' w' ∧ Post m W w m' W' w' ∧ tlt W'.n t' ∧ TR m' t' tm := by
  intro ev hev ops r t t' W W' hdec hreg m w fr cs K tp hr hl htr hm htd
  unfold decReg0 at hdec
  split at hdec
  · rename_i l hl2
    simp only [if_true] at hdec
    split at hdec
    · rename_i hcheck
      rw [Bool.and_eq_true] at hcheck
      split at hdec
      · rename_i pre post hpre hpost
        split at hdec
        · split at hdec
          · simp only [Option.some.injEq] at hdec
            subst hdec
            unfold regR0 at hreg
            simp only at hreg
            split at hreg
            · split at hreg
              · rename_i q hq
                simp only [Option.some.injEq] at hreg
                subst hreg
                exact anyR_ok hev hN hl2 hcheck.1 hcheck.2 (by simp) hpre hpost hq hr hl htr hm htd
              · exact anyR_ok hev hN hl2 hcheck.1 hcheck.2 (by simp) hpre hpost hreg hr hl htr hm htd
            · split at hreg
              · rename_i q hq
                simp only [Option.some.injEq] at hreg
                subst hreg
                exact anyR_ok hev hN hl2 hcheck.1 hcheck.2 (by simp) hpre hpost hq hr hl htr hm htd
              · exact anyR_ok hev hN hl2 hcheck.1 hcheck.2 (by simp) hpre hpost hreg hr hl htr hm htd
          · simp only [Option.some.injEq] at hdec
            subst hdec
            unfold regR0 at hreg
            simp only at hreg
            split at hreg
            · exact anyR_ok hev hN hl2 hcheck.1 hcheck.2 (by simp) hpre hpost hreg hr hl htr hm htd
            · exact anyR_ok hev hN hl2 hcheck.1 hcheck.2 (by simp) hpre hpost hreg hr hl htr hm htd
        · split at hdec
          · split at hdec
            · rw [fbool_eq] at hdec
              simp only [Option.some.injEq] at hdec
              subst hdec
              unfold regR0 at hreg
              simp only at hreg
              split at hreg
              · rename_i q hq
                simp only [Option.some.injEq] at hreg
                subst hreg
                split at hq
                · exact anyR_ok hev hN hl2 hcheck.1 hcheck.2 (by simp) hpre hpost hq hr hl htr hm htd
                · exact anyR_ok hev hN hl2 hcheck.1 hcheck.2 (by simp) hpre hpost hq hr hl htr hm htd
              · split at hreg
                · split at hreg
                  · rename_i hch
                    refine drawR_ok hev hN hl2 hcheck.1 hcheck.2 hpre hpost ?_ hreg hr hl htr hm htd
                    intro i c bi j d bj h1 h2 hij
                    unfold chainB at hch
                    have h3 := List.all_eq_true.1 hch _ h1
                    have h4 := List.all_eq_true.1 h3 _ h2
                    simpa [blt_eq, hij] using h4
                  · simp at hreg
                · exact drawR_ok hev hN hl2 hcheck.1 hcheck.2 hpre hpost (by simp) hreg hr hl htr hm htd
            · rw [fbool_eq] at hdec
              simp only [Option.some.injEq] at hdec
              subst hdec
              unfold regR0 at hreg
              simp only at hreg
              split at hreg
              · rename_i q hq
                simp only [Option.some.injEq] at hreg
                subst hreg
                split at hq
                · split at hq
                  · rename_i hch
                    refine drawR_ok hev hN hl2 hcheck.1 hcheck.2 hpre hpost ?_ hq hr hl htr hm htd
                    intro i c bi j d bj h1 h2 hij
                    unfold chainB at hch
                    have h3 := List.all_eq_true.1 hch _ h1
                    have h4 := List.all_eq_true.1 h3 _ h2
                    simpa [blt_eq, hij] using h4
                  · simp at hq
                · exact drawR_ok hev hN hl2 hcheck.1 hcheck.2 hpre hpost (by simp) hq hr hl htr hm htd
              · split at hreg
                · exact anyR_ok hev hN hl2 hcheck.1 hcheck.2 (by simp) hpre hpost hreg hr hl htr hm htd
                · exact anyR_ok hev hN hl2 hcheck.1 hcheck.2 (by simp) hpre hpost hreg hr hl htr hm htd
          · rw [fbool_eq] at hdec
            simp only [Option.some.injEq] at hdec
            subst hdec
            unfold regR0 at hreg
            simp only at hreg
            split at hreg
            · split at hreg
              · rename_i hch
                refine drawR_ok hev hN hl2 hcheck.1 hcheck.2 hpre hpost ?_ hreg hr hl htr hm htd
                intro i c bi j d bj h1 h2 hij
                unfold chainB at hch
                have h3 := List.all_eq_true.1 hch _ h1
                have h4 := List.all_eq_true.1 h3 _ h2
                simpa [blt_eq, hij] using h4
              · simp at hreg
            · exact drawR_ok hev hN hl2 hcheck.1 hcheck.2 hpre hpost (by simp) hreg hr hl htr hm htd
      · simp at hdec
    · simp at hdec
  · simp at hdec

theorem drawOk (hN : NoOwn P) : DrawOk P := by
  intro ev hev ops r t t' W W' hdec hreg m w fr cs K tp hr hl htr hm htd
  unfold decReg at hdec
  simp only at hdec
  split at hdec
  · rename_i r0 hr0
    split at hdec
    · simp only [Option.some.injEq] at hdec
      subst hdec
      have hreg' : regR0 P ev r0 t W = some (t', W') := by
        unfold regR at hreg
        split at hreg
        · rename_i us r1
          exact absurd hr0 (by
            intro hx
            unfold decReg0 at hx
            simp only [if_true] at hx
            repeat' split at hx
            all_goals first | (simp only [fbool_eq, Option.some.injEq] at hx; exact RReg.noConfusion hx) | simp at hx)
        · exact hreg
      exact drawOk0 hN ev hev ops r0 t t' W W' hr0 hreg' m w fr cs K tp hr hl htr hm htd
    · rename_i u us _
      simp only [Option.some.injEq] at hdec
      subst hdec
      have hreg' : regR0 P ev r0 t (rotW (u :: us) t W) = some (t', W') := hreg
      obtain ⟨m1, r1, p1⟩ := rotW_ok (u :: us) t hr
      obtain ⟨m', w', tm, st, q1, q2, q3, q4⟩ := drawOk0 hN ev hev ops r0 t t' _ W' hr0 hreg' m1 w fr cs K tp r1 (fun i => below_mono p1.mono _ (hl i)) (htr.agree hl p1.ag) hm htd
      exact ⟨m', w', tm, st, q1, p1.trans q2, q3, q4⟩
  · simp at hdec

variable {m : Nat → Loc} {W : RW} {w : World}

theorem ev_ok (hN : NoOwn P) (n : Nat) : EvOk P (evR P n) := evR_ok hN (drawOk hN) n

theorem CallOk.calls {g : FuncId} {args : List RV} {W' : RW} {x : RV} (h : CallOk P g args W x W') {m : Nat → Loc} (hr : Rel m W w) (hb : belowL W.n args = true) {R : Ending → World → Prop}
    (hR : ∀ m' w', Rel m' W' w' → Post m W w m' W' w' → below W'.n x = true → R (.returned (rv m' x)) w') : Calls P g (args.map (rv m)).toArray w R := by
  intro cs
  obtain ⟨m', w', fr, st, hlv, hfn, hr', hp, hx⟩ := h m w cs hr hb
  exact ⟨_, w', fr, hR m' w' hr' hp hx, st, hfn, hlv⟩

omit [Env] in
/-- what ran over read-only memory left all as it was -/
theorem Post.below {m m' : Nat → Loc} {W' : RW} {w' : World} (h : Post m W w m' W' w') (ho : ∀ b o, W.get b = some o → o.own = false) : RowKit.Below w.heap.size w w' :=
  ⟨h.os, h.tape, h.output, h.size, fun r hr => h.keep r hr fun b o hb hown => by rw [ho b o hb] at hown; simp at hown⟩
end
end Go.Rv
