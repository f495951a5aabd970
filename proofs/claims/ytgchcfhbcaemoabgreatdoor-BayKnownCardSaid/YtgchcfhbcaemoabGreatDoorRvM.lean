/- Each operation that is decoded. -/
import Derived.Test.YtgchcfhbcaemoabGreatDoorRvLB
namespace Go.Rv
open Go
variable [Env]
section
variable {P : Program} {m : Nat → Loc} {t : RT} {W : RW} {arr : Array Value} {w : World} {e : Eff}

omit [Env] in
theorem zip_parts (parts : List (Nat × Operand)) (f : Operand → Value) : (parts.map fun x => (x.1, f x.2)) = (parts.map (·.1)).zip ((parts.map (·.2)).map f) := by
  induction parts with
  | nil => rfl
  | cons p r ih => simp [ih]

omit [Env] in
theorem places_get {places : List (Nat × Nat)} (ks : List Nat) (ps : List (Nat × Nat)) (h : omap (fun k : Nat => lget places k) ks = some ps) :
    ks.map (fun k => places.toArray[k]?) = ps.map some := by
  have := omap_spec h
  simpa [lget_eq] using this

theorem decBuild_ok (c : Cx m t W arr w) {ty : TypeId} {parts : Array (Nat × Operand)} {op : ROp} (h : decBuild P ty parts.toList = some op) (he : op t W = some e) :
    EffOk P m W w (sv (Instr.build ty (parts.map fun (i, x) => (i, evV arr x)))) e := by
  have hparts : (parts.map fun (i, x) => (i, evV arr x)) = ((parts.toList.map (·.1)).zip ((parts.toList.map (·.2)).map (evV arr))).toArray := by
    apply Array.ext'
    rw [Array.toList_map, ← zip_parts]
  rw [hparts]
  unfold decBuild at h
  split at h
  · rename_i ti hti
    split at h
    · rename_i z hz
      split at h
      · rename_i fields hu
        split at h
        · rename_i places hpl
          split at h
          · rename_i ps hps
            obtain ⟨hx, rfl⟩ := withL_spec h
            obtain ⟨o1, o2⟩ := opds_ok c hx
            rw [← o1]
            refine xBuild_ok (places.toArray[·]?) hz (places_get _ _ hps) (by simp) o2 ?_ he
            intro v cells hv hf
            simp only [Program.built, hti, hu, hv, hpl, hf]
          · simp at h
        · simp at h
      · rename_i n el hu
        split at h
        · rename_i i hi
          obtain ⟨hx, rfl⟩ := withL_spec h
          obtain ⟨o1, o2⟩ := opds_ok c hx
          rw [← o1]
          have hzw : ∀ xs : List RV, (parts.toList.map (·.1)).zipWith (fun k x => (k * i.size, i.size, x)) xs = ((parts.toList.map (·.1)).map fun k => (k * i.size, i.size)).zipWith (fun p x => (p.1, p.2, x)) xs := by
            intro xs
            simp only [List.zipWith_map_left]
          have he' : xBuild z ((parts.toList.map (·.1)).zipWith (fun k x => (k * i.size, i.size, x)) ((parts.toList.map (·.2)).map fun x => opd x t)) = some e := he
          rw [hzw] at he'
          refine xBuild_ok (fun k => some (k * i.size, i.size)) hz (by simp) (by simp) o2 ?_ he'
          intro v cells hv hf
          simp only [Program.built, hti, hu, hv, hi, hf]
        · simp at h
      · simp at h
    · simp at h
  · simp at h

theorem xBin2_ok {op : BinOp} {ty : TypeId} {x y : RV} (p q : Operand) (h : xBin2 P op ty x y = some e) :
    EffOk P m W w (sv (do eqGuard op ty p q (rv m x) (rv m y); binOp op ty (rv m x) (rv m y))) e := by
  unfold xBin2 at h
  split at h
  · rename_i cs
    unfold xBinAgg at h
    split at h
    case h_1 => simp at h
    rename_i hg
    split at h
    case h_2 => exact xBin_ok p q h
    rename_i s ks hk
    split at h
    case h_2 => simp at h
    rename_i r hs
    have he := agg_equal (m := m) hk hs w
    have hgu : ∀ op : BinOp, Sem.run P (eqGuard op ty p q (rv m (.agg cs)) (rv m y)) w = .ok () w := by
      intro op
      have hy : ∃ ys, y = .agg ys := by
        cases s with
        | false => simp [sameK, keyCells] at hs
        | true => cases y <;> simp [sameK, keyCells] at hs ⊢
      obtain ⟨ys, rfl⟩ := hy
      have key : ∀ (a b : Array Value), Sem.run P (eqGuard op ty p q (.agg a) (.agg b)) w = .ok () w := by
        intro a b
        unfold eqGuard
        cases op <;> simp [Sem.run_bind, Sem.run_pure, Result.andThen, run_program, hg]
      exact key _ _
    split at h
    · simp only [Option.some.injEq] at h
      subst h
      refine effOk_val rfl ?_
      simp only [Sem.run_bind, hgu, Result.andThen]
      show Sem.run P (Op.equal ty (rv m (.agg cs)) (rv m y) >>= fun b => pure (Value.bool b)) w = _
      rw [Sem.run_bind, he]
      rfl
    · split at h
      · simp only [Option.some.injEq] at h
        subst h
        refine effOk_val rfl ?_
        simp only [Sem.run_bind, hgu, Result.andThen]
        show Sem.run P (Op.equal ty (rv m (.agg cs)) (rv m y) >>= fun b => pure (Value.bool (!b))) w = _
        rw [Sem.run_bind, he]
        rfl
      · simp only [Option.some.injEq] at h
        subst h
        refine effOk_val rfl ?_
        simp only [Sem.run_bind, hgu, Result.andThen]
        show Sem.run P (Op.equal ty (rv m (.agg cs)) (rv m y) >>= fun b => pure (Value.bool (!b))) w = _
        rw [Sem.run_bind, he]
        rfl
    · simp at h
  · unfold xBinNil at h
    split at h
    · rename_i el hu
      split at h
      · have hgu : ∀ (op : BinOp) (a : Option Addr) (n c : Nat) (b : Value), Sem.run P (eqGuard op ty p q (.slice a n c) b) w = .ok () w := by
          intro op a n c b
          unfold eqGuard
          cases op <;> simp [Sem.run_pure]
        have he : ∀ (a : Addr) (n c : Nat), Sem.run P (Op.equal ty (.slice (some a) n c) (.slice none 0 0)) w = .ok false w := by
          intro a n c
          show Sem.run P (Op.equalIn (9999 + 1) ty (.slice (some a) n c) (.slice none 0 0)) w = .ok false w
          unfold Op.equalIn
          simp only [Sem.run_bind, run_underlying hu, Result.andThen_ok]
          rfl
        split at h
        · simp only [Option.some.injEq] at h
          subst h
          refine effOk_val rfl ?_
          simp only [rv, Sem.run_bind, hgu, Result.andThen]
          show Sem.run P (Op.equal ty _ _ >>= fun b => pure (Value.bool b)) w = _
          rw [Sem.run_bind, he]
          rfl
        · simp only [Option.some.injEq] at h
          subst h
          refine effOk_val rfl ?_
          simp only [rv, Sem.run_bind, hgu, Result.andThen]
          show Sem.run P (Op.equal ty _ _ >>= fun b => pure (Value.bool (!b))) w = _
          rw [Sem.run_bind, he]
          rfl
        · simp at h
      · simp at h
    · simp at h
  · exact xBinPtr_ok p q h
  · exact xBin_ok p q h

theorem decBsl_ok (c : Cx m t W arr w) {bt : TypeId} {n : Nat} {parts : Array (Nat × Operand)} {op : ROp} (h : decAlloc P (.buildSlice bt n parts) = some op) (he : op t W = some e) :
    EffOk P m W w (sv (Instr.buildSlice bt n (parts.map fun (i, x) => (i, evV arr x)))) e := by
  have hparts : (parts.map fun (i, x) => (i, evV arr x)) = ((parts.toList.map (·.1)).zip ((parts.toList.map (·.2)).map (evV arr))).toArray := by
    apply Array.ext'
    rw [Array.toList_map, ← zip_parts]
  rw [hparts]
  simp only [decAlloc] at h
  split at h
  · rename_i el hu
    split at h
    · rename_i i hi
      split at h
      · rename_i z hz
        split at h
        · rename_i hc
          obtain ⟨hx, rfl⟩ := withL_spec h
          obtain ⟨o1, o2⟩ := opds_ok c hx
          rw [← o1]
          have he' : xBsl n i.size z ((parts.toList.map (·.1)).zipWith (fun k x => (k * i.size, i.size, x)) ((parts.toList.map (·.2)).map fun x => opd x t)) = some e := he
          have hl : ((parts.toList.map (·.2)).map fun x => opd x t).length = (parts.toList.map (·.1)).length := by simp
          have hc' : n * i.size ≤ 16777216 ∧ 0 < i.size ∧ (0 < n ∨ parts.toList.map (·.1) = []) ∧ z.length = i.size := by
            refine ⟨hc.1, hc.2.1, hc.2.2.1.imp id fun h0 => ?_, hc.2.2.2⟩
            have : parts.toList = [] := List.eq_nil_of_length_eq_zero (by simpa using h0)
            rw [this]; rfl
          exact xBsl_ok (P := P) (m := m) (W := W) (w := w) (ty := bt) (el := el) hu hi hz hc' hl o2 he'
        · simp at h
      · simp at h
    · simp at h
  · simp at h

set_option maxHeartbeats 4000000 in
theorem withS_spec {x : Operand} {lo hi : Option Operand} {k : Opd → Option Opd → Option Opd → ROp} {op : ROp} (h : withS x lo hi k = some op) : okO x = true ∧ okOO lo = true ∧ okOO hi = true ∧ op = k (opd x) (lo.map opd) (hi.map opd) := by
  unfold withS at h
  split at h
  · rename_i hx
    have hx' : (okO x = true ∧ okOO lo = true) ∧ okOO hi = true := by simpa using hx
    exact ⟨hx'.1.1, hx'.1.2, hx'.2, (Option.some.inj h).symm⟩
  · simp at h

theorem opdO_ok (c : Cx m t W arr w) {x : Option Operand} (hx : okOO x = true) : ((x.map opd).map fun f => f t).map (rv m) = x.map (evV arr) := by
  cases x with
  | none => rfl
  | some y => simp [(opd_ok c (show okO y = true from hx)).1]

theorem decOp_ok (c : Cx m t W arr w) {o : Oper} {op : ROp} (h : decOp P o = some op) (he : op t W = some e) : EffOk P m W w (execOp (evV arr) o) e := by
  obtain ⟨dst, oo, ty, pos, after, guard⟩ := o
  cases oo <;> simp only [decOp] at h <;> try (simp at h; done)
  case move x =>
    obtain ⟨hx, rfl⟩ := with1_spec h
    obtain ⟨o1, o2⟩ := opd_ok c hx
    simp only [frv_eq, Option.some.injEq] at he
    subst he
    exact ⟨o2, .value (evV arr x), by simp [execOp], .inl (by rw [o1])⟩
  case assign x =>
    obtain ⟨hx, rfl⟩ := with1_spec h
    obtain ⟨o1, o2⟩ := opd_ok c hx
    simp only [frv_eq, Option.some.injEq] at he
    subst he
    exact ⟨o2, .value (evV arr x), by simp [execOp], .inl (by rw [o1])⟩
  case pick x y z =>
    obtain ⟨hx, hy, hz, rfl⟩ := with3_spec h
    obtain ⟨o1, o2⟩ := opd_ok c hx
    obtain ⟨o3, o4⟩ := opd_ok c hy
    obtain ⟨o5, o6⟩ := opd_ok c hz
    have := xPick_ok (P := P) (m := m) (W := W) (w := w) o4 o6 he
    simpa only [execOp, o1, o3, o5] using this
  case alloc el =>
    simp only [decAlloc] at h
    split at h
    · rename_i i hi
      split at h
      · rename_i z hz
        simp only [Option.some.injEq] at h
        subst h
        simp only [Option.some.injEq] at he
        subst he
        exact alloc_ok hi hz
      · simp at h
    · simp at h
  case box el x =>
    simp only [decAlloc] at h
    obtain ⟨hx, rfl⟩ := with1_spec h
    obtain ⟨o1, o2⟩ := opd_ok c hx
    have := xBox_ok (P := P) (m := m) (w := w) (ty := el) o2 he
    rw [o1] at this
    exact this
  case build bt parts => exact decBuild_ok c h he
  case buildSlice bt n parts =>
    exact decBsl_ok c h he
  case load lt a =>
    unfold decLoad at h
    split at h
    · rename_i i hg hi
      obtain ⟨hx, rfl⟩ := with1_spec h
      obtain ⟨o1, o2⟩ := opd_ok c hx
      have := xLdn_ok (P := P) c.rel hg hi he
      rw [o1] at this
      exact this
    · rename_i i hg hi
      obtain ⟨hx, rfl⟩ := with1_spec h
      obtain ⟨o1, o2⟩ := opd_ok c hx
      have := xLd1_ok (P := P) c.rel hg he
      rw [o1] at this
      exact this
    · simp at h
  case store st a x =>
    split at h
    · rename_i i hi
      obtain ⟨ha, hx, rfl⟩ := with2_spec h
      obtain ⟨o1, o2⟩ := opd_ok c ha
      obtain ⟨o3, o4⟩ := opd_ok c hx
      have := xSt_ok (P := P) c.rel hi o4 he
      rw [o1, o3] at this
      exact this
    · simp at h
  case nilCheck x =>
    obtain ⟨hx, rfl⟩ := with1_spec h
    obtain ⟨o1, o2⟩ := opd_ok c hx
    exact xNilc_ok o2 he dst x ty pos after guard (evV arr) o1.symm
  case binOp bop bt x y yt =>
    split at h
    · rename_i hn
      obtain ⟨hx, rfl⟩ := with1_spec h
      obtain ⟨o1, o2⟩ := opd_ok c hx
      have hy : y = .const .nilIface := by
        unfold isNilI at hn
        split at hn
        · rfl
        · simp at hn
      subst hy
      have := xBinI_ok (P := P) (m := m) (W := W) (w := w) x he
      rw [o1] at this
      exact this
    obtain ⟨hx, hy, rfl⟩ := with2_spec h
    obtain ⟨o1, o2⟩ := opd_ok c hx
    obtain ⟨o3, o4⟩ := opd_ok c hy
    have := xBin2_ok (P := P) (m := m) (W := W) (w := w) x y he
    rw [o1, o3] at this
    exact this
  case unOp uop ut x =>
    obtain ⟨hx, rfl⟩ := with1_spec h
    obtain ⟨o1, o2⟩ := opd_ok c hx
    have := xF1_ok (P := P) (m := m) (W := W) (w := w) he
    rw [o1] at this
    exact this
  case convert s d x =>
    unfold decConvert at h
    split at h
    · rename_i el hs hd
      split at h
      · rename_i hel
        obtain ⟨hx, rfl⟩ := with1_spec h
        obtain ⟨o1, o2⟩ := opd_ok c hx
        have := xBts_ok (P := P) c.rel hs hel hd he
        rw [o1] at this
        exact this
      · simp at h
    · rename_i el hs hd
      split at h
      · rename_i hel
        obtain ⟨hx, rfl⟩ := with1_spec h
        obtain ⟨o1, o2⟩ := opd_ok c hx
        have := xStb_ok (P := P) c.rel hs hel hd he
        rw [o1] at this
        exact this
      · simp at h
    · rename_i u hs hd
      split at h
      · rename_i j hj
        split at h
        · simp at h
        · rename_i h0
          obtain ⟨hx, rfl⟩ := with1_spec h
          obtain ⟨o1, o2⟩ := opd_ok c hx
          have := xToU_ok (P := P) c.rel hs hd hj (fun e0 => h0 (by rw [e0]; rfl)) o2 he
          rw [o1] at this
          exact this
      · simp at h
    · rename_i u hs hd
      split at h
      · rename_i j hj
        obtain ⟨hx, rfl⟩ := with1_spec h
        obtain ⟨o1, o2⟩ := opd_ok c hx
        have := xFrU_ok (P := P) c.rel hs hd hj o2 he
        rw [o1] at this
        exact this
      · simp at h
    · obtain ⟨hx, rfl⟩ := with1_spec h
      obtain ⟨o1, o2⟩ := opd_ok c hx
      have := xF1_ok (P := P) (m := m) (W := W) (w := w) he
      rw [o1] at this
      exact this
  case makeFunc f first caps =>
    cases f <;> simp only [] at h <;> try (simp at h; done)
    rename_i f
    split at h
    · rename_i hcaps
      obtain ⟨hx, rfl⟩ := withL_spec h
      obtain ⟨o1, o2⟩ := opds_ok c hx
      obtain ⟨o3, o4⟩ := opds_ok c hcaps
      simp only [Option.some.injEq] at he
      subst he
      refine effOk_val (by simp [below, o2, o4]) ?_
      simp only [rv, rvL_eq, o1, o3, Instr.makeFunc, Sem.run_pure]
      congr 2
      · apply Array.ext'; simp
      · apply Array.ext'; simp
    · simp at h
  case makeMap mt r =>
    cases r with
    | some r =>
      simp only [decAlloc] at h
      split at h
      · rename_i kt el hu
        obtain ⟨hx, rfl⟩ := with1_spec h
        obtain ⟨o1, o2⟩ := opd_ok c hx
        simp only [] at he
        split at he
        · rename_i n hn
          simp only [Option.some.injEq] at he
          subst he
          have hv : evV arr r = .int .i64 n := by rw [← o1, hn]; rfl
          show EffOk P m W w (sv (Instr.makeMap mt (some (evV arr r)))) _
          rw [hv]
          exact rmap_ok hu
        · simp at he
      · simp at h
    | none =>
      simp only [decAlloc, Option.some.injEq] at h
      subst h
      simp only [Option.some.injEq] at he
      subst he
      exact nmap_ok
  case makeSlice mt l cc =>
    simp only [decAlloc] at h
    split at h
    · rename_i el hu
      split at h
      · rename_i i hi
        split at h
        · rename_i z hz
          split at h
          · rename_i hc
            obtain ⟨hx, hy, rfl⟩ := with2_spec h
            obtain ⟨o1, o2⟩ := opd_ok c hx
            obtain ⟨o3, o4⟩ := opd_ok c hy
            have := xMsl_ok (P := P) (m := m) (W := W) (w := w) hu hi hz hc he
            rw [o1, o3] at this
            exact this
          · simp at h
        · simp at h
      · simp at h
    · simp at h
  case slice xt x lo hi mx =>
    cases mx with
    | some mx =>
      cases lo with
      | some _ => exact absurd h (by simp)
      | none => cases hi with
        | none => exact absurd h (by simp)
        | some hi =>
          change decClip P xt x hi mx = some op at h
          unfold decClip at h
          split at h
          · rename_i el hu
            split at h
            · rename_i inf hi'
              split at h
              · rename_i h0
                obtain ⟨k1, k2, k3, rfl⟩ := with3_spec h
                obtain ⟨o1, o2⟩ := opd_ok c k1
                obtain ⟨o3, o4⟩ := opd_ok c k2
                obtain ⟨o5, o6⟩ := opd_ok c k3
                have := xClip_ok (P := P) c.rel hu hi' h0 he
                rw [o1, o3, o5] at this
                exact this
              · simp at h
            · simp at h
          · simp at h
    | none =>
      change decSlice P xt x lo hi = some op at h
      simp only [decSlice] at h
      split at h
      · split at h
        · obtain ⟨hx, hl, hh, rfl⟩ := with3_spec h
          obtain ⟨o1, o2⟩ := opd_ok c hx
          obtain ⟨o3, o4⟩ := opd_ok c hl
          obtain ⟨o5, o6⟩ := opd_ok c hh
          have := xF3_ok (P := P) (m := m) (W := W) (w := w) he
          rw [o1, o3, o5] at this
          exact this
        · obtain ⟨hx, hl, rfl⟩ := with2_spec h
          obtain ⟨o1, o2⟩ := opd_ok c hx
          obtain ⟨o3, o4⟩ := opd_ok c hl
          have := xF2_ok (P := P) (m := m) (W := W) (w := w) he
          rw [o1, o3] at this
          exact this
        · obtain ⟨hx, hl, rfl⟩ := with2_spec h
          obtain ⟨o1, o2⟩ := opd_ok c hx
          obtain ⟨o3, o4⟩ := opd_ok c hl
          have := xF2_ok (P := P) (m := m) (W := W) (w := w) he
          rw [o1, o3] at this
          exact this
        · simp at h
      · rename_i n el hu
        split at h
        · rename_i inf hi'
          split at h
          · rename_i h0
            obtain ⟨k1, k2, k3, rfl⟩ := withS_spec h
            obtain ⟨o1, o2⟩ := opd_ok c k1
            have := xSlB_ok (P := P) c.rel o2 hu hi' h0 he
            rw [o1, opdO_ok c k2, opdO_ok c k3] at this
            exact this
          · simp at h
        · simp at h
      · rename_i el hu
        split at h
        · rename_i inf hi'
          split at h
          · rename_i h0
            obtain ⟨k1, k2, k3, rfl⟩ := withS_spec h
            obtain ⟨o1, o2⟩ := opd_ok c k1
            have := xSlX_ok (P := P) c.rel o2 hu hi' h0 he
            rw [o1, opdO_ok c k2, opdO_ok c k3] at this
            exact this
          · simp at h
        · simp at h
      · simp at h
  case fieldAddr s x f =>
    unfold decFieldAddr at h
    split at h
    · rename_i fields hu
      split at h
      · rename_i fd hf
        split at h
        · rename_i i hi
          split at h
          · simp at h
          · rename_i h0
            obtain ⟨hx, rfl⟩ := with1_spec h
            obtain ⟨o1, o2⟩ := opd_ok c hx
            have := xFa_ok (P := P) (m := m) (W := W) (w := w) o2 hu hf hi h0 he
            rw [o1] at this
            exact this
        · simp at h
      · simp at h
    · simp at h
  case indexAddr xt x i =>
    unfold decIndexAddr at h
    split at h
    · rename_i len el hu
      split at h
      · rename_i inf hi
        obtain ⟨hx, hy, rfl⟩ := with2_spec h
        obtain ⟨o1, o2⟩ := opd_ok c hx
        obtain ⟨o3, o4⟩ := opd_ok c hy
        have := xIxa_ok (P := P) (m := m) (W := W) (w := w) o2 hu hi he
        rw [o1, o3] at this
        exact this
      · simp at h
    · rename_i el hu
      split at h
      · rename_i inf hi
        obtain ⟨hx, hy, rfl⟩ := with2_spec h
        obtain ⟨o1, o2⟩ := opd_ok c hx
        obtain ⟨o3, o4⟩ := opd_ok c hy
        have := xIxs_ok (P := P) (m := m) (W := W) (w := w) o2 hu hi he
        rw [o1, o3] at this
        exact this
      · simp at h
    · simp at h
  case index xt x i =>
    unfold decIndex at h
    split at h
    · obtain ⟨hx, hy, rfl⟩ := with2_spec h
      obtain ⟨o1, o2⟩ := opd_ok c hx
      obtain ⟨o3, o4⟩ := opd_ok c hy
      have := xF2_ok (P := P) (m := m) (W := W) (w := w) he
      rw [o1, o3] at this
      exact this
    · rename_i len el hu
      split at h
      · rename_i f inf hf hi
        obtain ⟨hx, hy, rfl⟩ := with2_spec h
        obtain ⟨o1, o2⟩ := opd_ok c hx
        obtain ⟨o3, o4⟩ := opd_ok c hy
        have := xIxv_ok (P := P) (m := m) (W := W) (w := w) o2 hu hi hf he
        rw [o1, o3] at this
        exact this
      · simp at h
    · simp at h
  case field st x f =>
    unfold decField at h
    split at h
    · rename_i fields hu
      split at h
      · rename_i fd hfd
        split at h
        · rename_i g hg
          obtain ⟨hx, rfl⟩ := with1_spec h
          obtain ⟨o1, o2⟩ := opd_ok c hx
          have := xField_ok (P := P) (m := m) (W := W) (w := w) o2 hu hfd hg he
          rw [o1] at this
          exact this
        · simp at h
      · simp at h
    · simp at h
  case lookup xt x k ok =>
    cases ok with
    | true =>
      change decLookupO P xt x k = some op at h
      unfold decLookupO at h
      split at h
      · rename_i kt el hu
        split at h
        · rename_i i s ks hi hk
          split at h
          · rename_i z hz
            split at h
            · rename_i hf
              obtain ⟨hx, hy, rfl⟩ := with2_spec h
              obtain ⟨o1, o2⟩ := opd_ok c hx
              obtain ⟨o3, o4⟩ := opd_ok c hy
              have := xLkO_ok (P := P) c.rel hu hi hz hf hk he
              rw [o1, o3] at this
              exact this
            · simp at h
          · simp at h
        · simp at h
      · simp at h
    | false =>
      change decLookup P xt x k = some op at h
      unfold decLookup at h
      split at h
      · rename_i kt el hu
        split at h
        · rename_i i s ks hi hk
          split at h
          · rename_i z hz
            split at h
            · rename_i hf
              obtain ⟨hx, hy, rfl⟩ := with2_spec h
              obtain ⟨o1, o2⟩ := opd_ok c hx
              obtain ⟨o3, o4⟩ := opd_ok c hy
              have := xLk_ok (P := P) c.rel hu hi hz hf hk he
              rw [o1, o3] at this
              exact this
            · simp at h
          · simp at h
        · simp at h
      · simp at h
  case mapUpdate mt x k v =>
    unfold decMapUpdate at h
    split at h
    · rename_i kt el hu
      split at h
      · rename_i s ks hk
        obtain ⟨hx, hy, hz, rfl⟩ := with3_spec h
        obtain ⟨o1, o2⟩ := opd_ok c hx
        obtain ⟨o3, o4⟩ := opd_ok c hy
        obtain ⟨o5, o6⟩ := opd_ok c hz
        have := xMup_ok (P := P) c.rel hu hk o4 o6 he
        rw [o1, o3, o5] at this
        exact this
      · simp at h
    · simp at h
  case insert mt x k v =>
    unfold decMapUpdate at h
    split at h
    · rename_i kt el hu
      split at h
      · rename_i s ks hk
        obtain ⟨hx, hy, hz, rfl⟩ := with3_spec h
        obtain ⟨o1, o2⟩ := opd_ok c hx
        obtain ⟨o3, o4⟩ := opd_ok c hy
        obtain ⟨o5, o6⟩ := opd_ok c hz
        have := xMup_ok (P := P) c.rel hu hk o4 o6 he
        rw [o1, o3, o5] at this
        exact this
      · simp at h
    · simp at h
  case range xt x =>
    unfold decRange at h
    split at h
    · rename_i kt el hu
      obtain ⟨hx, rfl⟩ := with1_spec h
      obtain ⟨o1, o2⟩ := opd_ok c hx
      have := xRngM_ok (P := P) c.rel hu he
      rw [o1] at this
      exact this
    · rename_i hu
      obtain ⟨hx, rfl⟩ := with1_spec h
      obtain ⟨o1, o2⟩ := opd_ok c hx
      have := xRngS_ok (P := P) c.rel hu he
      rw [o1] at this
      exact this
    · simp at h
  case next it st =>
    cases st with
    | true =>
      change with1 it (fun x t W => xNextS W (x t)) = some op at h
      obtain ⟨hx, rfl⟩ := with1_spec h
      obtain ⟨o1, o2⟩ := opd_ok c hx
      have := xNextS_ok (P := P) (ty := ty) c.rel he
      rw [o1] at this
      exact this
    | false =>
      change with1 it (fun x t W => xNext W (x t)) = some op at h
      obtain ⟨hx, rfl⟩ := with1_spec h
      obtain ⟨o1, o2⟩ := opd_ok c hx
      have := xNext_ok (P := P) (ty := ty) c.rel he
      rw [o1] at this
      exact this
  case entry it =>
    obtain ⟨hx, rfl⟩ := with1_spec h
    obtain ⟨o1, o2⟩ := opd_ok c hx
    have := xEntry_ok (P := P) c.rel he
    rw [o1] at this
    exact this
  case extract x i =>
    obtain ⟨hx, rfl⟩ := with1_spec h
    obtain ⟨o1, o2⟩ := opd_ok c hx
    have := xExt_ok (P := P) (m := m) (W := W) (w := w) o2 he
    rw [o1] at this
    exact this
  case call cl =>
    obtain ⟨callee, args, ats⟩ := cl
    unfold decCall at h
    simp only [] at h
    split at h
    · rename_i f
      split at h
      · rename_i hne
        split at h
        · rename_i x hargs
          have ha : args = #[x] := by apply Array.ext'; simpa using hargs
          subst ha
          obtain ⟨hx, rfl⟩ := with1_spec h
          obtain ⟨o1, o2⟩ := opd_ok c hx
          simp only [Option.some.injEq] at he
          subst he
          refine ⟨o2, .value (rv m (opd x t)), ?_, .inl rfl⟩
          rw [o1]
          have e1 : (#[x].map (evV arr)) = #[evV arr x] := by simp
          show Sem.run P (do let d ← Deferred.ofValue (evV arr f) (#[x].map (evV arr)); invoke d.target d.args) w = _
          rw [e1]
          exact noEsc_run (P := P) (w := w) hne (evV arr) (fun g => rfl) (evV arr x)
        · simp at h
      split at h
      · rename_i el hmz
        split at h
        · rename_i x hargs
          have ha : args = #[x] := by apply Array.ext'; simpa using hargs
          subst ha
          obtain ⟨hx, rfl⟩ := with1_spec h
          obtain ⟨o1, o2⟩ := opd_ok c hx
          have e1 : (#[x].map (evV arr)) = #[evV arr x] := by simp
          show EffOk P m W w (do let d ← Deferred.ofValue (evV arr f) (#[x].map (evV arr)); invoke d.target d.args) e
          rw [e1, ← o1]
          exact mnz_run (P := P) c.rel hmz (evV arr) (fun g => rfl) he
        · simp at h
      split at h
      · rename_i s hsw
        obtain ⟨hx, rfl⟩ := withL_spec h
        obtain ⟨o1, o2⟩ := opds_ok c hx
        have e1 : (args.toList.map (evV arr)).toArray = args.map (evV arr) := by
          apply Array.ext'; simp
        show EffOk P m W w (do let d ← Deferred.ofValue (evV arr f) (args.map (evV arr)); invoke d.target d.args) e
        rw [← e1, ← o1]
        exact own_ok (P := P) hsw (evV arr) (fun g => rfl) he
      obtain ⟨hx, rfl⟩ := withL_spec h
      have he' : (some (Eff.call (opd f t) (args.toList.map fun x => opd x t))) = some e := he
      simp only [Option.some.injEq] at he'
      subst he'
      have hx' : okO f = true ∧ args.toList.all okO = true := by simpa using hx
      obtain ⟨o1, o2⟩ := opd_ok c hx'.1
      obtain ⟨o3, o4⟩ := opds_ok c hx'.2
      refine ⟨o2, o4, ?_⟩
      rw [o1, o3]
      have : (args.toList.map (evV arr)).toArray = args.map (evV arr) := by
        apply Array.ext'; simp
      rw [this]
      rfl
    · rename_i b
      have sem : ∀ (s : Sem Value), execOp (evV arr) ⟨dst, .call ⟨.builtin b, args, ats⟩, ty, pos, after, guard⟩ = sv s → EffOk P m W w (sv s) e → EffOk P m W w (execOp (evV arr) ⟨dst, .call ⟨.builtin b, args, ats⟩, ty, pos, after, guard⟩) e := by
        intro s h1 h2
        rw [h1]; exact h2
      unfold decBuiltin at h
      split at h
      · -- len
        rename_i x at1 hargs hats
        have ha : args = #[x] := by apply Array.ext'; simpa using hargs
        have ht : ats = #[at1] := by apply Array.ext'; simpa using hats
        subst ha
        subst ht
        refine sem (Builtin.len_ #[at1] ty #[evV arr x]) (by simp [execOp, resolve, invoke, builtin, sv]) ?_
        unfold decLen at h
        split at h
        · rename_i el hu
          obtain ⟨hx, rfl⟩ := with1_spec h
          obtain ⟨o1, o2⟩ := opd_ok c hx
          have := xLenS_ok (P := P) (m := m) (W := W) (w := w) (aty := ty) hu he
          rw [o1] at this
          exact this
        · rename_i hu
          obtain ⟨hx, rfl⟩ := with1_spec h
          obtain ⟨o1, o2⟩ := opd_ok c hx
          have := xLenT_ok (P := P) (m := m) (W := W) (w := w) (aty := ty) hu he
          rw [o1] at this
          exact this
        · rename_i k el hu
          obtain ⟨hx, rfl⟩ := with1_spec h
          obtain ⟨o1, o2⟩ := opd_ok c hx
          have := xLenM_ok (P := P) (aty := ty) c.rel hu he
          rw [o1] at this
          exact this
        · simp at h
      · -- append
        rename_i s x at1 at2 hargs hats
        have ha : args = #[s, x] := by apply Array.ext'; simpa using hargs
        have ht : ats = #[at1, at2] := by apply Array.ext'; simpa using hats
        subst ha
        subst ht
        refine sem (Builtin.append_ #[at1, at2] ty #[evV arr s, evV arr x]) (by simp [execOp, resolve, invoke, builtin, sv]) ?_
        unfold decAppend at h
        split at h
        · rename_i el el2 hu hux
          split at h
          · rename_i inf hi
            split at h
            · rename_i z hz
              split at h
              · rename_i h0
                obtain ⟨hs, hx, rfl⟩ := with2_spec h
                obtain ⟨o1, o2⟩ := opd_ok c hs
                obtain ⟨o3, o4⟩ := opd_ok c hx
                have := xApp_ok (P := P) (aty := ty) c.rel hu hux hi hz h0 o2 he
                rw [o1, o3] at this
                exact this
              · simp at h
            · simp at h
          · simp at h
        · rename_i el k2 hu hux
          split at h
          · rename_i inf hi
            split at h
            · rename_i z hz
              split at h
              · rename_i h0
                obtain ⟨hs, hx, rfl⟩ := with2_spec h
                obtain ⟨o1, o2⟩ := opd_ok c hs
                obtain ⟨o3, o4⟩ := opd_ok c hx
                have := xApz_ok (P := P) (aty := ty) c.rel hu hux hi hz h0 he
                rw [o1, o3] at this
                exact this
              · simp at h
            · simp at h
          · simp at h
        · rename_i el hu hux
          split at h
          · rename_i inf hi
            split at h
            · rename_i z hz
              split at h
              · rename_i h0
                obtain ⟨hs, hx, rfl⟩ := with2_spec h
                obtain ⟨o1, o2⟩ := opd_ok c hs
                obtain ⟨o3, o4⟩ := opd_ok c hx
                have := xAps_ok (P := P) (aty := ty) c.rel hu hux hi hz h0 o2 he
                rw [o1, o3] at this
                exact this
              · simp at h
            · simp at h
          · simp at h
        · simp at h
      · -- cap
        rename_i x at1 hargs hats
        have ha : args = #[x] := by apply Array.ext'; simpa using hargs
        have ht : ats = #[at1] := by apply Array.ext'; simpa using hats
        subst ha
        subst ht
        refine sem (Builtin.cap_ #[at1] ty #[evV arr x]) (by simp [execOp, resolve, invoke, builtin, sv]) ?_
        unfold decCap at h
        split at h
        · rename_i el hu
          obtain ⟨hx, rfl⟩ := with1_spec h
          obtain ⟨o1, o2⟩ := opd_ok c hx
          have := xCap_ok (P := P) (m := m) (W := W) (w := w) (aty := ty) hu he
          rw [o1] at this
          exact this
        · simp at h
      · -- copy
        rename_i d s at1 at2 hargs hats
        have ha : args = #[d, s] := by apply Array.ext'; simpa using hargs
        have ht : ats = #[at1, at2] := by apply Array.ext'; simpa using hats
        subst ha
        subst ht
        refine sem (Builtin.copy_ #[at1, at2] ty #[evV arr d, evV arr s]) (by simp [execOp, resolve, invoke, builtin, sv]) ?_
        split at h
        · rename_i el hu
          split at h
          · rename_i inf hi
            obtain ⟨hd, hs, rfl⟩ := with2_spec h
            obtain ⟨o1, o2⟩ := opd_ok c hd
            obtain ⟨o3, o4⟩ := opd_ok c hs
            have := xCp0_ok (P := P) (m := m) (W := W) (w := w) (tx := at2) (aty := ty) hu hi he
            rw [o1, o3] at this
            exact this
          · simp at h
        · simp at h
      · -- unsafe.SliceData
        rename_i x at1 hargs hats
        have ha : args = #[x] := by apply Array.ext'; simpa using hargs
        subst ha
        refine sem (Builtin.unsafeSliceData_ ats ty #[evV arr x]) (by simp [execOp, resolve, invoke, builtin, sv]) ?_
        obtain ⟨hx, rfl⟩ := with1_spec h
        obtain ⟨o1, o2⟩ := opd_ok c hx
        have := xUsd_ok (P := P) (ats := ats) (ty := ty) c.rel o2 he
        rw [o1] at this
        exact this
      · -- unsafe.String
        rename_i p n at1 at2 hargs hats
        have ha : args = #[p, n] := by apply Array.ext'; simpa using hargs
        have ht : ats = #[at1, at2] := by apply Array.ext'; simpa using hats
        subst ha
        subst ht
        refine sem (Builtin.unsafeString_ #[at1, at2] ty #[evV arr p, evV arr n]) (by simp [execOp, resolve, invoke, builtin, sv]) ?_
        unfold decUst at h
        split at h
        · rename_i el hu
          split at h
          · rename_i hce
            obtain ⟨hp, hn, rfl⟩ := with2_spec h
            obtain ⟨o1, o2⟩ := opd_ok c hp
            obtain ⟨o3, o4⟩ := opd_ok c hn
            have := xUst_ok (P := P) (it := at2) (aty := ty) c.rel hu (Nat.eq_of_beq_eq_true hce) he
            rw [o1, o3] at this
            exact this
          · simp at h
        · simp at h
      · -- min
        obtain ⟨hx, rfl⟩ := withL_spec h
        obtain ⟨o1, o2⟩ := opds_ok c hx
        have := xFl_ok (P := P) (m := m) (W := W) (w := w) he
        rw [o1] at this
        refine sem (Builtin.min_ ats ty (args.map (evV arr))) rfl ?_
        have e1 : (args.toList.map (evV arr)).toArray = args.map (evV arr) := by
          apply Array.ext'; simp
        rw [← e1]; exact this
      · -- max
        obtain ⟨hx, rfl⟩ := withL_spec h
        obtain ⟨o1, o2⟩ := opds_ok c hx
        have := xFl_ok (P := P) (m := m) (W := W) (w := w) he
        rw [o1] at this
        refine sem (Builtin.max_ ats ty (args.map (evV arr))) rfl ?_
        have e1 : (args.toList.map (evV arr)).toArray = args.map (evV arr) := by
          apply Array.ext'; simp
        rw [← e1]; exact this
      · simp at h
    · simp at h
end
end Go.Rv
