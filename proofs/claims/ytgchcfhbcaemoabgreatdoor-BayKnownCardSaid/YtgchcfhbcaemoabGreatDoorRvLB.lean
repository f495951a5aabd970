/- Pointers that are compared, bytes behind bytes, strings made of them: what strings.Builder does. -/
import Derived.Test.YtgchcfhbcaemoabGreatDoorRvL
import Derived.Lib.Builder
import Derived.Lib.UnsafeStr
import Derived.LaidEqlPtr
import Derived.Laws.Externs
import Derived.Lib.MakeNoZero
import Derived.KernelRfl
namespace Go.Rv
open Go
variable [Env]
section
variable {P : Program} {m : Nat → Loc} {t : RT} {W : RW} {arr : Array Value} {w : World} {e : Eff}

omit [Env] in
theorem fcat_eq {β : Type} : ∀ (l r : List RV) (k : List RV → β), fcat l r k = k (l ++ r)
  | [], _, _ => rfl
  | x :: l, r, k => by
    show fcat l r (fun q => k (x :: q)) = _
    rw [fcat_eq l r]
    rfl

theorem xAps_ok {ty tx aty el : TypeId} {inf : TypeInfo} {z : List RV} {s x : RV} (hr : Rel m W w) (hu : P.underlying ty = some (.slice el)) (hux : P.underlying tx = some .string) (hi : P.info? el = some inf) (hz : zeroCells inf = some z)
    (h0 : 1 = inf.size ∧ z.length = inf.size) (hbs : below W.n s = true) (h : xAps W el inf.bytes s x = some e) : EffOk P m W w (sv (Builtin.append_ #[ty, tx] aty #[rv m s, rv m x])) e := by
  unfold xAps at h
  split at h
  · rename_i str
    split at h
    · rename_i n cs hs
      rw [fbytes_eq, fnat_eq] at h
      have hs' : sliceCells W inf.size s = some (n, cs) := by rw [← h0.1]; exact hs
      have hpos : 0 < inf.size := by rw [← h0.1]; exact Nat.one_pos
      generalize hds : (str.data.toList.map fun b => RV.v (.int .u8 b.toNat)) = ds at h
      have hlen : ds.length = str.size := by
        rw [← hds, List.length_map, Array.length_toList]
        rfl
      have hvs : ds.map (rv m) = Lib.strCells str := by
        rw [← hds, List.map_map]
        rfl
      have hdb : belowC W.n ds = true := by
        rw [belowC_iff, ← hds]
        intro y hy
        obtain ⟨b, _, rfl⟩ := List.mem_map.1 hy
        exact ⟨rfl, rfl⟩
      have hfirst : ∀ w' : World, (Builtin.firstCells inf.size ds.length (.string str)).run P w' = .ok (ds.map (rv m)).toArray w' := by
        intro w'
        rw [hlen, hvs]
        exact Lib.run_firstCells_string w' inf.size str
      have f2 : (Builtin.lenOf (.string str)).run P w = .ok ds.length w := by rw [hlen]; rfl
      show EffOk P m W w (sv (Builtin.append_ #[ty, tx] aty #[rv m s, .string str])) e
      split at h
      · rename_i hk
        have hk0 : ds.length = 0 := Nat.eq_of_beq_eq_true hk
        simp only [Option.some.injEq] at h
        subst h
        have hf := hfirst w
        rw [hk0] at hf f2
        have hd : ds = [] := List.eq_nil_of_length_eq_zero hk0
        subst hd
        exact app_none (P := P) hr hu hux (by simp) hi hpos hbs hs' f2 hf
      · rename_i hk
        split at h
        · rename_i hbd
          split at h
          · rename_i W1 hsp
            rw [fnat_eq, fcat_eq] at h
            simp only [Option.some.injEq] at h
            subst h
            have key := app_core (P := P) (aty := aty) (W1 := W1) (.gy el) hr hu hux (by simp) hi hz ⟨hpos, h0.2⟩ hbs hs' (by rw [← h0.1, Nat.mul_one]) hdb f2 (fun w' _ => hfirst w') (by simp) (fun _ _ => ⟨rfl, rfl⟩)
              (fun hh => hk (by rw [hh]; rfl)) (Nat.le_of_ble_eq_true hbd) (by
                obtain ⟨_, _, hcs⟩ := sliceCells_spec (P := P) hr hpos hs'
                rcases hcs with ⟨rfl, rfl, rfl⟩ | ⟨b, o, c, kd, rfl, hb, hl, _⟩
                · simp only [spentY, Option.some.injEq] at hsp
                  exact .inl ⟨rfl, hsp.symm⟩
                · simp only [spentY, hb] at hsp
                  cases kd with
                  | gy t' =>
                    simp only at hsp
                    split at hsp
                    · rename_i hq
                      simp only [Bool.and_eq_true] at hq
                      have q1 := Nat.eq_of_beq_eq_true hq.1
                      have q2 := Nat.eq_of_beq_eq_true hq.2
                      subst q1 q2
                      exact .inr (.inr ⟨b, 0, c, _, rfl, hb, hsp, by simp, fun _ _ _ _ _ _ hh => hh⟩)
                    · simp at hsp
                  | _ => simp at hsp)
            rw [← h0.1] at key
            exact key
          · simp at h
        · simp at h
    · simp at h
  · simp at h

theorem xCp0_ok {ty tx aty el : TypeId} {inf : TypeInfo} {d s : RV} (hu : P.underlying ty = some (.slice el)) (hi : P.info? el = some inf) (h : xCp0 d s = some e) : EffOk P m W w (sv (Builtin.copy_ #[ty, tx] aty #[rv m d, rv m s])) e := by
  unfold xCp0 at h
  split at h
  · split at h
    · simp only [Option.some.injEq] at h
      subst h
      refine effOk_val rfl ?_
      simp [rv, Builtin.copy_, run_underlying hu, Builtin.lenOf, run_size hi, Builtin.firstCells, goInt, storeCells]
    · simp only [Option.some.injEq] at h
      subst h
      refine effOk_val rfl ?_
      simp [rv, Builtin.copy_, run_underlying hu, Builtin.lenOf, run_size hi, Builtin.firstCells, goInt]
    · simp at h
  · simp at h

theorem xUsd_ok {ats : Array TypeId} {ty : TypeId} {x : RV} (hr : Rel m W w) (hx : below W.n x = true) (h : xUsd W x = some e) : EffOk P m W w (sv (Builtin.unsafeSliceData_ ats ty #[rv m x])) e := by
  unfold xUsd at h
  split at h
  · simp only [Option.some.injEq] at h
    subst h
    exact effOk_val rfl (Lib.run_unsafeSliceData_nil w ats ty 0 0)
  · rename_i b o n es
    split at h
    · rename_i c hc
      obtain ⟨k, hb⟩ := cellsAt_spec hc
      split at h
      · rename_i hq
        simp only [Bool.and_eq_true, blt_eq, decide_eq_true_eq] at hq
        obtain ⟨⟨q1, q2⟩, q3⟩ := hq
        have q1 := Nat.le_of_ble_eq_true q1
        simp only [Option.some.injEq] at h
        subst h
        obtain ⟨arr', ty', fz, _, _, _, q4, q5, _⟩ := hr.obj b _ hb
        refine effOk_val (by simpa [below] using hx) ?_
        refine Lib.run_unsafeSliceData_row w ats ty _ n _ ?_
        have h1 : es ≤ n * es := Nat.le_mul_of_pos_left _ q2
        have : 0 < ((m b).cap - ((m b).off + o)) / es := Nat.div_pos (by omega) q3
        omega
      · simp at h
    · simp at h
  · simp at h

theorem shape_of (hr : Rel m W w) {b : Nat} {c : List RV} {k : Kd} (hb : W.get b = some (.cells c k)) : ∃ arr ty fz, w.heap[(m b).blk]? = some (.cells arr ty fz) ∧ w.shape? (m b).blk = some (ty, arr.size) ∧ (m b).off + c.length ≤ arr.size ∧ k.tyOk ty (m b).off arr.size c.length := by
  obtain ⟨arr, ty, fz, q1, q2, q3, q4, q5, q6, q7⟩ := hr.obj b _ hb
  exact ⟨arr, ty, fz, q1, by simp [World.shape?, q1], Nat.le_trans q4 q5, q7⟩

theorem xToU_ok {src dst u : TypeId} {j : TypeInfo} {x : RV} (hr : Rel m W w) (hs : P.underlying src = some (.pointer u)) (hd : P.underlying dst = some .unsafePointer) (hu : P.info? u = some j) (hj : j.size ≠ 0) (hx : below W.n x = true)
    (h : xToU W x = some e) : EffOk P m W w (sv (convert src dst (rv m x))) e := by
  unfold xToU at h
  split at h
  · rename_i b o
    split at h
    · rename_i c hc
      obtain ⟨k, hb⟩ := cellsAt_spec hc
      split at h
      · rename_i ho
        rw [blt_eq, decide_eq_true_eq] at ho
        simp only [Option.some.injEq] at h
        subst h
        obtain ⟨arr', ty', fz, q1, q2, q3, _⟩ := shape_of hr hb
        refine effOk_val hx ?_
        exact Lib.run_to_unsafe w _ hs hd hu hj q2 (by show (m b).off + o < _; omega)
      · simp at h
    · simp at h
  · simp at h

theorem xFrU_ok {src dst u : TypeId} {j : TypeInfo} {x : RV} (hr : Rel m W w) (hs : P.underlying src = some .unsafePointer) (hd : P.underlying dst = some (.pointer u)) (hu : P.info? u = some j) (hx : below W.n x = true)
    (h : xFrU P W u x = some e) : EffOk P m W w (sv (convert src dst (rv m x))) e := by
  unfold xFrU at h
  split at h
  · rename_i b o
    split at h
    · rename_i c t' hb
      split at h
      · rename_i ho
        simp only [Bool.and_eq_true] at ho
        obtain ⟨h1, h2⟩ := ho
        have h1 := Nat.eq_of_beq_eq_true h1
        subst h1
        simp only [Option.some.injEq] at h
        subst h
        obtain ⟨arr', ty', fz, q1, q2, q3, q4, q5, q6⟩ := shape_of hr hb
        subst q4
        rw [← q6] at h2
        refine effOk_val hx ?_
        refine Lib.run_from_unsafe w _ hs hd hu q2 ?_
        show liesAt P P.depth ty' (arr'.size / P.cellsOf ty') ((m b).off + 0) u 1 = true
        rw [q5]
        exact h2
      · simp at h
    · simp at h
  · simp at h

theorem xUst_ok {pt it aty el : TypeId} {p n : RV} (hr : Rel m W w) (hp : P.underlying pt = some (.pointer el)) (hc : P.cellsOf el = 1) (h : xUst W el p n = some e) :
    EffOk P m W w (sv (Builtin.unsafeString_ #[pt, it] aty #[rv m p, rv m n])) e := by
  unfold xUst at h
  split at h
  · rename_i k
    split at h
    · split at h
      · rename_i hk
        have hk := Nat.eq_of_beq_eq_true hk
        subst hk
        simp only [Option.some.injEq] at h
        subst h
        exact effOk_val rfl (Lib.run_unsafeString_none w pt it aty none)
      · simp at h
    · rename_i b o
      split at h
      · rename_i c t' hb
        split at h
        · rename_i hq
          simp only [Bool.and_eq_true, blt_eq, decide_eq_true_eq] at hq
          obtain ⟨⟨⟨q1, q2⟩, q3⟩, q4⟩ := hq
          have q1 := Nat.eq_of_beq_eq_true q1
          have q2 := Nat.eq_of_beq_eq_true q2
          have q4 := Nat.le_of_ble_eq_true q4
          subst q1 q2
          split at h
          · rename_i l hl
            obtain ⟨l1, l2⟩ := ltake_spec _ _ hl
            split at h
            · rename_i ns hns
              split at h
              · rename_i hin
                split at h
                · rename_i W1 hs
                  simp only [Option.some.injEq] at h
                  subst h
                  obtain ⟨arr', ty', fz, p1, p2, p3, p4, p5, p6, p7⟩ := hr.obj b _ hb
                  obtain ⟨rfl, hoff⟩ := p7
                  have hfz := p3 (by simp) (by simp)
                  subst hfz
                  have hmap := u8s_spec (m := m) l hns
                  have hnl : ns.length = k := by
                    have := congrArg List.length hmap
                    rw [List.length_map, List.length_map, l2, List.length_take] at this
                    omega
                  have hrange : ∀ x ∈ ns, 0 ≤ x ∧ x ≤ 255 := by
                    intro x hx
                    have := List.all_eq_true.1 hin x hx
                    simpa [leB_eq] using this
                  have hcell : ∀ j x, (ns.map fun n => UInt8.ofNat n.toNat)[j]? = some x → w.cell? ((⟨(m b).blk, 0, none⟩ : Addr).add j) = some (.int .u8 x.toNat) := by
                    intro j x hj
                    rw [List.getElem?_map] at hj
                    cases hnj : ns[j]? with
                    | none => rw [hnj] at hj; simp at hj
                    | some v =>
                      rw [hnj] at hj
                      simp only [Option.map_some, Option.some.injEq] at hj
                      subst hj
                      have hv := hrange v (List.mem_of_getElem? hnj)
                      have h1 : (l.map (rv m))[j]? = some (.int .u8 v) := by rw [hmap, List.getElem?_map, hnj]; rfl
                      rw [List.getElem?_map] at h1
                      cases hlj : l[j]? with
                      | none => rw [hlj] at h1; simp at h1
                      | some y =>
                        rw [hlj] at h1
                        simp only [Option.map_some, Option.some.injEq] at h1
                        have hcj : c[j]? = some y := by
                          rw [l2, List.getElem?_take] at hlj
                          split at hlj
                          · exact hlj
                          · simp at hlj
                        have h2 := p2 j y hcj
                        rw [hoff, Nat.zero_add, h1] at h2
                        rw [add_none, Nat.zero_add]
                        have e3 : (((UInt8.ofNat v.toNat).toNat : Nat) : Int) = v := by
                          rw [UInt8.toNat_ofNat']
                          omega
                        rw [e3]
                        simp [World.cell?, p1, h2]
                  have hlen : (ns.map fun n => UInt8.ofNat n.toNat).length = k := by rw [List.length_map, hnl]
                  have hrun := Lib.run_unsafeString_row (P := P) w pt it aty _ hp hc (m b).blk arr'.size (by simp [World.shape?, p1]) (ns.map fun n => UInt8.ofNat n.toNat)
                    (by intro e0; rw [e0] at hlen; simp at hlen; omega) (by rw [hlen]; omega) (by rw [hlen]; omega) hcell
                  rw [hlen] at hrun
                  have hheap : (w.freeze ⟨(m b).blk, 0, none⟩ k).heap = w.heap.modify (m b).blk fun
                      | .cells c elem (lo, hi) => .cells c elem (if lo == hi then (0, 0 + k) else (min lo 0, max hi (0 + k)))
                      | o => o := by
                    unfold World.freeze
                    rw [if_neg (by omega)]
                    congr 1
                  have hf : ∀ (g : World), g = w.freeze ⟨(m b).blk, 0, none⟩ k → g.os = w.os ∧ g.tape = w.tape ∧ g.output = w.output := by
                    rintro g rfl
                    unfold World.freeze
                    rw [if_neg (by omega)]
                    exact ⟨rfl, rfl, rfl⟩
                  obtain ⟨f1, f2, f3⟩ := hf _ rfl
                  have ho : ORel m (.cells c .ro) (m b) (w.freeze ⟨(m b).blk, 0, none⟩ k).heap := by
                    refine ⟨arr', ty', (0, 0 + k), ?_, p2, fun hk => absurd rfl hk, p4, p5, fun hk => by simp at hk, trivial⟩
                    rw [hheap, Array.getElem?_modify, if_pos rfl, p1]
                    rfl
                  obtain ⟨g1, g2⟩ := hr.set (w' := w.freeze ⟨(m b).blk, 0, none⟩ k) hb rfl hs (fun r hne => by
                    rw [hheap, Array.getElem?_modify, if_neg (Ne.symm hne)]) (by rw [hheap, Array.size_modify]) ho (show belowC W.n c = true from hr.lt b _ hb) f1 f2 f3
                  refine ⟨m, _, _, run_sv ?_, .inl rfl, g1, g2, rfl⟩
                  show (Builtin.unsafeString_ #[pt, it] aty #[.pointer (some ⟨(m b).blk, (m b).off + 0, none⟩), .int .i64 k]).run P w = _
                  rw [hoff]
                  exact hrun
                · simp at h
              · simp at h
            · simp at h
          · simp at h
        · simp at h
      · simp at h
    · simp at h
  · simp at h

theorem xBinPtr_ok {op : BinOp} {ty : TypeId} {b o : Nat} {y : RV} (p q : Operand) (h : xBinPtr P op ty b o y = some e) :
    EffOk P m W w (sv (do eqGuard op ty p q (rv m (.ptr b o)) (rv m y); binOp op ty (rv m (.ptr b o)) (rv m y))) e := by
  have hgu : ∀ (op : BinOp) (a : Option Addr) (v : Value), Sem.run P (eqGuard op ty p q (.pointer a) v) w = .ok () w := by
    intro op a v
    unfold eqGuard
    cases op <;> simp [Sem.run_pure]
  unfold xBinPtr at h
  split at h
  · rename_i te hu
    split at h
    · rename_i j hj
      split at h
      · have he : ∀ (a : Addr), Sem.run P (Op.equal ty (.pointer (some a)) (.pointer none)) w = .ok false w := by
          intro a
          show Sem.run P (Op.equalIn (9999 + 1) ty (.pointer (some a)) (.pointer none)) w = .ok false w
          unfold Op.equalIn
          simp only [Sem.run_bind, run_underlying hu, Result.andThen_ok]
          rfl
        split at h
        · simp only [Option.some.injEq] at h
          subst h
          refine effOk_val rfl ?_
          simp only [rv, Sem.run_bind, hgu, Result.andThen]
          show Sem.run P (Op.equal ty _ _ >>= fun b => pure (Value.bool b)) w = _
          rw [Sem.run_bind, he]
          rfl
        · simp only [Option.some.injEq] at h
          subst h
          refine effOk_val rfl ?_
          simp only [rv, Sem.run_bind, hgu, Result.andThen]
          show Sem.run P (Op.equal ty _ _ >>= fun b => pure (Value.bool (!b))) w = _
          rw [Sem.run_bind, he]
          rfl
        · simp at h
      · rename_i b' o'
        split at h
        · rename_i hq
          simp only [Bool.and_eq_true] at hq
          have q1 := Nat.eq_of_beq_eq_true hq.1
          have q2 := Nat.eq_of_beq_eq_true hq.2
          subst q1 q2
          split at h
          · simp only [Option.some.injEq] at h
            subst h
            refine effOk_val rfl ?_
            simp only [rv, Sem.run_bind, hgu, Result.andThen]
            exact run_eql_ptr_same w _ hu hj
          · simp only [Option.some.injEq] at h
            subst h
            refine effOk_val rfl ?_
            simp only [rv, Sem.run_bind, hgu, Result.andThen]
            exact Lib.run_neq_ptr_same w _ hu hj
          · simp at h
        · simp at h
      · simp at h
    · simp at h
  · simp at h

theorem xBinI_ok {op : BinOp} {ty : TypeId} {x : RV} (p : Operand) (h : xBinI P op ty x = some e) :
    EffOk P m W w (sv (do eqGuard op ty p (.const .nilIface) (rv m x) .nilIface; binOp op ty (rv m x) .nilIface)) e := by
  unfold xBinI at h
  split at h
  · rename_i ms hu
    have key : ∀ (a : Value) (r : Bool), (a = .nilIface ∧ r = true ∨ (∃ t v, a = .iface t v) ∧ r = false) →
        (∀ w : World, Sem.run P (Op.equal ty a .nilIface) w = .ok r w) ∧ ∀ (op : BinOp) (w : World), Sem.run P (eqGuard op ty p (.const .nilIface) a .nilIface) w = .ok () w := by
      intro a r ha
      constructor
      · intro w
        show Sem.run P (Op.equalIn (9999 + 1) ty a .nilIface) w = _
        unfold Op.equalIn
        simp only [Sem.run_bind, run_underlying hu, Result.andThen_ok]
        rcases ha with ⟨rfl, rfl⟩ | ⟨⟨t, v, rfl⟩, rfl⟩ <;> rfl
      · intro op w
        unfold eqGuard
        rcases ha with ⟨rfl, rfl⟩ | ⟨⟨t, v, rfl⟩, rfl⟩ <;> cases op <;> cases p <;> simp [Sem.run_pure]
    split at h
    · obtain ⟨k1, k2⟩ := key .nilIface true (.inl ⟨rfl, rfl⟩)
      split at h
      · simp only [Option.some.injEq] at h
        subst h
        refine effOk_val rfl ?_
        simp only [rv, Sem.run_bind, k2, Result.andThen]
        show Sem.run P (Op.equal ty .nilIface .nilIface >>= fun b => pure (Value.bool b)) w = _
        rw [Sem.run_bind, k1]
        rfl
      · simp only [Option.some.injEq] at h
        subst h
        refine effOk_val rfl ?_
        simp only [rv, Sem.run_bind, k2, Result.andThen]
        show Sem.run P (Op.equal ty .nilIface .nilIface >>= fun b => pure (Value.bool (!b))) w = _
        rw [Sem.run_bind, k1]
        rfl
      · simp at h
    · rename_i t v
      obtain ⟨k1, k2⟩ := key (.iface t v) false (.inr ⟨⟨t, v, rfl⟩, rfl⟩)
      split at h
      · simp only [Option.some.injEq] at h
        subst h
        refine effOk_val rfl ?_
        simp only [rv, Sem.run_bind, k2, Result.andThen]
        show Sem.run P (Op.equal ty (.iface t v) .nilIface >>= fun b => pure (Value.bool b)) w = _
        rw [Sem.run_bind, k1]
        rfl
      · simp only [Option.some.injEq] at h
        subst h
        refine effOk_val rfl ?_
        simp only [rv, Sem.run_bind, k2, Result.andThen]
        show Sem.run P (Op.equal ty (.iface t v) .nilIface >>= fun b => pure (Value.bool (!b))) w = _
        rw [Sem.run_bind, k1]
        rfl
      · simp at h
    · simp at h
  · simp at h

omit [Env] in
theorem noEsc_find (fn : Func) (h1 : fn.name = "internal/abi.NoEscape") (h2 : fn.origin = "") : Extern.findNext fn = none ∧ Extern.find fn = some Extern.AbiNoEscape.same := by
  have e1 : Extern.allNextRows.lookup "internal/abi.NoEscape" = none := by kernel_rfl
  have e2 : Extern.allNextRows.lookup "" = none := by kernel_rfl
  have e3 : Extern.allGenericRows.lookup "internal/abi.NoEscape" = none := by kernel_rfl
  have e4 : Extern.allTypedRows.lookup "internal/abi.NoEscape" = none := by kernel_rfl
  have e5 : Extern.allRows.lookup "internal/abi.NoEscape" = some Extern.AbiNoEscape.same := by kernel_rfl
  constructor
  · simp only [Extern.findNext, h1, h2, e1, e2]
    rfl
  · simp only [Extern.find, h1, e3, e4, e5]
    rfl

omit [Env] in
theorem mnz_find (fn : Func) (h1 : fn.name = "internal/bytealg.MakeNoZero") (h2 : fn.origin = "") : Extern.findNext fn = none ∧ Extern.find fn = some (Extern.BytealgMakeNoZero.makeNoZero fn.params fn.resultTypes) := by
  have e1 : Extern.allNextRows.lookup "internal/bytealg.MakeNoZero" = none := by kernel_rfl
  have e2 : Extern.allNextRows.lookup "" = none := by kernel_rfl
  have e3 : Extern.allGenericRows.lookup "internal/bytealg.MakeNoZero" = none := by kernel_rfl
  have e4 : Extern.allTypedRows.lookup "internal/bytealg.MakeNoZero" = some Extern.BytealgMakeNoZero.makeNoZero := by kernel_rfl
  constructor
  · simp only [Extern.findNext, h1, h2, e1, e2]
    rfl
  · simp only [Extern.find, h1, e3, e4]
    rfl

omit [Env] in
theorem own_find (fn : Func) {s : Array Value → Sem Value} (h1 : ownFn fn.name = some s) (h2 : fn.origin = "") : Extern.findNext fn = none ∧ Extern.find fn = some s ∧ (fn.name == "runtime.NumGoroutine") = false := by
  have e2 : Extern.allNextRows.lookup "" = none := by kernel_rfl
  unfold ownFn at h1
  split at h1
  · rename_i hn
    simp only [Option.some.injEq] at h1
    subst h1
    have e1 : Extern.allNextRows.lookup "internal/bytealg.IndexByteString" = none := by kernel_rfl
    have e3 : Extern.allGenericRows.lookup "internal/bytealg.IndexByteString" = none := by kernel_rfl
    have e4 : Extern.allTypedRows.lookup "internal/bytealg.IndexByteString" = none := by kernel_rfl
    have e5 : Extern.allRows.lookup "internal/bytealg.IndexByteString" = some Extern.BytealgIndexByte.indexByte := by kernel_rfl
    refine ⟨?_, ?_, by rw [hn]; rfl⟩
    · simp only [Extern.findNext, hn, h2, e1, e2]
      rfl
    · simp only [Extern.find, hn, e3, e4, e5]
      rfl
  · split at h1
    · rename_i hn
      simp only [Option.some.injEq] at h1
      subst h1
      have e1 : Extern.allNextRows.lookup "internal/bytealg.CountString" = none := by kernel_rfl
      have e3 : Extern.allGenericRows.lookup "internal/bytealg.CountString" = none := by kernel_rfl
      have e4 : Extern.allTypedRows.lookup "internal/bytealg.CountString" = none := by kernel_rfl
      have e5 : Extern.allRows.lookup "internal/bytealg.CountString" = some Extern.BytealgCount.count := by kernel_rfl
      refine ⟨?_, ?_, by rw [hn]; rfl⟩
      · simp only [Extern.findNext, hn, h2, e1, e2]
        rfl
      · simp only [Extern.find, hn, e3, e4, e5]
        rfl
    · simp at h1

omit [Env] in
theorem own_run {f : Operand} {s : Array Value → Sem Value} (h : isOwn P f = some s) (ρ : Operand → Value) (hρ : ∀ g, ρ (.func g) = .func (.func g) #[] #[]) (args : Array Value) {v : Value} (hs : (s args).run P w = .ok v w) :
    ((do let d ← Deferred.ofValue (ρ f) args; invoke d.target d.args : Sem Next)).run P w = .ok (.value v) w := by
  unfold isOwn at h
  split at h
  · rename_i g
    split at h
    · rename_i fn hfn
      split at h
      · rename_i hbody
        split at h
        · rename_i ho
          simp only [beq_iff_eq] at ho
          obtain ⟨n1, n2, n3⟩ := own_find fn h ho
          rw [hρ g]
          simp only [Deferred.ofValue, Sem.run_bind, Sem.run_pure, Result.andThen_ok, invoke]
          rw [run_callFunc_extern hfn n3 (by simp [hbody]) n1 n2]
          have e1 : (#[] ++ args ++ #[] : Array Value) = args := by simp
          rw [e1, hs]
          rfl
        · simp at h
      · simp at h
    · simp at h
  · simp at h

theorem own_ok {f : Operand} {s : Array Value → Sem Value} {xs : List RV} (h : isOwn P f = some s) (ρ : Operand → Value) (hρ : ∀ g, ρ (.func g) = .func (.func g) #[] #[]) (he : xFl P (fun vs => s vs.toArray) xs = some e) :
    EffOk P m W w ((do let d ← Deferred.ofValue (ρ f) (xs.map (rv m)).toArray; invoke d.target d.args : Sem Next)) e := by
  unfold xFl at he
  split at he
  · rename_i l hl
    rw [plainL_spec hl, ← rvL_eq, rvL_v]
    unfold ovalue at he
    split at he
    · rename_i x hx
      split at he
      · rename_i h1
        simp only [fvalue_eq, Option.some.injEq] at he
        subst he
        refine ⟨?_, .value x, own_run h ρ hρ l.toArray (psem_run hx w), .inl rfl⟩
        cases x <;> first | rfl | simp [oneV] at h1
      · simp at he
    · simp at he
  · simp at he

theorem mnz_run {f : Operand} {el : TypeId} {n : RV} (hr : Rel m W w) (h : isMnz P f = some el) (ρ : Operand → Value) (hρ : ∀ g, ρ (.func g) = .func (.func g) #[] #[]) (he : xMnz W el n = some e) :
    EffOk P m W w ((do let d ← Deferred.ofValue (ρ f) #[rv m n]; invoke d.target d.args : Sem Next)) e := by
  unfold isMnz at h
  split at h
  · rename_i g
    split at h
    · rename_i fn hfn
      split at h
      · rename_i hbody
        split at h
        · rename_i hname
          simp only [Bool.and_eq_true, beq_iff_eq] at hname
          split at h
          · rename_i t0 hres
            split at h
            · rename_i e0 hu
              simp only [Option.some.injEq] at h
              subst h
              obtain ⟨n1, n2⟩ := mnz_find fn hname.1 hname.2
              have hrt : fn.resultTypes = #[t0] := by apply Array.ext'; simpa using hres
              rw [hrt] at n2
              unfold xMnz at he
              split at he
              · rename_i k
                split at he
                · rename_i hk
                  have hk := Nat.le_of_ble_eq_true hk
                  rw [fnat_eq] at he
                  simp only [Option.some.injEq] at he
                  subst he
                  obtain ⟨cs, c1, c2, _⟩ := Lib.run_makeNoZero (P := P) w fn.params t0 e0 hu k (by omega)
                  obtain ⟨g1, g2⟩ := push_rowK hr (cs := []) rfl (vals := #[]) (rest := cs) (el := e0) (cap := cs.size) rfl (Nat.zero_le _) (by simp) (w.drawn + 1 + 1) (kd := .gy e0) (by simp) (fun _ => ⟨rfl, rfl⟩)
                  rw [show (#[] ++ cs : Array Value) = cs by simp] at g1 g2
                  have hrun : ((do let d ← Deferred.ofValue (ρ (.func g)) #[rv m (.v (.int .i64 (.ofNat k)))]; invoke d.target d.args : Sem Next)).run P w = .ok (.value (.slice (some ⟨w.heap.size, 0, none⟩) k cs.size)) (w.drew.drew.alloc (.cells cs e0)) := by
                    rw [hρ g]
                    simp only [Deferred.ofValue, Sem.run_bind, Sem.run_pure, Result.andThen_ok, invoke]
                    rw [run_callFunc_extern hfn (by rw [hname.1]; rfl) (by simp [hbody]) n1 n2]
                    have c1' : Sem.run P (Extern.BytealgMakeNoZero.makeNoZero fn.params #[t0] (#[] ++ #[rv m (.v (.int .i64 (.ofNat k)))] ++ #[])) w = _ := c1
                    rw [c1']
                    rfl
                  refine ⟨upd m W.n ⟨w.heap.size, 0, cs.size⟩, _, _, hrun, .inl ?_, ?_, ?_, by simp [below, blt_eq, RW.push]⟩
                  · simp [rv, upd]
                  · exact g1
                  · exact g2
                · simp at he
              · simp at he
            · simp at h
          · simp at h
        · simp at h
      · simp at h
    · simp at h
  · simp at h

omit [Env] in
theorem noEsc_run {f : Operand} (h : isNoEsc P f = true) (ρ : Operand → Value) (hρ : ∀ g, ρ (.func g) = .func (.func g) #[] #[]) (v : Value) :
    ((do let d ← Deferred.ofValue (ρ f) #[v]; invoke d.target d.args : Sem Next)).run P w = .ok (.value v) w := by
  unfold isNoEsc at h
  split at h
  · rename_i g
    split at h
    · rename_i fn hfn
      split at h
      · rename_i hbody
        simp only [Bool.and_eq_true, beq_iff_eq] at h
        obtain ⟨n1, n2⟩ := noEsc_find fn h.1 h.2
        rw [hρ g]
        simp only [Deferred.ofValue, Sem.run_bind, Sem.run_pure, Result.andThen_ok, invoke]
        rw [run_callFunc_extern hfn (by rw [h.1]; rfl) (by simp [hbody]) n1 n2]
        rfl
      · simp at h
    · simp at h
  · simp at h
end
end Go.Rv
