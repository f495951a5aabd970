/- Operations without memory. -/
import Derived.Test.YtgchcfhbcaemoabGreatDoorRvC
namespace Go.Rv
open Go
variable [Env]
section
variable {P : Program} {m : Nat → Loc} {t : RT} {W : RW} {arr : Array Value} {w : World} {e : Eff}

omit [Env] in
theorem fastB_run {op : BinOp} {j k : IntKind} {a b : Int} {v : Value} (ty : TypeId) (hk : (op = .shl ∨ op = .shr) ∨ j = k) (h : fastB op j a b = some v) (w : World) :
    (binOp op ty (.int j a) (.int k b)).run P w = .ok v w ∧ oneV v = true := by
  cases op with
  | add =>
    obtain rfl : j = k := by simpa using hk
    obtain ⟨rfl, h2⟩ := putK_spec h
    simp [binOp, Op.intArith, h2, oneV]
  | sub =>
    obtain rfl : j = k := by simpa using hk
    obtain ⟨rfl, h2⟩ := putK_spec h
    simp [binOp, Op.intArith, h2, oneV]
  | mul =>
    obtain rfl : j = k := by simpa using hk
    obtain ⟨rfl, h2⟩ := putK_spec h
    simp [binOp, Op.intArith, h2, oneV]
  | lss =>
    obtain rfl : j = k := by simpa using hk
    simp only [fastB, fbool_eq, leB_eq, Option.some.injEq] at h
    subst h
    refine ⟨?_, rfl⟩
    have : (!decide (b ≤ a)) = decide (a < b) := by
      rw [Bool.eq_iff_iff]; simp
    rw [this]
    simp [binOp, Op.intCmp]
  | leq =>
    obtain rfl : j = k := by simpa using hk
    simp only [fastB, fbool_eq, leB_eq, Option.some.injEq] at h
    subst h
    refine ⟨?_, rfl⟩
    simp [binOp, Op.intCmp]
  | gtr =>
    obtain rfl : j = k := by simpa using hk
    simp only [fastB, fbool_eq, leB_eq, Option.some.injEq] at h
    subst h
    refine ⟨?_, rfl⟩
    have : (!decide (a ≤ b)) = decide (b < a) := by
      rw [Bool.eq_iff_iff]; simp
    rw [this]
    simp [binOp, Op.intCmp]
  | geq =>
    obtain rfl : j = k := by simpa using hk
    simp only [fastB, fbool_eq, leB_eq, Option.some.injEq] at h
    subst h
    refine ⟨?_, rfl⟩
    simp [binOp, Op.intCmp]
  | eql =>
    obtain rfl : j = k := by simpa using hk
    simp only [fastB, fbool_eq, leB_eq, Option.some.injEq] at h
    subst h
    refine ⟨?_, rfl⟩
    have : (decide (a ≤ b) && decide (b ≤ a)) = (a == b) := by
      rw [Bool.eq_iff_iff]; simp; omega
    rw [this]
    simp [binOp, Op.intCmp]
  | neq =>
    obtain rfl : j = k := by simpa using hk
    simp only [fastB, fbool_eq, leB_eq, Option.some.injEq] at h
    subst h
    refine ⟨?_, rfl⟩
    have : (decide (a ≤ b) && decide (b ≤ a)) = (a == b) := by
      rw [Bool.eq_iff_iff]; simp; omega
    rw [this]
    simp [binOp, Op.intCmp, bne]
  | quo =>
    obtain rfl : j = k := by simpa using hk
    cases a with
    | negSucc _ => simp [fastB] at h
    | ofNat x => cases b with
      | negSucc _ => simp [fastB] at h
      | ofNat y => cases y with
        | zero => simp [fastB] at h
        | succ y =>
          obtain ⟨rfl, h2⟩ := putK_spec h
          have e1 : (Int.ofNat x).tdiv (Int.ofNat (y + 1)) = Int.ofNat (x / (y + 1)) := rfl
          have e2 : Int.ofNat (y + 1) ≠ 0 := by
            have : (Int.ofNat (y + 1)) = (y : Int) + 1 := rfl
            omega
          simp only [binOp, ne_eq, not_true_eq_false, if_false, Op.intDiv, e2, e1, h2, oneV]
          exact ⟨rfl, trivial⟩
  | rem =>
    obtain rfl : j = k := by simpa using hk
    cases a with
    | negSucc _ => simp [fastB] at h
    | ofNat x => cases b with
      | negSucc _ => simp [fastB] at h
      | ofNat y => cases y with
        | zero => simp [fastB] at h
        | succ y =>
          obtain ⟨rfl, h2⟩ := putK_spec h
          have e1 : (Int.ofNat x).tmod (Int.ofNat (y + 1)) = Int.ofNat (x % (y + 1)) := rfl
          have e2 : Int.ofNat (y + 1) ≠ 0 := by
            have : (Int.ofNat (y + 1)) = (y : Int) + 1 := rfl
            omega
          simp only [binOp, ne_eq, not_true_eq_false, if_false, Op.intDiv, e2, e1, oneV]
          exact ⟨rfl, trivial⟩
  | and =>
    obtain rfl : j = k := by simpa using hk
    cases a with
    | negSucc _ => simp [fastB] at h
    | ofNat x => cases b with
      | negSucc _ => simp [fastB] at h
      | ofNat y =>
        obtain ⟨rfl, h2⟩ := putK_spec h
        have e1 : j.wrap (((BitVec.ofInt j.bits (Int.ofNat x) &&& BitVec.ofInt j.bits (Int.ofNat y)).toNat : Nat) : Int) = Int.ofNat (x &&& y) := by
          rw [BitVec.toNat_and, ofInt_nat, ofInt_nat, ← Nat.and_mod_two_pow, wrap_mod]; exact h2
        simp only [binOp, ne_eq, not_true_eq_false, if_false, Op.intBits, e1, oneV]
        exact ⟨rfl, trivial⟩
  | or =>
    obtain rfl : j = k := by simpa using hk
    cases a with
    | negSucc _ => simp [fastB] at h
    | ofNat x => cases b with
      | negSucc _ => simp [fastB] at h
      | ofNat y =>
        obtain ⟨rfl, h2⟩ := putK_spec h
        have e1 : j.wrap (((BitVec.ofInt j.bits (Int.ofNat x) ||| BitVec.ofInt j.bits (Int.ofNat y)).toNat : Nat) : Int) = Int.ofNat (x ||| y) := by
          rw [BitVec.toNat_or, ofInt_nat, ofInt_nat, ← Nat.or_mod_two_pow, wrap_mod]; exact h2
        simp only [binOp, ne_eq, not_true_eq_false, if_false, Op.intBits, e1, oneV]
        exact ⟨rfl, trivial⟩
  | xor =>
    obtain rfl : j = k := by simpa using hk
    cases a with
    | negSucc _ => simp [fastB] at h
    | ofNat x => cases b with
      | negSucc _ => simp [fastB] at h
      | ofNat y =>
        obtain ⟨rfl, h2⟩ := putK_spec h
        have e1 : j.wrap (((BitVec.ofInt j.bits (Int.ofNat x) ^^^ BitVec.ofInt j.bits (Int.ofNat y)).toNat : Nat) : Int) = Int.ofNat (x ^^^ y) := by
          rw [BitVec.toNat_xor, ofInt_nat, ofInt_nat, ← Nat.xor_mod_two_pow, wrap_mod]; exact h2
        simp only [binOp, ne_eq, not_true_eq_false, if_false, Op.intBits, e1, oneV]
        exact ⟨rfl, trivial⟩
  | andNot =>
    obtain rfl : j = k := by simpa using hk
    cases a with
    | negSucc _ => simp [fastB] at h
    | ofNat x => cases b with
      | negSucc _ => simp [fastB] at h
      | ofNat y =>
        obtain ⟨rfl, h2⟩ := putK_spec h
        have e1 : j.wrap (((BitVec.ofInt j.bits (Int.ofNat x) &&& ~~~BitVec.ofInt j.bits (Int.ofNat y)).toNat : Nat) : Int) = Int.ofNat (x ^^^ (x &&& y)) := by
          rw [andNot_eq, BitVec.toNat_xor, BitVec.toNat_and, ofInt_nat, ofInt_nat, ← Nat.and_mod_two_pow, ← Nat.xor_mod_two_pow, wrap_mod]; exact h2
        simp only [binOp, ne_eq, not_true_eq_false, if_false, Op.intBits, e1, oneV]
        exact ⟨rfl, trivial⟩
  | shl =>
    cases j <;> try (simp [fastB] at h; done)
    cases a with
    | negSucc _ => simp [fastB] at h
    | ofNat x => cases b with
      | negSucc _ => simp [fastB] at h
      | ofNat y =>
        simp only [fastB] at h
        split at h
        · rename_i hy
          have hy' : y ≤ 64 := Nat.le_of_ble_eq_true hy
          obtain ⟨rfl, h2⟩ := putK_spec h
          have e1 : min (Int.ofNat y).toNat IntKind.u64.bits = y := by simp [IntKind.bits]; omega
          have e2 : ¬ (Int.ofNat y < 0) := by simp
          have e3 : IntKind.u64.wrap (Int.ofNat x * 2 ^ y) = Int.ofNat (x * 2 ^ y % 18446744073709551616) := by
            have : (Int.ofNat x * 2 ^ y : Int) = ((x * 2 ^ y : Nat) : Int) := by simp
            rw [this, ← wrap_mod]
            exact h2
          simp only [binOp, Op.shift, e2, if_false, e1, e3, oneV]
          exact ⟨rfl, trivial⟩
        · simp at h
  | shr =>
    cases a with
    | negSucc _ => simp [fastB] at h
    | ofNat x => cases b with
      | negSucc _ => simp [fastB] at h
      | ofNat y =>
        simp only [fastB] at h
        split at h
        · rename_i hy
          have hy' : y ≤ j.bits := Nat.le_of_ble_eq_true hy
          obtain ⟨rfl, h2⟩ := putK_spec h
          have e1 : min (Int.ofNat y).toNat j.bits = y := by
            show min y j.bits = y
            omega
          have e2 : ¬ (Int.ofNat y < 0) := by simp
          have e3 : (Int.ofNat x).fdiv (2 ^ y) = Int.ofNat (x / 2 ^ y) := by
            have : (2 ^ y : Int) = ((2 ^ y : Nat) : Int) := by simp
            rw [this]
            exact (Int.ofNat_fdiv x (2 ^ y)).symm
          simp only [binOp, Op.shift, e2, if_false, e1, e3, oneV]
          exact ⟨rfl, trivial⟩
        · simp at h

omit [Env] in
theorem fastV_run {op : BinOp} {x y : RV} {v : Value} (ty : TypeId) (h : fastV op x y = some v) (w : World) :
    ∃ a b, x = .v a ∧ y = .v b ∧ (∀ p q : Operand, (eqGuard op ty p q a b).run P w = .ok () w) ∧ (binOp op ty a b).run P w = .ok v w ∧ oneV v = true := by
  unfold fastV at h
  split at h
  · rename_i j a k b
    refine ⟨_, _, rfl, rfl, fun p q => by rw [eqGuard_at_int]; rfl, ?_⟩
    split at h
    · exact fastB_run ty (.inl (.inl rfl)) h w
    · exact fastB_run ty (.inl (.inr rfl)) h w
    · split at h
      · rename_i hjk
        exact fastB_run ty (.inr hjk) h w
      · simp at h
  · simp at h
end
end Go.Rv
