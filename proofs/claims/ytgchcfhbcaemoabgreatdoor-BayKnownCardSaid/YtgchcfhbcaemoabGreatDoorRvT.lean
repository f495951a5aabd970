/- Orders in which a region's operations may come. -/
import Derived.Test.YtgchcfhbcaemoabGreatDoorRvS
import Derived.Orders
namespace Go.Rv
open Go

def pushB (acc : Array Nat) (o : Oper) : Array Nat :=
  acc.push (o.after.foldl (fun s e => if Region.binds .any e then s ||| 2 ^ e.on ||| acc.getD e.on 0 else s) 0)

theorem before_fold (ops : Array Oper) : Region.before ops = ops.toList.foldl pushB #[] := by
  unfold Region.before
  rw [← Array.foldl_toList]
  rfl

theorem bits_fold (acc : Array Nat) (j : Nat) : ∀ (l : List Edge) (s : Nat), (l.foldl (fun s e => if Region.binds .any e then s ||| 2 ^ e.on ||| acc.getD e.on 0 else s) s).testBit j = true →
    s.testBit j = true ∨ ∃ e ∈ l, Region.binds .any e = true ∧ (e.on = j ∨ (acc.getD e.on 0).testBit j = true)
  | [], s, h => .inl h
  | e :: l, s, h => by
    rw [List.foldl_cons] at h
    rcases bits_fold acc j l _ h with h1 | ⟨e', h1, h2⟩
    · split at h1
      · rename_i hb
        rw [Nat.testBit_or, Nat.testBit_or, Nat.testBit_two_pow] at h1
        simp only [Bool.or_eq_true, decide_eq_true_eq] at h1
        rcases h1 with (h1 | h1) | h1
        · exact .inl h1
        · exact .inr ⟨e, by simp, hb, .inl h1⟩
        · exact .inr ⟨e, by simp, hb, .inr h1⟩
      · exact .inl h1
    · exact .inr ⟨e', List.mem_cons_of_mem _ h1, h2⟩

def Bits (ops : List Oper) (acc : Array Nat) : Prop := ∀ i j, (acc.getD i 0).testBit j = true → ∃ o, ops[i]? = some o ∧ ∃ e ∈ o.after, Region.binds .any e = true ∧ (e.on = j ∨ (acc.getD e.on 0).testBit j = true)

theorem getD_push_lt (acc : Array Nat) (x : Nat) {i : Nat} (h : i < acc.size) : (acc.push x).getD i 0 = acc.getD i 0 := by
  rw [Array.getD_eq_getD_getElem?, Array.getD_eq_getD_getElem?, Array.getElem?_push_lt h, Array.getElem?_eq_getElem h]

theorem getD_some {acc : Array Nat} {i j : Nat} (h : (acc.getD i 0).testBit j = true) : i < acc.size := by
  rcases Nat.lt_or_ge i acc.size with h1 | h1
  · exact h1
  · rw [Array.getD_eq_getD_getElem?, Array.getElem?_eq_none h1] at h
    simp at h

theorem bits_ok (ops : List Oper) : ∀ (l : List Oper) (acc : Array Nat) (pre : List Oper), pre ++ l = ops → acc.size = pre.length → Bits ops acc → Bits ops (l.foldl pushB acc) ∧ (l.foldl pushB acc).size = ops.length
  | [], acc, pre, h, hs, hb => ⟨hb, by rw [← h]; simpa using hs⟩
  | o :: l, acc, pre, h, hs, hb => by
    refine bits_ok ops l (pushB acc o) (pre ++ [o]) (by rw [← h]; simp) (by simp [pushB, hs]) ?_
    intro i j hij
    have keep : ∀ k, (acc.getD k 0).testBit j = true → ((pushB acc o).getD k 0).testBit j = true := fun k hk => by
      unfold pushB
      rw [getD_push_lt acc _ (getD_some hk)]
      exact hk
    rcases Nat.lt_or_ge i acc.size with hi | hi
    · unfold pushB at hij
      rw [getD_push_lt acc _ hi] at hij
      obtain ⟨o', h1, e, h2, h3, h4⟩ := hb i j hij
      exact ⟨o', h1, e, h2, h3, h4.imp id (keep _)⟩
    · have hi2 : i = acc.size := by
        have := getD_some hij
        simp [pushB] at this
        omega
      subst hi2
      have hv : (pushB acc o).getD acc.size 0 = o.after.foldl (fun s e => if Region.binds .any e then s ||| 2 ^ e.on ||| acc.getD e.on 0 else s) 0 := by
        unfold pushB
        rw [Array.getD_eq_getD_getElem?, Array.getElem?_push_size]
        rfl
      rw [hv, ← Array.foldl_toList] at hij
      rcases bits_fold acc j _ _ hij with h1 | ⟨e, h1, h2, h3⟩
      · simp at h1
      · refine ⟨o, ?_, e, by simpa using h1, h2, h3.imp id (keep _)⟩
        rw [← h, hs]
        simp

theorem before_bit {ops : Array Oper} {i j : Nat} (h : ((Region.before ops).getD i 0).testBit j = true) :
    ∃ o, ops[i]? = some o ∧ ∃ e ∈ o.after, Region.binds .any e = true ∧ (e.on = j ∨ ((Region.before ops).getD e.on 0).testBit j = true) := by
  rw [before_fold] at h ⊢
  obtain ⟨h1, _⟩ := bits_ok ops.toList ops.toList #[] [] rfl rfl (fun i j h => absurd h (by simp))
  obtain ⟨o, h2, h3⟩ := h1 i j h
  exact ⟨o, by simpa using h2, h3⟩

theorem before_size (ops : Array Oper) : (Region.before ops).size = ops.size := by
  rw [before_fold]
  obtain ⟨_, h⟩ := bits_ok ops.toList ops.toList #[] [] rfl rfl (fun i j h => absurd h (by simp))
  simpa using h

def Edges (ops : Array Oper) : Prop := ∀ (i : Nat) (o : Oper), ops[i]? = some o → ∀ e ∈ o.after, Region.binds .any e = true → e.on < i

theorem edges_ok {P : Program} {ops : Array Oper} (h : edgesB P ops = true) : Edges ops ∧ ((P.follows .mixedOrders || !Region.departs ops) = true) := by
  unfold edgesB at h
  rw [Bool.and_eq_true] at h
  refine ⟨?_, h.1⟩
  intro i o ho e he hb
  have h1 := List.all_eq_true.1 h.2 (o, i) (by
    rw [List.mem_zipIdx_iff_getElem?]
    simpa using ho)
  have h2 := List.all_eq_true.1 h1 e (by simpa using he)
  simpa [blt_eq, hb] using h2

theorem before_lt {ops : Array Oper} (hE : Edges ops) : ∀ (i j : Nat), ((Region.before ops).getD i 0).testBit j = true → j < i := by
  intro i
  induction i using Nat.strongRecOn with
  | _ i ih =>
    intro j h
    obtain ⟨o, ho, e, he, hb, h1⟩ := before_bit h
    have := hE i o ho e he hb
    rcases h1 with h1 | h1
    · omega
    · have := ih e.on this j h1
      omega

/-- what is listed has all listed that it waits for -/
def Closed (ops : Array Oper) (listed : Array Bool) : Prop := ∀ (j : Nat) (oj : Oper), ops[j]? = some oj → listed.getD j false = true → ∀ e ∈ oj.after, Region.binds .any e = true → listed.getD e.on false = true

theorem closed_before {ops : Array Oper} (hE : Edges ops) {listed : Array Bool} (hc : Closed ops listed) : ∀ (i : Nat) (o : Oper), ops[i]? = some o → (∀ e ∈ o.after, Region.binds .any e = true → listed.getD e.on false = true) →
    ∀ j, ((Region.before ops).getD i 0).testBit j = true → listed.getD j false = true := by
  intro i
  induction i using Nat.strongRecOn with
  | _ i ih =>
    intro o ho hl j h
    obtain ⟨o', ho', e, he, hb, h1⟩ := before_bit h
    have : o' = o := Option.some.inj (ho'.symm.trans ho)
    subst this
    rcases h1 with h1 | h1
    · subst h1
      exact hl e he hb
    · obtain ⟨o2, ho2, _⟩ := before_bit h1
      exact ih e.on (hE i _ ho e he hb) o2 ho2 (hc e.on o2 ho2 (hl e he hb)) j h1

theorem closed_bits {ops : Array Oper} (hE : Edges ops) {listed : Array Bool} (hc : Closed ops listed) {i j : Nat} (hi : listed.getD i false = true) (h : ((Region.before ops).getD i 0).testBit j = true) : listed.getD j false = true := by
  obtain ⟨o, ho, _⟩ := before_bit h
  exact closed_before hE hc i o ho (hc i o ho hi) j h

theorem Closed.set {ops : Array Oper} {listed : Array Bool} (hc : Closed ops listed) {i : Nat} {o : Oper} (ho : ops[i]? = some o) (hl : ∀ e ∈ o.after, Region.binds .any e = true → listed.getD e.on false = true) :
    Closed ops (listed.setIfInBounds i true) := by
  intro j oj hj hlj e he hb
  by_cases hij : i = j
  · subst hij
    have : oj = o := Option.some.inj (hj.symm.trans ho)
    subst this
    exact getD_set_true (hl e he hb)
  · rw [getD_set_ne false hij] at hlj
    exact getD_set_true (hc j oj hj hlj e he hb)

theorem planTail_spec (bs : List Nat) : ∀ (n j : Nat), planTail bs n ≤ j → j < n → (lget bs j).getD 0 % 2 ^ j = 2 ^ j - 1
  | 0, j, _, h => absurd h (Nat.not_lt_zero j)
  | n + 1, j, h1, h2 => by
    unfold planTail at h1
    split at h1
    · rename_i hb
      by_cases hj : j = n
      · subst hj; exact hb
      · exact planTail_spec bs n j h1 (by omega)
    · omega

theorem planTail_le (bs : List Nat) : ∀ (n : Nat), planTail bs n ≤ n
  | 0 => Nat.le_refl _
  | n + 1 => by
    unfold planTail
    split
    · exact Nat.le_succ_of_le (planTail_le bs n)
    · exact Nat.le_refl _

theorem tail_bits {ops : Array Oper} {j i : Nat} (h : planTail (Region.before ops).toList ops.size ≤ j) (hj : j < ops.size) (hi : i < j) : ((Region.before ops).getD j 0).testBit i = true := by
  have h1 := planTail_spec _ _ j h hj
  rw [lget_eq] at h1
  have h2 : ((Region.before ops).toList[j]?).getD 0 = (Region.before ops).getD j 0 := by
    rw [Array.getD_eq_getD_getElem?]
    simp
  rw [h2] at h1
  have h3 : ((Region.before ops).getD j 0 % 2 ^ j).testBit i = (2 ^ j - 1).testBit i := by rw [h1]
  rw [Nat.testBit_mod_two_pow, Nat.testBit_two_pow_sub_one] at h3
  simpa [hi] using h3

theorem go_step (md : Region.Mode) (ops : Array Oper) (fuel t : Nat) (listed : Array Bool) :
    Region.linearise.go md ops (fuel + 1) t listed [] = match (Region.ready md ops listed)[t % (Region.ready md ops listed).length]? with
      | some i => i :: Region.linearise.go md ops fuel (t / (Region.ready md ops listed).length) (listed.setIfInBounds i true) []
      | none => [] := by
  simp only [Region.linearise.go]
  change (match (Region.ready md ops listed)[t % (Region.ready md ops listed).length]? with
      | some i => Region.linearise.go md ops fuel (t / (Region.ready md ops listed).length) (listed.setIfInBounds i true) [i]
      | none => [].reverse) = _
  cases (Region.ready md ops listed)[t % (Region.ready md ops listed).length]? with
  | none => rfl
  | some i =>
    simp only []
    rw [linearise_go_acc, List.reverse_singleton, List.singleton_append]

theorem off_both {listed : Array Bool} {i : Nat} (h : listed.getD i true = false) : listed.getD i false = false := by
  rcases Nat.lt_or_ge i listed.size with h' | h'
  · simp [h'] at h ⊢; exact h
  · simp [Array.getElem?_eq_none h'] at h

theorem off_in {listed : Array Bool} {i : Nat} (hi : i < listed.size) (h : listed.getD i false = false) : listed.getD i true = false := by
  simp [hi] at h ⊢; exact h

theorem ready_ne {ops : Array Oper} {listed : Array Bool} (hE : Edges ops) (hs : listed.size = ops.size) : ∀ (i : Nat), i < ops.size → listed.getD i true = false → Region.ready .any ops listed ≠ [] := by
  intro i
  induction i using Nat.strongRecOn with
  | _ i ih =>
    intro hi hl
    by_cases h : ∀ e ∈ ops[i].after, Region.binds .any e = true → listed.getD e.on false = true
    · have : i ∈ Region.ready .any ops listed := mem_ready.2 ⟨hl, ops[i], by simp [hi], h⟩
      intro hn
      rw [hn] at this
      simp at this
    · simp only [Classical.not_forall] at h
      obtain ⟨e, he, hb, hn⟩ := h
      have hlt := hE i ops[i] (by simp [hi]) e he hb
      exact ih e.on hlt (by omega) (off_in (by omega) (by simpa using hn))

/-- one is taken -/
theorem go_take {ops : Array Oper} {listed : Array Bool} (hE : Edges ops) (hs : listed.size = ops.size) {i : Nat} (hi : i < ops.size) (hl : listed.getD i true = false) (fuel t : Nat) :
    ∃ i o t', ops[i]? = some o ∧ listed.getD i true = false ∧ (∀ e ∈ o.after, Region.binds .any e = true → listed.getD e.on false = true) ∧
      Region.linearise.go .any ops (fuel + 1) t listed [] = i :: Region.linearise.go .any ops fuel t' (listed.setIfInBounds i true) [] := by
  have hne := ready_ne hE hs i hi hl
  rw [go_step]
  have hpos : 0 < (Region.ready .any ops listed).length := List.length_pos_iff.2 hne
  have hlt : t % (Region.ready .any ops listed).length < (Region.ready .any ops listed).length := Nat.mod_lt _ hpos
  rw [List.getElem?_eq_getElem hlt]
  have hm := List.getElem_mem hlt
  obtain ⟨h1, o, h2, h3⟩ := mem_ready.1 hm
  exact ⟨_, o, _, h2, h1, fun e he hb => h3 e he hb, rfl⟩

theorem go_done {md : Region.Mode} {ops : Array Oper} {listed : Array Bool} (h : ∀ i, i < ops.size → listed.getD i true = true) (fuel t : Nat) : Region.linearise.go md ops fuel t listed [] = [] := by
  cases fuel with
  | zero => rfl
  | succ fuel =>
    rw [go_step]
    have : Region.ready md ops listed = [] := by
      rw [List.eq_nil_iff_forall_not_mem]
      intro i hi
      obtain ⟨h1, o, h2, _⟩ := mem_ready.1 hi
      rw [h i (Array.getElem?_eq_some_iff.1 h2).1] at h1
      simp at h1
    rw [this]
    simp

/-- how many are not listed -/
def unl (listed : Array Bool) : Nat → Nat
  | 0 => 0
  | n + 1 => unl listed n + (if listed.getD n true = false then 1 else 0)

theorem unl_same {listed : Array Bool} {i : Nat} : ∀ n, n ≤ i → unl (listed.setIfInBounds i true) n = unl listed n
  | 0, _ => rfl
  | n + 1, h => by
    unfold unl
    rw [unl_same n (by omega), getD_set_ne true (show i ≠ n by omega)]

theorem unl_set {listed : Array Bool} {i : Nat} (hs : i < listed.size) (hl : listed.getD i true = false) : ∀ n, i < n → unl (listed.setIfInBounds i true) n + 1 = unl listed n
  | 0, h => absurd h (Nat.not_lt_zero i)
  | n + 1, h => by
    by_cases hin : i = n
    · subst hin
      unfold unl
      rw [unl_same i (Nat.le_refl _), if_pos hl, if_neg (by simp [hs])]
    · have := unl_set hs hl n (by omega)
      unfold unl
      rw [getD_set_ne true hin]
      omega

theorem unl_pos {listed : Array Bool} {i : Nat} (hl : listed.getD i true = false) : ∀ n, i < n → 0 < unl listed n
  | 0, h => absurd h (Nat.not_lt_zero i)
  | n + 1, h => by
    unfold unl
    by_cases hin : i = n
    · subst hin
      rw [if_pos hl]
      omega
    · have := unl_pos hl n (by omega)
      omega

theorem unl_le (listed : Array Bool) : ∀ n, unl listed n ≤ n
  | 0 => Nat.le_refl _
  | n + 1 => by
    have := unl_le listed n
    unfold unl
    split <;> omega

/-- the tail comes in its order -/
theorem go_tail {ops : Array Oper} (hE : Edges ops) {k : Nat} (hk : k = planTail (Region.before ops).toList ops.size) : ∀ (d c : Nat) (listed : Array Bool) (fuel t : Nat), ops.size - c = d → k ≤ c → c ≤ ops.size →
    listed.size = ops.size → Closed ops listed → (∀ i, i < c → listed.getD i false = true) → (∀ i, c ≤ i → i < ops.size → listed.getD i true = false) → d ≤ fuel →
    Region.linearise.go .any ops fuel t listed [] = List.range' c d
  | 0, c, listed, fuel, t, hd, hkc, hc, hs, hcl, h1, h2, hf => by
    rw [go_done]
    · rfl
    · intro i hi
      have := h1 i (by omega)
      simp [hs, hi] at this ⊢
      exact this
  | d + 1, c, listed, fuel, t, hd, hkc, hc, hs, hcl, h1, h2, hf => by
    obtain ⟨fuel, rfl⟩ : ∃ f, fuel = f + 1 := ⟨fuel - 1, by omega⟩
    obtain ⟨i, o, t', ho, hl, he, heq⟩ := go_take hE hs (show c < ops.size by omega) (h2 c (Nat.le_refl _) (by omega)) fuel t
    have hin : i < ops.size := (Array.getElem?_eq_some_iff.1 ho).1
    have hic : c ≤ i := by
      rcases Nat.lt_or_ge i c with h | h
      · have h3 := h1 i h
        rw [off_both hl] at h3
        simp at h3
      · exact h
    have hi : i = c := by
      rcases Nat.lt_or_ge c i with h | h
      · have hb := tail_bits (ops := ops) (by omega) hin h
        have := closed_before hE hcl i o ho he c hb
        rw [off_both (h2 c (Nat.le_refl _) (by omega))] at this
        simp at this
      · omega
    subst hi
    rw [heq, List.range'_succ]
    congr 1
    refine go_tail hE hk d (i + 1) _ fuel t' (by omega) (by omega) (by omega) (by simp [hs]) (hcl.set ho he) ?_ ?_ (by omega)
    · intro j hj
      by_cases hji : i = j
      · subst hji
        simp [hs, hin]
      · rw [getD_set_ne false hji]
        exact h1 j (by omega)
    · intro j hj hjn
      rw [getD_set_ne true (show i ≠ j by omega)]
      exact h2 j (by omega) hjn
end Go.Rv
