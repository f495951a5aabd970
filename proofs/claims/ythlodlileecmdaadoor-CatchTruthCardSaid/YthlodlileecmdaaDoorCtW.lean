/- Numbers of spans; animals that count. -/
import Derived.Test.YthlodlileecmdaaDoorSyP2
import Derived.Test.YthlodlileecmdaaDoorGrM
import Derived.Test.YthlodlileecmdaaDoorCtT
import Derived.Test.YthlodlileecmdaaDoorCtA
import Derived.Test.YthlodlileecmdaaDoorCtB
import Derived.Test.YthlodlileecmdaaDoorCtC
import Derived.Test.YthlodlileecmdaaDoorCtU
import Derived.Test.YthlodlileecmdaaDoorCtV
import Derived.Test.YthlodlileecmdaaDoorSyP2
import Derived.KernelRfl
import Derived.Test.YthlodlileecmdaaDoorProg
namespace Go.Proofs.YthlodlileecmdaaDoor.Sy
open Go Go.Rv
set_option linter.unusedVariables false

def inV (a lo hi : Int) : Int := if belowV a 4 = 0 then lo else if belowV a 4 = 1 then hi else lo + belowV (belowA a 4) (hi - lo + 1)
def inA (a lo hi : Int) : Int := if belowV a 4 = 0 then belowA a 4 else if belowV a 4 = 1 then belowA a 4 else belowA (belowA a 4) (hi - lo + 1)
theorem inV_in {a lo hi : Int} (h : lo ≤ hi) : lo ≤ inV a lo hi ∧ inV a lo hi ≤ hi := by
  have h3 := belowV_in (belowA a 4) (hi - lo + 1)
  unfold inV
  split
  · omega
  · split <;> omega
def epIn (a low high s : Int) : Prop := ∃ x, a ≤ x ∧ x < s ∧ low ≤ x ∧ x ≤ high
def epOut (a low high s : Int) : Prop := ∃ x, a ≤ x ∧ x < s ∧ ¬ (low ≤ x ∧ x ≤ high)
theorem epIn_none (a low high : Int) : ¬ epIn a low high a := fun ⟨x, h1, h2, _⟩ => by omega
theorem epOut_none (a low high : Int) : ¬ epOut a low high a := fun ⟨x, h1, h2, _⟩ => by omega
theorem epIn_next {a low high s : Int} (h : a ≤ s) : epIn a low high (s + 1) ↔ epIn a low high s ∨ (low ≤ s ∧ s ≤ high) := by
  constructor
  · intro ⟨x, h1, h2, h3⟩
    by_cases e : x = s
    · subst e; exact .inr h3
    · exact .inl ⟨x, h1, by omega, h3⟩
  · intro h2
    rcases h2 with ⟨x, h1, h2, h3⟩ | h3
    · exact ⟨x, h1, by omega, h3⟩
    · exact ⟨s, h, by omega, h3⟩
theorem epOut_next {a low high s : Int} (h : a ≤ s) : epOut a low high (s + 1) ↔ epOut a low high s ∨ ¬ (low ≤ s ∧ s ≤ high) := by
  constructor
  · intro ⟨x, h1, h2, h3⟩
    by_cases e : x = s
    · subst e; exact .inr h3
    · exact .inl ⟨x, h1, by omega, h3⟩
  · intro h2
    rcases h2 with ⟨x, h1, h2, h3⟩ | h3
    · exact ⟨x, h1, by omega, h3⟩
    · exact ⟨s, h, by omega, h3⟩
open Classical in
noncomputable def endN (L : Rows) (low high : Int) (most : Prop) : Nat → Int
  | 0 => 0
  | k + 1 => endN L low high most k + (if (most ∧ epIn (cell L k 0) low high (cell L k 1 + 1)) ∨ (¬ most ∧ ¬ epOut (cell L k 0) low high (cell L k 1 + 1)) then 1 else 0)
theorem endN_bd (L : Rows) (low high : Int) (most : Prop) : ∀ k : Nat, 0 ≤ endN L low high most k ∧ endN L low high most k ≤ k
  | 0 => by simp [endN]
  | k + 1 => by
    have h := endN_bd L low high most k
    simp only [endN]
    split <;> omega
theorem ins_lo {a b lo hi : Int} (h : a ≤ b) (h2 : lo ≤ hi) : (insV a b lo hi = 1) ↔ ¬ epOut a lo hi (b + 1) := by
  unfold insV
  constructor
  · intro h3 ⟨x, x1, x2, x3⟩
    split at h3
    · omega
    · split at h3
      · omega
      · omega
  · intro h3
    have e1 : lo ≤ a := Classical.byContradiction fun h4 => h3 ⟨a, by omega, by omega, by omega⟩
    have e2 : b ≤ hi := Classical.byContradiction fun h4 => h3 ⟨b, by omega, by omega, by omega⟩
    rw [if_neg (by omega), if_pos ⟨e1, e2⟩]
theorem ins_hi {a b lo hi : Int} (h : a ≤ b) (h2 : lo ≤ hi) : (insV a b lo hi = 2) ↔ ¬ epIn a lo hi (b + 1) := by
  unfold insV
  constructor
  · intro h3 ⟨x, x1, x2, x3⟩
    split at h3
    · omega
    · split at h3
      · omega
      · omega
  · intro h3
    have e1 : b < lo ∨ hi < a := Classical.byContradiction fun h4 => by
      by_cases e : a ≤ lo
      · exact h3 ⟨lo, by omega, by omega, by omega⟩
      · exact h3 ⟨a, by omega, by omega, by omega⟩
    rw [if_pos e1]
theorem end_lo {E L : Rows} {i : Nat} (h2 : cell E i 0 ≤ cell E (i + 1) 0 - 1) {n : Nat} (hc : capTo L n = 0) : ∀ k, k ≤ n → endN L (cell E i 0) (cell E (i + 1) 0 - 1) False k = cntLo E L i k
  | 0, _ => rfl
  | k + 1, hk => by
    have hs := cap_size (cap_all hc k (by omega))
    simp only [endN, cntLo, end_lo h2 hc k (by omega)]
    congr 1
    have := ins_lo (b := cell L k 1) hs.2.1 h2
    by_cases e : insV (cell L k 0) (cell L k 1) (cell E i 0) (cell E (i + 1) 0 - 1) = 1
    · rw [if_pos e, if_pos (.inr ⟨id, this.1 e⟩)]
    · rw [if_neg e, if_neg]
      rintro (⟨h, _⟩ | ⟨_, h⟩)
      · exact h
      · exact e (this.2 h)
theorem end_hi {E L : Rows} {i : Nat} (h2 : cell E i 0 ≤ cell E (i + 1) 0 - 1) {n : Nat} (hc : capTo L n = 0) : ∀ k, k ≤ n → endN L (cell E i 0) (cell E (i + 1) 0 - 1) True k = cntHi E L i k
  | 0, _ => rfl
  | k + 1, hk => by
    have hs := cap_size (cap_all hc k (by omega))
    simp only [endN, cntHi, end_hi h2 hc k (by omega)]
    congr 1
    have := ins_hi (b := cell L k 1) hs.2.1 h2
    by_cases e : insV (cell L k 0) (cell L k 1) (cell E i 0) (cell E (i + 1) 0 - 1) = 2
    · rw [if_pos e, if_neg]
      rintro (⟨_, h⟩ | ⟨h, _⟩)
      · exact this.1 e h
      · exact h trivial
    · rw [if_neg e, if_pos]
      exact .inl ⟨trivial, Classical.byContradiction fun h => e (this.2 h)⟩
theorem said_in (a : Int) (p : Prop) : 1 ≤ saidV a p ∧ saidV a p ≤ 3 := by
  unfold saidV
  split
  · omega
  · split <;> omega
theorem trSex_in (a : Int) : 1 ≤ trSex a ∧ trSex a ≤ 2 := by
  have h : 0 ≤ belowV (trA2 a) 2 ∧ (belowV (trA2 a) 2 < 2 ∨ belowV (trA2 a) 2 = 0) := belowV_in (trA2 a) 2
  unfold trSex
  generalize belowV (trA2 a) 2 = x at *
  omega
theorem trSh_in (a : Int) : 1 ≤ trSh a ∧ trSh a ≤ 3 := by
  have h : 0 ≤ belowV (trA3 a) 3 ∧ (belowV (trA3 a) 3 < 3 ∨ belowV (trA3 a) 3 = 0) := belowV_in (trA3 a) 3
  unfold trSh
  generalize belowV (trA3 a) 3 = x at *
  omega
theorem cgEg_in (a : Int) : 1 ≤ cgEg a ∧ cgEg a ≤ 3 ∧ (trSex a = 1 → cgEg a = 2) := by
  unfold cgEg msEg
  split
  · have := said_in (msA3 (trQ a)) (trEg a)
    exact ⟨this.1, this.2, fun h => by omega⟩
  · exact ⟨by omega, by omega, fun _ => rfl⟩
theorem cgNo_in (a : Int) : 1 ≤ cgNo a ∧ cgNo a ≤ 3 ∧ (trSex a = 1 → cgNo a = 2) := by
  unfold cgNo msNo
  split
  · have := said_in (msA4 (trQ a)) (trNo a)
    exact ⟨this.1, this.2, fun h => by omega⟩
  · exact ⟨by omega, by omega, fun _ => rfl⟩
theorem cgSz_in (a : Int) : 700 ≤ cgLo a ∧ cgLo a ≤ cgHi a ∧ cgHi a ≤ 1400 := by
  have h1 := trSz_in a
  have h2 := msB_in (trQ a)
  unfold cgLo cgHi
  generalize trSz a = x at *
  generalize msB1 (trQ a) = y at *
  generalize msB2 (trQ a) = z at *
  omega
theorem cap_cg (a : Int) : capErr (cgLo a) (cgHi a) (trSex a) (cgEg a) (cgNo a) (trSh a) = 0 := by
  have h1 := cgSz_in a
  have h2 := cgEg_in a
  have h3 := cgNo_in a
  have h4 := trSex_in a
  have h5 := trSh_in a
  generalize cgLo a = x1 at *
  generalize cgHi a = x2 at *
  generalize trSex a = x3 at *
  generalize cgEg a = x4 at *
  generalize cgNo a = x5 at *
  generalize trSh a = x6 at *
  unfold capErr inB
  rw [if_pos (by omega), if_neg (by omega), if_pos (by omega), if_neg (by omega), if_pos (by omega)]
theorem getD_app' {l m : Rows} {i : Nat} (h : i < l.length) : (l ++ m).getD i [] = l.getD i [] := by
  rw [List.getD_eq_getElem?_getD, List.getElem?_append_left h, ← List.getD_eq_getElem?_getD]
theorem hdR_get (a : Int) : ∀ k i, i < k → (hdR a k).getD i [] = cgRow (hdQ a i)
  | k + 1, i, hi => by
    have hl := hdR_len a k
    simp only [hdR]
    by_cases e : i = k
    · subst e
      rw [List.getD_eq_getElem?_getD, List.getElem?_append_right (by omega), hl, Nat.sub_self]
      rfl
    · rw [getD_app' (by omega)]
      exact hdR_get a k i (by omega)
theorem cap_row {L : Rows} {i : Nat} {x0 x1 x2 x3 x4 x5 : Int} (h : L.getD i [] = [x0, x1, x2, x3, x4, x5]) : capAt L i = capErr x0 x1 x2 x3 x4 x5 := by
  unfold capAt cell
  rw [h]
  rfl
theorem hdR_cap (a : Int) (k : Nat) {i : Nat} (hi : i < k) : capAt (hdR a k) i = 0 := by
  have h := hdR_get a k i hi
  unfold cgRow at h
  rw [cap_row h]
  exact cap_cg (hdQ a i)
theorem capTo_of {L : Rows} {n : Nat} (h : ∀ i, i < n → capAt L i = 0) : capTo L n = 0 := by
  induction n with
  | zero => rfl
  | succ n ih =>
    simp only [capTo, ih fun i hi => h i (by omega), if_true]
    exact h n (by omega)
theorem hdR_many (a : Int) {k : Nat} (hk : k ≤ 600) : manyErr (hdR a k) = 0 := by
  unfold manyErr
  rw [hdR_len, if_neg (by omega)]
  exact capTo_of fun i hi => hdR_cap a k hi

noncomputable def F_In : FnE := ⟨41, (some [.i .u64]), [.agg [.i .i64, .i .i64]], fun l => match l with | [.z a, .z lo, .z hi] => -1000000000 ≤ lo ∧ lo ≤ 1000000000 ∧ -1000000000 ≤ hi ∧ hi ≤ 1000000000 | _ => False, fun l => match l with | [.z a, .z lo, .z hi] => [.i .i64 (inV a lo hi)] | _ => [], fun l => match l with | [.z a, .z lo, .z hi] => [] | _ => [], fun l => match l with | [.z a, .z lo, .z hi] => [.i .u64 (inA a lo hi)] | _ => [], false⟩
noncomputable def A_In : List SV → List Dat → Nat → List SV → Ann := fun _ _ _ _ => noAnn

def V_In : Prop :=
  ∀ (B : RW) (n n_1 n_2 : Int), F_In.pre ([Dat.z n] ++ ([Dat.z n_1, Dat.z n_2] ++ [])) → Ob (F_Below.pre ([Dat.z n] ++ [Dat.z (4 : Int)])) ∧ (belowV n (4 : Int) = (0 : Int) → Ob (n_1 = inV n n_1 n_2) ∧ Ob (belowA n (4 :
  Int) = inA n n_1 n_2) ∧ True) ∧ (¬belowV n (4 : Int) = (0 : Int) → (belowV n (4 : Int) = (1 : Int) → Ob (n_2 = inV n n_1 n_2) ∧ Ob (belowA n (4 : Int) = inA n n_1 n_2) ∧ True) ∧ (¬belowV n (4 : Int) = (1 : Int) → Ob
  (F_From.pre ([Dat.z (belowA n (4 : Int))] ++ [Dat.z n_1, Dat.z n_2])) ∧ Ob (n_1 + belowV (belowA n (4 : Int)) (n_2 - n_1 + (1 : Int)) = inV n n_1 n_2) ∧ Ob (belowA (belowA n (4 : Int)) (n_2 - n_1 + (1 : Int)) = inA n n_1
  n_2) ∧ True))

set_option linter.unusedSimpArgs false in
set_option maxRecDepth 4000 in
set_option maxHeartbeats 400000 in
theorem v_In : V_In := by
  unfold V_In
  intro B a lo hi h
  simp only [F_In, F_From, F_Below, List.cons_append, List.nil_append, Ob_iff, InR] at h ⊢
  simp only [inV, inA]
  refine ⟨by omega, fun k0 => ?_, fun k0 => ⟨fun k1 => ?_, fun k1 => ?_⟩⟩
  · simp only [k0, if_true, and_self]
  · simp only [k1, if_true, if_neg (show ¬ (1 : Int) = 0 by omega), and_self]
  · simp only [if_neg k0, if_neg k1, and_true]
    omega

theorem e_In : V_In = needE P [] [F_Below, F_From] A_In F_In := by kernel_rfl

theorem n_In : Ob (needE P [] [F_Below, F_From] A_In F_In) := by
  rw [← e_In]
  exact ⟨v_In⟩

theorem b_In : ((P.funcs[41]?).any fun fn => fn.body.isSome) = true := by kernel_rfl

theorem In_ok : FnE.Ok P F_In := FnE.ok named (l := []) (es := [F_Below, F_From]) (A := A_In) (by rfl) (by rfl) (by rfl) (by
  intro F h; simp at h) (by
  intro F h
  simp only [List.mem_cons, List.not_mem_nil, or_false] at h
  rcases h with rfl | rfl
  · exact Below_ok
  · exact From_ok
) b_In (by
  rintro ds h o ho n sz e k z rfl
  simp only [F_In] at ho
  split at ho <;> simp at ho) n_In

noncomputable def F_Covers : Fn0 := ⟨42, [.agg [.i .i64, .i .i64], i64], fun _ => True, fun l => match l with | [.z lo, .z hi, .z n] => .p (lo ≤ n ∧ n ≤ hi) | _ => .v undef⟩
noncomputable def A_Covers : List SV → List Dat → Nat → List SV → Ann := fun _ _ _ _ => noAnn

def V_Covers : Prop :=
  ∀ (B : RW) (n n_1 n_2 : Int), True → (n ≤ n_2 → Ob (n_2 ≤ n_1 ↔ n ≤ n_2 ∧ n_2 ≤ n_1) ∧ True) ∧ (¬n ≤ n_2 → Ob (false = true ↔ n ≤ n_2 ∧ n_2 ≤ n_1) ∧ True)

set_option linter.unusedSimpArgs false in
set_option maxRecDepth 4000 in
set_option maxHeartbeats 400000 in
theorem v_Covers : V_Covers := by
  unfold V_Covers
  intros
  simp only [Ob_iff, and_true, true_and, InR] at *
  all_goals grind

theorem e_Covers : V_Covers = needF P [] A_Covers F_Covers := by kernel_rfl

theorem n_Covers : Ob (needF P [] A_Covers F_Covers) := by
  rw [← e_Covers]
  exact ⟨v_Covers⟩

theorem b_Covers : ((P.funcs[42]?).any fun fn => fn.body.isSome) = true := by kernel_rfl

theorem Covers_ok : Fn0.Ok P F_Covers := Fn0.ok named (l := []) (A := A_Covers) (by rfl) (by
  intro F h; simp at h) b_Covers (by
  intro ds N
  simp only [F_Covers]
  split <;> rfl) n_Covers

noncomputable def F_spanL : Fn0 := ⟨44, [i64, i64], fun _ => True, fun l => match l with | [.z a, .z b] => .agg [.i .i64 a, .i .i64 b] | _ => .v undef⟩
noncomputable def A_spanL : List SV → List Dat → Nat → List SV → Ann := fun _ _ _ _ => noAnn

def V_spanL : Prop :=
  ∀ (B : RW) (n n_1 : Int), True → Ob (n = n) ∧ Ob (n_1 = n_1) ∧ True

set_option linter.unusedSimpArgs false in
set_option maxRecDepth 4000 in
set_option maxHeartbeats 400000 in
theorem v_spanL : V_spanL := by
  unfold V_spanL
  intros
  simp only [Ob_iff, and_true, true_and, InR] at *
  all_goals grind

theorem e_spanL : V_spanL = needF P [] A_spanL F_spanL := by kernel_rfl

theorem n_spanL : Ob (needF P [] A_spanL F_spanL) := by
  rw [← e_spanL]
  exact ⟨v_spanL⟩

theorem b_spanL : ((P.funcs[44]?).any fun fn => fn.body.isSome) = true := by kernel_rfl

theorem spanL_ok : Fn0.Ok P F_spanL := Fn0.ok named (l := []) (A := A_spanL) (by rfl) (by
  intro F h; simp at h) b_spanL (by
  intro ds N
  simp only [F_spanL]
  split <;> rfl) n_spanL

noncomputable def F_ending : Fn0 := ⟨43, [.one (.l [.i64, .i64, .i64, .i64, .i64, .i64]), i64, i64, .one .b], fun l => match l with | [.l L, .z low, .z high, .p most] => manyErr L = 0 | _ => False, fun l => match l with | [.l L, .z low, .z high, .p most] => .i .i64 (endN L low high most L.length) | _ => .v undef⟩
noncomputable def A_ending : List SV → List Dat → Nat → List SV → Ann := fun xs ds n ts => match xs with
  | [.lst x _ _ _, .i _ _, .i _ _, .p _] => match ds with
    | [.l L, .z low, .z high, .p most] => match n with
      | 3 => ⟨Nat, fun k => [some (SV.lst x L.length ((6 : Nat)) (Rv.elemOf [IntKind.i64, IntKind.i64, IntKind.i64, IntKind.i64, IntKind.i64, IntKind.i64] L)), some (SV.i IntKind.i64 low), some (SV.i IntKind.i64 high), some (SV.p most), none, none, none, none, some (SV.v (Value.int IntKind.i64 (0 : Int))), some (.i .i64 (endN L low high most k)), some (.i .i64 k), none, none, none, none, none, none, none, none, none, none, none, none, none, none, none, none, none, none, none, none, none, none, none, none, none, none, none, none, none, none, none, none, none, none, none, none, none, none, none, none, none, none, none, none, none, none, none, none, none, none, none, none, none, none, none, none, none, none], fun k => [], fun k => k ≤ L.length, fun k => L.length - k, 0⟩
      | 7 => (match lget ts 10 with | some (SV.i _ r10) => ⟨Int, fun s => [some (SV.lst x L.length ((6 : Nat)) (Rv.elemOf [IntKind.i64, IntKind.i64, IntKind.i64, IntKind.i64, IntKind.i64, IntKind.i64] L)), some (SV.i IntKind.i64 low), some (SV.i IntKind.i64 high), some (SV.p most), none, none, none, none, some (SV.v (Value.int IntKind.i64 (0 : Int))), some (.i .i64 (endN L low high most r10.toNat)), some (SV.i .i64 r10), some (.p (epIn (cell L r10.toNat 0) low high s)), some (.p (epOut (cell L r10.toNat 0) low high s)), some (.i .i64 s), none, none, none, none, none, none, none, none, none, none, none, none, none, none, none, none, none, none, none, none, none, none, none, none, none, none, none, none, none, none, none, none, none, none, none, none, none, none, none, none, none, none, none, none, none, none, none, none, none, none, none, none, none, none, none], fun s => [], fun s => cell L r10.toNat 0 ≤ s ∧ s ≤ cell L r10.toNat 1 + 1, fun s => (cell L r10.toNat 1 + 1 - s).toNat, 0⟩ | _ => noAnn)
      | _ => noAnn
    | _ => noAnn
  | _ => noAnn

def V_ending : Prop :=
  ∀ (B : RW) (x : RV) (rows : List (List Int)), IsLst B x rows.length ((6 : Nat)) (Rv.elemOf [IntKind.i64, IntKind.i64, IntKind.i64, IntKind.i64, IntKind.i64, IntKind.i64] rows) → oneB x = true → (∀ (row : List Int), row ∈
  rows → row.length = (6 : Nat)) → ∀ (n n_1 : Int) (c : Prop), manyErr rows = (0 : Int) → (∃ (a : Nat), Ob (a ≤ rows.length) ∧ Ob (SV.lst x rows.length ((6 : Nat)) (Rv.elemOf [IntKind.i64, IntKind.i64, IntKind.i64,
  IntKind.i64, IntKind.i64, IntKind.i64] rows) = SV.lst x rows.length ((6 : Nat)) (Rv.elemOf [IntKind.i64, IntKind.i64, IntKind.i64, IntKind.i64, IntKind.i64, IntKind.i64] rows)) ∧ Ob (n = n) ∧ Ob (n_1 = n_1) ∧ Ob (c ↔ c)
  ∧ Ob (Value.int IntKind.i64 (0 : Int) = Value.int IntKind.i64 (0 : Int)) ∧ Ob ((0 : Int) = endN rows n n_1 c a) ∧ Ob ((0 : Int) = (↑a : Int)) ∧ Ob (IsLst B x rows.length ((6 : Nat)) (Rv.elemOf [IntKind.i64, IntKind.i64,
  IntKind.i64, IntKind.i64, IntKind.i64, IntKind.i64] rows)) ∧ True) ∧ ∀ (a : Nat), a ≤ rows.length → ∀ (z z_1 z_2 z_3 z_4 z_5 z_6 z_7 z_8 z_9 z_10 z_11 z_12 z_13 z_14 z_15 z_16 z_17 z_18 z_19 z_20 z_21 z_22 z_23 z_24 z_25
  z_26 z_27 z_28 z_29 z_30 z_31 z_32 z_33 z_34 z_35 z_36 z_37 z_38 z_39 z_40 z_41 z_42 z_43 z_44 z_45 z_46 z_47 z_48 z_49 z_50 z_51 z_52 z_53 z_54 z_55 z_56 z_57 z_58 z_59 z_60 z_61 : Value), Ob (IsLst B x rows.length ((6
  : Nat)) (Rv.elemOf [IntKind.i64, IntKind.i64, IntKind.i64, IntKind.i64, IntKind.i64, IntKind.i64] rows)) ∧ ((↑a : Int) < (↑rows.length : Int) → Ob ((0 : Int) ≤ (↑a : Int) ∧ a < rows.length ∧ IsLst B x rows.length ((6 :
  Nat)) (Rv.elemOf [IntKind.i64, IntKind.i64, IntKind.i64, IntKind.i64, IntKind.i64, IntKind.i64] rows)) ∧ Ob (IsLst B x rows.length ((6 : Nat)) (Rv.elemOf [IntKind.i64, IntKind.i64, IntKind.i64, IntKind.i64, IntKind.i64,
  IntKind.i64] rows) ∧ a < rows.length) ∧ (∃ (a_1 : Int), Ob (cell rows a ((0 : Nat)) ≤ a_1 ∧ a_1 ≤ cell rows a ((1 : Nat)) + (1 : Int)) ∧ Ob (SV.lst x rows.length ((6 : Nat)) (Rv.elemOf [IntKind.i64, IntKind.i64,
  IntKind.i64, IntKind.i64, IntKind.i64, IntKind.i64] rows) = SV.lst x rows.length ((6 : Nat)) (Rv.elemOf [IntKind.i64, IntKind.i64, IntKind.i64, IntKind.i64, IntKind.i64, IntKind.i64] rows)) ∧ Ob (n = n) ∧ Ob (n_1 = n_1)
  ∧ Ob (c ↔ c) ∧ Ob (Value.int IntKind.i64 (0 : Int) = Value.int IntKind.i64 (0 : Int)) ∧ Ob (endN rows n n_1 c a = endN rows n n_1 c a) ∧ Ob ((↑a : Int) = (↑a : Int)) ∧ Ob (false = true ↔ epIn (cell rows a ((0 : Nat))) n
  n_1 a_1) ∧ Ob (false = true ↔ epOut (cell rows a ((0 : Nat))) n n_1 a_1) ∧ Ob (cell rows a ((0 : Nat)) = a_1) ∧ Ob (IsLst B x rows.length ((6 : Nat)) (Rv.elemOf [IntKind.i64, IntKind.i64, IntKind.i64, IntKind.i64,
  IntKind.i64, IntKind.i64] rows)) ∧ True) ∧ ∀ (a_1 : Int), cell rows a ((0 : Nat)) ≤ a_1 ∧ a_1 ≤ cell rows a ((1 : Nat)) + (1 : Int) → ∀ (z_62 z_63 z_64 z_65 z_66 z_67 z_68 z_69 z_70 z_71 z_72 z_73 z_74 z_75 z_76 z_77
  z_78 z_79 z_80 z_81 z_82 z_83 z_84 z_85 z_86 z_87 z_88 z_89 z_90 z_91 z_92 z_93 z_94 z_95 z_96 z_97 z_98 z_99 z_100 z_101 z_102 z_103 z_104 z_105 z_106 z_107 z_108 z_109 z_110 z_111 z_112 z_113 z_114 z_115 z_116 z_117
  z_118 z_119 z_120 : Value), Ob ((0 : Int) ≤ (↑a : Int) ∧ a < rows.length ∧ IsLst B x rows.length ((6 : Nat)) (Rv.elemOf [IntKind.i64, IntKind.i64, IntKind.i64, IntKind.i64, IntKind.i64, IntKind.i64] rows)) ∧ Ob (IsLst B
  x rows.length ((6 : Nat)) (Rv.elemOf [IntKind.i64, IntKind.i64, IntKind.i64, IntKind.i64, IntKind.i64, IntKind.i64] rows) ∧ a < rows.length) ∧ (a_1 ≤ cell rows a ((1 : Nat)) → (n ≤ a_1 → (¬epIn (cell rows a ((0 : Nat)))
  n n_1 a_1 → (¬epOut (cell rows a ((0 : Nat))) n n_1 a_1 → Ob (InR IntKind.i64 (a_1 + (1 : Int))) ∧ ∃ (a' : Int), Ob ((cell rows a ((0 : Nat)) ≤ a' ∧ a' ≤ cell rows a ((1 : Nat)) + (1 : Int)) ∧ (cell rows a ((1 : Nat)) +
  (1 : Int) - a').toNat < (cell rows a ((1 : Nat)) + (1 : Int) - a_1).toNat) ∧ Ob (SV.lst x rows.length ((6 : Nat)) (Rv.elemOf [IntKind.i64, IntKind.i64, IntKind.i64, IntKind.i64, IntKind.i64, IntKind.i64] rows) = SV.lst x
  rows.length ((6 : Nat)) (Rv.elemOf [IntKind.i64, IntKind.i64, IntKind.i64, IntKind.i64, IntKind.i64, IntKind.i64] rows)) ∧ Ob (n = n) ∧ Ob (n_1 = n_1) ∧ Ob (c ↔ c) ∧ Ob (Value.int IntKind.i64 (0 : Int) = Value.int
  IntKind.i64 (0 : Int)) ∧ Ob (endN rows n n_1 c a = endN rows n n_1 c a) ∧ Ob ((↑a : Int) = (↑a : Int)) ∧ Ob (a_1 ≤ n_1 ↔ epIn (cell rows a ((0 : Nat))) n n_1 a') ∧ Ob (¬a_1 ≤ n_1 ↔ epOut (cell rows a ((0 : Nat))) n n_1
  a') ∧ Ob (a_1 + (1 : Int) = a') ∧ Ob (IsLst B x rows.length ((6 : Nat)) (Rv.elemOf [IntKind.i64, IntKind.i64, IntKind.i64, IntKind.i64, IntKind.i64, IntKind.i64] rows)) ∧ True) ∧ (epOut (cell rows a ((0 : Nat))) n n_1
  a_1 → Ob (InR IntKind.i64 (a_1 + (1 : Int))) ∧ ∃ (a' : Int), Ob ((cell rows a ((0 : Nat)) ≤ a' ∧ a' ≤ cell rows a ((1 : Nat)) + (1 : Int)) ∧ (cell rows a ((1 : Nat)) + (1 : Int) - a').toNat < (cell rows a ((1 : Nat)) +
  (1 : Int) - a_1).toNat) ∧ Ob (SV.lst x rows.length ((6 : Nat)) (Rv.elemOf [IntKind.i64, IntKind.i64, IntKind.i64, IntKind.i64, IntKind.i64, IntKind.i64] rows) = SV.lst x rows.length ((6 : Nat)) (Rv.elemOf [IntKind.i64,
  IntKind.i64, IntKind.i64, IntKind.i64, IntKind.i64, IntKind.i64] rows)) ∧ Ob (n = n) ∧ Ob (n_1 = n_1) ∧ Ob (c ↔ c) ∧ Ob (Value.int IntKind.i64 (0 : Int) = Value.int IntKind.i64 (0 : Int)) ∧ Ob (endN rows n n_1 c a = endN
  rows n n_1 c a) ∧ Ob ((↑a : Int) = (↑a : Int)) ∧ Ob (a_1 ≤ n_1 ↔ epIn (cell rows a ((0 : Nat))) n n_1 a') ∧ Ob (true = true ↔ epOut (cell rows a ((0 : Nat))) n n_1 a') ∧ Ob (a_1 + (1 : Int) = a') ∧ Ob (IsLst B x
  rows.length ((6 : Nat)) (Rv.elemOf [IntKind.i64, IntKind.i64, IntKind.i64, IntKind.i64, IntKind.i64, IntKind.i64] rows)) ∧ True)) ∧ (epIn (cell rows a ((0 : Nat))) n n_1 a_1 → (¬epOut (cell rows a ((0 : Nat))) n n_1 a_1
  → Ob (InR IntKind.i64 (a_1 + (1 : Int))) ∧ ∃ (a' : Int), Ob ((cell rows a ((0 : Nat)) ≤ a' ∧ a' ≤ cell rows a ((1 : Nat)) + (1 : Int)) ∧ (cell rows a ((1 : Nat)) + (1 : Int) - a').toNat < (cell rows a ((1 : Nat)) + (1 :
  Int) - a_1).toNat) ∧ Ob (SV.lst x rows.length ((6 : Nat)) (Rv.elemOf [IntKind.i64, IntKind.i64, IntKind.i64, IntKind.i64, IntKind.i64, IntKind.i64] rows) = SV.lst x rows.length ((6 : Nat)) (Rv.elemOf [IntKind.i64,
  IntKind.i64, IntKind.i64, IntKind.i64, IntKind.i64, IntKind.i64] rows)) ∧ Ob (n = n) ∧ Ob (n_1 = n_1) ∧ Ob (c ↔ c) ∧ Ob (Value.int IntKind.i64 (0 : Int) = Value.int IntKind.i64 (0 : Int)) ∧ Ob (endN rows n n_1 c a = endN
  rows n n_1 c a) ∧ Ob ((↑a : Int) = (↑a : Int)) ∧ Ob (true = true ↔ epIn (cell rows a ((0 : Nat))) n n_1 a') ∧ Ob (¬a_1 ≤ n_1 ↔ epOut (cell rows a ((0 : Nat))) n n_1 a') ∧ Ob (a_1 + (1 : Int) = a') ∧ Ob (IsLst B x
  rows.length ((6 : Nat)) (Rv.elemOf [IntKind.i64, IntKind.i64, IntKind.i64, IntKind.i64, IntKind.i64, IntKind.i64] rows)) ∧ True) ∧ (epOut (cell rows a ((0 : Nat))) n n_1 a_1 → Ob (InR IntKind.i64 (a_1 + (1 : Int))) ∧ ∃
  (a' : Int), Ob ((cell rows a ((0 : Nat)) ≤ a' ∧ a' ≤ cell rows a ((1 : Nat)) + (1 : Int)) ∧ (cell rows a ((1 : Nat)) + (1 : Int) - a').toNat < (cell rows a ((1 : Nat)) + (1 : Int) - a_1).toNat) ∧ Ob (SV.lst x rows.length
  ((6 : Nat)) (Rv.elemOf [IntKind.i64, IntKind.i64, IntKind.i64, IntKind.i64, IntKind.i64, IntKind.i64] rows) = SV.lst x rows.length ((6 : Nat)) (Rv.elemOf [IntKind.i64, IntKind.i64, IntKind.i64, IntKind.i64, IntKind.i64,
  IntKind.i64] rows)) ∧ Ob (n = n) ∧ Ob (n_1 = n_1) ∧ Ob (c ↔ c) ∧ Ob (Value.int IntKind.i64 (0 : Int) = Value.int IntKind.i64 (0 : Int)) ∧ Ob (endN rows n n_1 c a = endN rows n n_1 c a) ∧ Ob ((↑a : Int) = (↑a : Int)) ∧ Ob
  (true = true ↔ epIn (cell rows a ((0 : Nat))) n n_1 a') ∧ Ob (true = true ↔ epOut (cell rows a ((0 : Nat))) n n_1 a') ∧ Ob (a_1 + (1 : Int) = a') ∧ Ob (IsLst B x rows.length ((6 : Nat)) (Rv.elemOf [IntKind.i64,
  IntKind.i64, IntKind.i64, IntKind.i64, IntKind.i64, IntKind.i64] rows)) ∧ True))) ∧ (¬n ≤ a_1 → (¬epIn (cell rows a ((0 : Nat))) n n_1 a_1 → (¬epOut (cell rows a ((0 : Nat))) n n_1 a_1 → Ob (InR IntKind.i64 (a_1 + (1 :
  Int))) ∧ ∃ (a' : Int), Ob ((cell rows a ((0 : Nat)) ≤ a' ∧ a' ≤ cell rows a ((1 : Nat)) + (1 : Int)) ∧ (cell rows a ((1 : Nat)) + (1 : Int) - a').toNat < (cell rows a ((1 : Nat)) + (1 : Int) - a_1).toNat) ∧ Ob (SV.lst x
  rows.length ((6 : Nat)) (Rv.elemOf [IntKind.i64, IntKind.i64, IntKind.i64, IntKind.i64, IntKind.i64, IntKind.i64] rows) = SV.lst x rows.length ((6 : Nat)) (Rv.elemOf [IntKind.i64, IntKind.i64, IntKind.i64, IntKind.i64,
  IntKind.i64, IntKind.i64] rows)) ∧ Ob (n = n) ∧ Ob (n_1 = n_1) ∧ Ob (c ↔ c) ∧ Ob (Value.int IntKind.i64 (0 : Int) = Value.int IntKind.i64 (0 : Int)) ∧ Ob (endN rows n n_1 c a = endN rows n n_1 c a) ∧ Ob ((↑a : Int) = (↑a
  : Int)) ∧ Ob (false = true ↔ epIn (cell rows a ((0 : Nat))) n n_1 a') ∧ Ob (true = true ↔ epOut (cell rows a ((0 : Nat))) n n_1 a') ∧ Ob (a_1 + (1 : Int) = a') ∧ Ob (IsLst B x rows.length ((6 : Nat)) (Rv.elemOf
  [IntKind.i64, IntKind.i64, IntKind.i64, IntKind.i64, IntKind.i64, IntKind.i64] rows)) ∧ True) ∧ (epOut (cell rows a ((0 : Nat))) n n_1 a_1 → Ob (InR IntKind.i64 (a_1 + (1 : Int))) ∧ ∃ (a' : Int), Ob ((cell rows a ((0 :
  Nat)) ≤ a' ∧ a' ≤ cell rows a ((1 : Nat)) + (1 : Int)) ∧ (cell rows a ((1 : Nat)) + (1 : Int) - a').toNat < (cell rows a ((1 : Nat)) + (1 : Int) - a_1).toNat) ∧ Ob (SV.lst x rows.length ((6 : Nat)) (Rv.elemOf
  [IntKind.i64, IntKind.i64, IntKind.i64, IntKind.i64, IntKind.i64, IntKind.i64] rows) = SV.lst x rows.length ((6 : Nat)) (Rv.elemOf [IntKind.i64, IntKind.i64, IntKind.i64, IntKind.i64, IntKind.i64, IntKind.i64] rows)) ∧
  Ob (n = n) ∧ Ob (n_1 = n_1) ∧ Ob (c ↔ c) ∧ Ob (Value.int IntKind.i64 (0 : Int) = Value.int IntKind.i64 (0 : Int)) ∧ Ob (endN rows n n_1 c a = endN rows n n_1 c a) ∧ Ob ((↑a : Int) = (↑a : Int)) ∧ Ob (false = true ↔ epIn
  (cell rows a ((0 : Nat))) n n_1 a') ∧ Ob (true = true ↔ epOut (cell rows a ((0 : Nat))) n n_1 a') ∧ Ob (a_1 + (1 : Int) = a') ∧ Ob (IsLst B x rows.length ((6 : Nat)) (Rv.elemOf [IntKind.i64, IntKind.i64, IntKind.i64,
  IntKind.i64, IntKind.i64, IntKind.i64] rows)) ∧ True)) ∧ (epIn (cell rows a ((0 : Nat))) n n_1 a_1 → (¬epOut (cell rows a ((0 : Nat))) n n_1 a_1 → Ob (InR IntKind.i64 (a_1 + (1 : Int))) ∧ ∃ (a' : Int), Ob ((cell rows a
  ((0 : Nat)) ≤ a' ∧ a' ≤ cell rows a ((1 : Nat)) + (1 : Int)) ∧ (cell rows a ((1 : Nat)) + (1 : Int) - a').toNat < (cell rows a ((1 : Nat)) + (1 : Int) - a_1).toNat) ∧ Ob (SV.lst x rows.length ((6 : Nat)) (Rv.elemOf
  [IntKind.i64, IntKind.i64, IntKind.i64, IntKind.i64, IntKind.i64, IntKind.i64] rows) = SV.lst x rows.length ((6 : Nat)) (Rv.elemOf [IntKind.i64, IntKind.i64, IntKind.i64, IntKind.i64, IntKind.i64, IntKind.i64] rows)) ∧
  Ob (n = n) ∧ Ob (n_1 = n_1) ∧ Ob (c ↔ c) ∧ Ob (Value.int IntKind.i64 (0 : Int) = Value.int IntKind.i64 (0 : Int)) ∧ Ob (endN rows n n_1 c a = endN rows n n_1 c a) ∧ Ob ((↑a : Int) = (↑a : Int)) ∧ Ob (true = true ↔ epIn
  (cell rows a ((0 : Nat))) n n_1 a') ∧ Ob (true = true ↔ epOut (cell rows a ((0 : Nat))) n n_1 a') ∧ Ob (a_1 + (1 : Int) = a') ∧ Ob (IsLst B x rows.length ((6 : Nat)) (Rv.elemOf [IntKind.i64, IntKind.i64, IntKind.i64,
  IntKind.i64, IntKind.i64, IntKind.i64] rows)) ∧ True) ∧ (epOut (cell rows a ((0 : Nat))) n n_1 a_1 → Ob (InR IntKind.i64 (a_1 + (1 : Int))) ∧ ∃ (a' : Int), Ob ((cell rows a ((0 : Nat)) ≤ a' ∧ a' ≤ cell rows a ((1 : Nat))
  + (1 : Int)) ∧ (cell rows a ((1 : Nat)) + (1 : Int) - a').toNat < (cell rows a ((1 : Nat)) + (1 : Int) - a_1).toNat) ∧ Ob (SV.lst x rows.length ((6 : Nat)) (Rv.elemOf [IntKind.i64, IntKind.i64, IntKind.i64, IntKind.i64,
  IntKind.i64, IntKind.i64] rows) = SV.lst x rows.length ((6 : Nat)) (Rv.elemOf [IntKind.i64, IntKind.i64, IntKind.i64, IntKind.i64, IntKind.i64, IntKind.i64] rows)) ∧ Ob (n = n) ∧ Ob (n_1 = n_1) ∧ Ob (c ↔ c) ∧ Ob
  (Value.int IntKind.i64 (0 : Int) = Value.int IntKind.i64 (0 : Int)) ∧ Ob (endN rows n n_1 c a = endN rows n n_1 c a) ∧ Ob ((↑a : Int) = (↑a : Int)) ∧ Ob (true = true ↔ epIn (cell rows a ((0 : Nat))) n n_1 a') ∧ Ob (true
  = true ↔ epOut (cell rows a ((0 : Nat))) n n_1 a') ∧ Ob (a_1 + (1 : Int) = a') ∧ Ob (IsLst B x rows.length ((6 : Nat)) (Rv.elemOf [IntKind.i64, IntKind.i64, IntKind.i64, IntKind.i64, IntKind.i64, IntKind.i64] rows)) ∧
  True)))) ∧ (¬a_1 ≤ cell rows a ((1 : Nat)) → (c → (¬epIn (cell rows a ((0 : Nat))) n n_1 a_1 → (¬c → (¬epOut (cell rows a ((0 : Nat))) n n_1 a_1 → Ob (InR IntKind.i64 (endN rows n n_1 c a + (1 : Int))) ∧ Ob (InR
  IntKind.i64 ((↑a : Int) + (1 : Int))) ∧ ∃ (a' : Nat), Ob (a' ≤ rows.length ∧ rows.length - a' < rows.length - a) ∧ Ob (SV.lst x rows.length ((6 : Nat)) (Rv.elemOf [IntKind.i64, IntKind.i64, IntKind.i64, IntKind.i64,
  IntKind.i64, IntKind.i64] rows) = SV.lst x rows.length ((6 : Nat)) (Rv.elemOf [IntKind.i64, IntKind.i64, IntKind.i64, IntKind.i64, IntKind.i64, IntKind.i64] rows)) ∧ Ob (n = n) ∧ Ob (n_1 = n_1) ∧ Ob (c ↔ c) ∧ Ob
  (Value.int IntKind.i64 (0 : Int) = Value.int IntKind.i64 (0 : Int)) ∧ Ob (endN rows n n_1 c a + (1 : Int) = endN rows n n_1 c a') ∧ Ob ((↑a : Int) + (1 : Int) = (↑a' : Int)) ∧ Ob (IsLst B x rows.length ((6 : Nat))
  (Rv.elemOf [IntKind.i64, IntKind.i64, IntKind.i64, IntKind.i64, IntKind.i64, IntKind.i64] rows)) ∧ True) ∧ (¬¬epOut (cell rows a ((0 : Nat))) n n_1 a_1 → Ob (InR IntKind.i64 ((↑a : Int) + (1 : Int))) ∧ ∃ (a' : Nat), Ob
  (a' ≤ rows.length ∧ rows.length - a' < rows.length - a) ∧ Ob (SV.lst x rows.length ((6 : Nat)) (Rv.elemOf [IntKind.i64, IntKind.i64, IntKind.i64, IntKind.i64, IntKind.i64, IntKind.i64] rows) = SV.lst x rows.length ((6 :
  Nat)) (Rv.elemOf [IntKind.i64, IntKind.i64, IntKind.i64, IntKind.i64, IntKind.i64, IntKind.i64] rows)) ∧ Ob (n = n) ∧ Ob (n_1 = n_1) ∧ Ob (c ↔ c) ∧ Ob (Value.int IntKind.i64 (0 : Int) = Value.int IntKind.i64 (0 : Int)) ∧
  Ob (endN rows n n_1 c a = endN rows n n_1 c a') ∧ Ob ((↑a : Int) + (1 : Int) = (↑a' : Int)) ∧ Ob (IsLst B x rows.length ((6 : Nat)) (Rv.elemOf [IntKind.i64, IntKind.i64, IntKind.i64, IntKind.i64, IntKind.i64,
  IntKind.i64] rows)) ∧ True)) ∧ (¬¬c → Ob (InR IntKind.i64 ((↑a : Int) + (1 : Int))) ∧ ∃ (a' : Nat), Ob (a' ≤ rows.length ∧ rows.length - a' < rows.length - a) ∧ Ob (SV.lst x rows.length ((6 : Nat)) (Rv.elemOf
  [IntKind.i64, IntKind.i64, IntKind.i64, IntKind.i64, IntKind.i64, IntKind.i64] rows) = SV.lst x rows.length ((6 : Nat)) (Rv.elemOf [IntKind.i64, IntKind.i64, IntKind.i64, IntKind.i64, IntKind.i64, IntKind.i64] rows)) ∧
  Ob (n = n) ∧ Ob (n_1 = n_1) ∧ Ob (c ↔ c) ∧ Ob (Value.int IntKind.i64 (0 : Int) = Value.int IntKind.i64 (0 : Int)) ∧ Ob (endN rows n n_1 c a = endN rows n n_1 c a') ∧ Ob ((↑a : Int) + (1 : Int) = (↑a' : Int)) ∧ Ob (IsLst
  B x rows.length ((6 : Nat)) (Rv.elemOf [IntKind.i64, IntKind.i64, IntKind.i64, IntKind.i64, IntKind.i64, IntKind.i64] rows)) ∧ True)) ∧ (epIn (cell rows a ((0 : Nat))) n n_1 a_1 → Ob (InR IntKind.i64 (endN rows n n_1 c a
  + (1 : Int))) ∧ Ob (InR IntKind.i64 ((↑a : Int) + (1 : Int))) ∧ ∃ (a' : Nat), Ob (a' ≤ rows.length ∧ rows.length - a' < rows.length - a) ∧ Ob (SV.lst x rows.length ((6 : Nat)) (Rv.elemOf [IntKind.i64, IntKind.i64,
  IntKind.i64, IntKind.i64, IntKind.i64, IntKind.i64] rows) = SV.lst x rows.length ((6 : Nat)) (Rv.elemOf [IntKind.i64, IntKind.i64, IntKind.i64, IntKind.i64, IntKind.i64, IntKind.i64] rows)) ∧ Ob (n = n) ∧ Ob (n_1 = n_1)
  ∧ Ob (c ↔ c) ∧ Ob (Value.int IntKind.i64 (0 : Int) = Value.int IntKind.i64 (0 : Int)) ∧ Ob (endN rows n n_1 c a + (1 : Int) = endN rows n n_1 c a') ∧ Ob ((↑a : Int) + (1 : Int) = (↑a' : Int)) ∧ Ob (IsLst B x rows.length
  ((6 : Nat)) (Rv.elemOf [IntKind.i64, IntKind.i64, IntKind.i64, IntKind.i64, IntKind.i64, IntKind.i64] rows)) ∧ True)) ∧ (¬c → (¬c → (¬epOut (cell rows a ((0 : Nat))) n n_1 a_1 → Ob (InR IntKind.i64 (endN rows n n_1 c a +
  (1 : Int))) ∧ Ob (InR IntKind.i64 ((↑a : Int) + (1 : Int))) ∧ ∃ (a' : Nat), Ob (a' ≤ rows.length ∧ rows.length - a' < rows.length - a) ∧ Ob (SV.lst x rows.length ((6 : Nat)) (Rv.elemOf [IntKind.i64, IntKind.i64,
  IntKind.i64, IntKind.i64, IntKind.i64, IntKind.i64] rows) = SV.lst x rows.length ((6 : Nat)) (Rv.elemOf [IntKind.i64, IntKind.i64, IntKind.i64, IntKind.i64, IntKind.i64, IntKind.i64] rows)) ∧ Ob (n = n) ∧ Ob (n_1 = n_1)
  ∧ Ob (c ↔ c) ∧ Ob (Value.int IntKind.i64 (0 : Int) = Value.int IntKind.i64 (0 : Int)) ∧ Ob (endN rows n n_1 c a + (1 : Int) = endN rows n n_1 c a') ∧ Ob ((↑a : Int) + (1 : Int) = (↑a' : Int)) ∧ Ob (IsLst B x rows.length
  ((6 : Nat)) (Rv.elemOf [IntKind.i64, IntKind.i64, IntKind.i64, IntKind.i64, IntKind.i64, IntKind.i64] rows)) ∧ True) ∧ (¬¬epOut (cell rows a ((0 : Nat))) n n_1 a_1 → Ob (InR IntKind.i64 ((↑a : Int) + (1 : Int))) ∧ ∃ (a'
  : Nat), Ob (a' ≤ rows.length ∧ rows.length - a' < rows.length - a) ∧ Ob (SV.lst x rows.length ((6 : Nat)) (Rv.elemOf [IntKind.i64, IntKind.i64, IntKind.i64, IntKind.i64, IntKind.i64, IntKind.i64] rows) = SV.lst x
  rows.length ((6 : Nat)) (Rv.elemOf [IntKind.i64, IntKind.i64, IntKind.i64, IntKind.i64, IntKind.i64, IntKind.i64] rows)) ∧ Ob (n = n) ∧ Ob (n_1 = n_1) ∧ Ob (c ↔ c) ∧ Ob (Value.int IntKind.i64 (0 : Int) = Value.int
  IntKind.i64 (0 : Int)) ∧ Ob (endN rows n n_1 c a = endN rows n n_1 c a') ∧ Ob ((↑a : Int) + (1 : Int) = (↑a' : Int)) ∧ Ob (IsLst B x rows.length ((6 : Nat)) (Rv.elemOf [IntKind.i64, IntKind.i64, IntKind.i64, IntKind.i64,
  IntKind.i64, IntKind.i64] rows)) ∧ True)) ∧ (¬¬c → Ob (InR IntKind.i64 ((↑a : Int) + (1 : Int))) ∧ ∃ (a' : Nat), Ob (a' ≤ rows.length ∧ rows.length - a' < rows.length - a) ∧ Ob (SV.lst x rows.length ((6 : Nat))
  (Rv.elemOf [IntKind.i64, IntKind.i64, IntKind.i64, IntKind.i64, IntKind.i64, IntKind.i64] rows) = SV.lst x rows.length ((6 : Nat)) (Rv.elemOf [IntKind.i64, IntKind.i64, IntKind.i64, IntKind.i64, IntKind.i64, IntKind.i64]
  rows)) ∧ Ob (n = n) ∧ Ob (n_1 = n_1) ∧ Ob (c ↔ c) ∧ Ob (Value.int IntKind.i64 (0 : Int) = Value.int IntKind.i64 (0 : Int)) ∧ Ob (endN rows n n_1 c a = endN rows n n_1 c a') ∧ Ob ((↑a : Int) + (1 : Int) = (↑a' : Int)) ∧
  Ob (IsLst B x rows.length ((6 : Nat)) (Rv.elemOf [IntKind.i64, IntKind.i64, IntKind.i64, IntKind.i64, IntKind.i64, IntKind.i64] rows)) ∧ True)))) ∧ (¬(↑a : Int) < (↑rows.length : Int) → Ob (endN rows n n_1 c a = endN
  rows n n_1 c rows.length) ∧ True)

set_option linter.unusedSimpArgs false in
set_option maxRecDepth 4000 in
set_option maxHeartbeats 400000 in
theorem v_ending : V_ending := by
  unfold V_ending
  intro B x L hx hox hrx low high most hM
  have hM0 : manyErr L = 0 := hM
  have hm := many_ok hM0
  simp only [Ob_iff]
  refine ⟨⟨0, ?_⟩, ?_⟩
  · repeat' (with_reducible apply And.intro)
    all_goals first | exact hx | exact trivial | exact Iff.rfl | rfl | omega
  intro k hk
  intros
  classical
  have eN : endN L low high most (k + 1) = endN L low high most k + (if (most ∧ epIn (cell L k 0) low high (cell L k 1 + 1)) ∨ (¬ most ∧ ¬ epOut (cell L k 0) low high (cell L k 1 + 1)) then 1 else 0) := rfl
  have bN := endN_bd L low high most k
  have hl := hm.1
  refine ⟨hx, fun h1 => ?_, fun h1 => ?_⟩
  · have hkL : k < L.length := by omega
    have hs := cap_size (cap_all hm.2 k hkL)
    have n0 := epIn_none (cell L k 0) low high
    have m0 := epOut_none (cell L k 0) low high
    refine ⟨⟨by omega, hkL, hx⟩, ⟨hx, hkL⟩, ⟨cell L k 0, ?_⟩, ?_⟩
    · repeat' (with_reducible apply And.intro)
      all_goals first | exact hx | exact trivial | exact Iff.rfl | rfl | omega | exact ⟨fun h => by simp at h, fun h => absurd h n0⟩ | exact ⟨fun h => by simp at h, fun h => absurd h m0⟩
    intro s hsr
    intros
    refine ⟨⟨by omega, hkL, hx⟩, ⟨hx, hkL⟩, fun h2 => ?_, fun h2 => ?_⟩
    · have nI := epIn_next (low := low) (high := high) hsr.1
      have nO := epOut_next (low := low) (high := high) hsr.1
      generalize epIn (cell L k 0) low high s = pI at *
      generalize epOut (cell L k 0) low high s = pO at *
      have fin : ∀ P Q : Prop, (P ↔ epIn (cell L k 0) low high (s + 1)) → (Q ↔ epOut (cell L k 0) low high (s + 1)) → True := fun _ _ _ _ => trivial
      repeat' (first | with_reducible apply And.intro | intro _)
      all_goals first | exact trivial | (simp only [InR]; omega) | skip
      all_goals
        refine ⟨s + 1, ?_⟩
        repeat' (with_reducible apply And.intro)
        all_goals first | exact hx | exact trivial | exact Iff.rfl | rfl | omega | (rw [nI]; simp_all; try omega) | (rw [nO]; simp_all; try omega)
    · have e : s = cell L k 1 + 1 := by omega
      subst e
      generalize epIn (cell L k 0) low high (cell L k 1 + 1) = pI at *
      generalize epOut (cell L k 0) low high (cell L k 1 + 1) = pO at *
      repeat' (first | with_reducible apply And.intro | intro _)
      all_goals first | exact trivial | (simp only [InR]; omega) | skip
      all_goals
        refine ⟨k + 1, ?_⟩
        repeat' (with_reducible apply And.intro)
        all_goals first | exact hx | exact trivial | exact Iff.rfl | rfl | omega | (rw [eN]; simp_all) | skip
  · have e : k = L.length := by omega
    subst e
    exact ⟨rfl, trivial⟩

theorem e_ending : V_ending = needF P [] A_ending F_ending := by kernel_rfl

theorem n_ending : Ob (needF P [] A_ending F_ending) := by
  rw [← e_ending]
  exact ⟨v_ending⟩

theorem b_ending : ((P.funcs[43]?).any fun fn => fn.body.isSome) = true := by kernel_rfl

theorem ending_ok : Fn0.Ok P F_ending := Fn0.ok named (l := []) (A := A_ending) (by rfl) (by
  intro F h; simp at h) b_ending (by
  intro ds N
  simp only [F_ending]
  split <;> rfl) n_ending

end Go.Proofs.YthlodlileecmdaaDoor.Sy
