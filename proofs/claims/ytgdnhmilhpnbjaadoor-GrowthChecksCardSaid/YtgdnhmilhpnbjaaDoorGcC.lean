/- Growths of a tide. -/
import Derived.Test.YtgdnhmilhpnbjaaDoorSyP2
import Derived.Test.YtgdnhmilhpnbjaaDoorGrM
import Derived.Test.YtgdnhmilhpnbjaaDoorGrA
import Derived.Test.YtgdnhmilhpnbjaaDoorGrT
import Derived.Test.YtgdnhmilhpnbjaaDoorGcA
import Derived.Test.YtgdnhmilhpnbjaaDoorSyP2
import Derived.KernelRfl
import Derived.Test.YtgdnhmilhpnbjaaDoorProg
namespace Go.Proofs.YtgdnhmilhpnbjaaDoor.Sy
open Go Go.Rv
set_option linter.unusedVariables false

def grB1 (a : Int) : Int := -20 + belowV a 141
def grA1 (a : Int) : Int := belowA a 141
def grBase (a : Int) : Int := ofV (grA1 a) [[50], [grB1 a]]
def grA2 (a : Int) : Int := ofA (grA1 a) [[50], [grB1 a]]
def grM1 (a : Int) : Int := 0 + belowV (grA2 a) 2501
def grA3 (a : Int) : Int := belowA (grA2 a) 2501
def grMost (a : Int) : Int := ofV (grA3 a) [[900], [1500], [grM1 a]]
def grA4 (a : Int) : Int := ofA (grA3 a) [[900], [1500], [grM1 a]]
def grN (a : Int) : Int := 1 + belowV (grA4 a) 3
def grQ0 (a : Int) : Int := belowA (grA4 a) 3
/-- a stage: what numbers follow from, behind a number -/
def sgNeed (q : Int) : Int := 40 + belowV q 361
def sgA1 (q : Int) : Int := belowA q 361
def sgStep (q : Int) : Int := 0 + belowV (sgA1 q) 81
def sgA2 (q : Int) : Int := belowA (sgA1 q) 81
def sgN1 (q : Int) : Int := belowV (sgA2 q) 60
def sgA3 (q : Int) : Int := belowA (sgA2 q) 60
def sgS1 (q : Int) : Int := belowV (sgA3 q) 30
def sgA4 (q : Int) : Int := belowA (sgA3 q) 30
def sgC (q : Int) : Int := ofV (sgA4 q) [[60], [900]]
def sgA5 (q : Int) : Int := ofA (sgA4 q) [[60], [900]]
def sgF (q fr : Int) : Int := fr + (1 + belowV (sgA5 q) (sgC q - 1 + 1))
def sgQ (q : Int) : Int := belowA (sgA5 q) (sgC q - 1 + 1)
def sgRow (q fr : Int) : List Int := [fr, sgNeed q, sgNeed q + sgN1 q, sgStep q, sgStep q + sgS1 q]
def groR : Nat → Int → Int → Rows → Rows
  | 0, _, _, R => R
  | i + 1, q, fr, R => if fr ≤ 2500 then groR i (sgQ q) (sgF q fr) (R ++ [sgRow q fr]) else R
def groQ : Nat → Int → Int → Int
  | 0, q, _ => q
  | i + 1, q, fr => if fr ≤ 2500 then groQ i (sgQ q) (sgF q fr) else q
def grR (a : Int) : Rows := groR (grN a).toNat (grQ0 a) 0 []
def grQ (a : Int) : Int := groQ (grN a).toNat (grQ0 a) 0
theorem gro_len : ∀ (i : Nat) (q fr : Int) (R : Rows), R.length ≤ (groR i q fr R).length ∧ (groR i q fr R).length ≤ R.length + i
  | 0, q, fr, R => ⟨Nat.le_refl _, Nat.le_refl _⟩
  | i + 1, q, fr, R => by
    simp only [groR]
    split
    · have := gro_len i (sgQ q) (sgF q fr) (R ++ [sgRow q fr])
      simp only [List.length_append, List.length_singleton] at this
      omega
    · omega
theorem gro_row : ∀ (i : Nat) (q fr : Int) (R : Rows), (∀ r ∈ R, r.length = 5) → ∀ r ∈ groR i q fr R, r.length = 5
  | 0, q, fr, R, h => h
  | i + 1, q, fr, R, h => by
    simp only [groR]
    split
    · refine gro_row i _ _ _ fun r hr => ?_
      rcases List.mem_append.1 hr with hr | hr
      · exact h r hr
      · rw [List.mem_singleton.1 hr]; rfl
    · exact h
theorem gro_one (n : Nat) (q : Int) : 1 ≤ (groR (n + 1) q 0 []).length := by
  simp only [groR]
  rw [if_pos (by omega)]
  have := gro_len n (sgQ q) (sgF q 0) ([] ++ [sgRow q 0])
  simp only [List.length_append, List.length_singleton, List.length_nil] at this
  omega
theorem grN_in (a : Int) : 1 ≤ grN a ∧ grN a ≤ 3 := by
  have h := belowV_in (grA4 a) 3
  unfold grN
  generalize belowV (grA4 a) 3 = x at *
  omega
theorem grR_len (a : Int) : 1 ≤ (grR a).length ∧ (grR a).length ≤ 3 := by
  have h := grN_in a
  obtain ⟨n, hn⟩ : ∃ n, (grN a).toNat = n + 1 := ⟨(grN a).toNat - 1, by omega⟩
  have h2 := gro_len (n + 1) (grQ0 a) 0 []
  have h3 := gro_one n (grQ0 a)
  rw [← hn] at h2 h3
  have e : grR a = groR (grN a).toNat (grQ0 a) 0 [] := rfl
  rw [e]
  exact ⟨h3, by simp only [List.length_nil] at h2; omega⟩
theorem grR_row (a : Int) : ∀ r ∈ grR a, r.length = 5 := gro_row _ _ _ _ (by simp)
theorem belowV_le (a : Int) {n : Int} (h : 0 < n) : 0 ≤ belowV a n ∧ belowV a n ≤ n - 1 := by
  have := belowV_in a n
  generalize belowV a n = x at *
  omega
theorem sgC_is (q : Int) : sgC q = 60 ∨ sgC q = 900 := ofV_two _ _ _
theorem sg_bd (q : Int) : 40 ≤ sgNeed q ∧ sgNeed q ≤ 400 ∧ 0 ≤ sgN1 q ∧ sgN1 q ≤ 59 ∧ 0 ≤ sgStep q ∧ sgStep q ≤ 80 ∧ 0 ≤ sgS1 q ∧ sgS1 q ≤ 29 ∧ (sgC q = 60 ∨ sgC q = 900) ∧ 0 ≤ belowV (sgA5 q) (sgC q - 1 + 1) ∧ belowV (sgA5 q) (sgC q - 1 + 1) ≤ 899 := by
  have h1 := belowV_le q (n := 361) (by decide)
  have h2 := belowV_le (sgA1 q) (n := 81) (by decide)
  have h3 := belowV_le (sgA2 q) (n := 60) (by decide)
  have h4 := belowV_le (sgA3 q) (n := 30) (by decide)
  have h5 := sgC_is q
  have h6 : 0 ≤ belowV (sgA5 q) (sgC q - 1 + 1) ∧ belowV (sgA5 q) (sgC q - 1 + 1) ≤ sgC q - 1 + 1 - 1 := belowV_le (sgA5 q) (by rcases h5 with h | h <;> rw [h] <;> decide)
  unfold sgNeed sgN1 sgStep sgS1
  generalize belowV (sgA5 q) (sgC q - 1 + 1) = x6 at *
  generalize sgC q = c at *
  generalize belowV q 361 = x1 at *
  generalize belowV (sgA1 q) 81 = x2 at *
  generalize belowV (sgA2 q) 60 = x3 at *
  generalize belowV (sgA3 q) 30 = x4 at *
  omega
/-- what is left to be gone through ends as all of it does -/
structure GroOk (a : Int) (i : Nat) (q fr : Int) (R : Rows) : Prop where
  r : groR i q fr R = grR a
  q : groQ i q fr = grQ a
theorem GroOk.start (a : Int) : GroOk a (grN a).toNat (grQ0 a) 0 [] := ⟨rfl, rfl⟩
theorem GroOk.next {a : Int} {i : Nat} {q fr : Int} {R : Rows} (h : GroOk a (i + 1) q fr R) (hf : fr ≤ 2500) : GroOk a i (sgQ q) (sgF q fr) (R ++ [sgRow q fr]) := by
  have h1 := h.r
  have h2 := h.q
  simp only [groR, groQ] at h1 h2
  rw [if_pos hf] at h1 h2
  exact ⟨h1, h2⟩
theorem GroOk.stop {a : Int} {i : Nat} {q fr : Int} {R : Rows} (h : GroOk a i q fr R) (hf : ¬ fr ≤ 2500 ∨ i = 0) : R = grR a ∧ q = grQ a := by
  cases i with
  | zero => exact ⟨h.r, h.q⟩
  | succ j =>
    have h1 := h.r
    have h2 := h.q
    have hf' : ¬ fr ≤ 2500 := by omega
    simp only [groR, groQ] at h1 h2
    rw [if_neg hf'] at h1 h2
    exact ⟨h1, h2⟩
structure Eqv (x y : Int) : Prop where
  h : x = y
structure GroS where
  i : Nat
  q : Int
  fr : Int
  R : Rows

noncomputable def F_GrowthOf : FnE := ⟨8, (some [.i .u64]), [.one .b], fun l => match l with | [.z a, .p sm] => ¬ sm | _ => False, fun l => match l with | [.z a, .p sm] => [.agg [.i .i64 (grBase a), .i .i64 (grMost a), .gsl 0 (grR a).length 5 true]] | _ => [], fun l => match l with | [.z a, .p sm] => [.gr (grR a).length 5 (.fn (Rv.elemOf [.i64, .i64, .i64, .i64, .i64] (grR a))) .gr true] | _ => [], fun l => match l with | [.z a, .p sm] => [.i .u64 (grQ a)] | _ => [], false⟩
noncomputable def A_GrowthOf : List SV → List Dat → Nat → List SV → Ann := fun xs ds n ts => match xs with
  | [.agg _, .p _] => match ds with
    | [.z a, .p sm] => match n with
      | 6 => ⟨GroS, fun v => [some (SV.ptr ((0 : Nat)) ((0 : Nat))), some (SV.p sm), none, none, some (SV.ptr ((1 : Nat)) ((0 : Nat))), some (SV.ptr ((4 : Nat)) ((0 : Nat))), some (.i .i64 v.fr), some (.v (.int .i64 30)), some (.i .i64 v.i), none, none, none, none, none, none, none, none, none, none, none, none, none, none, none, none, none, none, none, none, none, none, none, none, none, none, none, none, none, none, none, none, none, none, none, none, none, none, none, none, none, none, none, none, none, none, none, none, none, none, none, none, none, none, none, none, none, none, none, none, none], fun v => [.gr v.R.length 5 (.fn (Rv.elemOf [.i64, .i64, .i64, .i64, .i64] v.R)) .gr true, .cells [.i .i64 (grBase a), .i .i64 (grMost a), .gsl 5 v.R.length 5 true] .ex, .dead, .dead, SObj.cells [SV.v (Value.int IntKind.i64 (0 : Int)), SV.v (Value.int IntKind.i64 (0 : Int)), SV.v (Value.slice none ((0 : Nat)) ((0 : Nat)))] Kd.ex, .cells [.i .u64 v.q] .ex], fun v => v.R.length + v.i ≤ 3 ∧ GroOk a v.i v.q v.fr v.R ∧ 0 ≤ v.fr ∧ v.fr ≤ 3500, fun v => v.i, 0⟩
      | _ => noAnn
    | _ => noAnn
  | _ => noAnn

def V_GrowthOf : Prop :=
  ∀ (B : RW) (n : Int) (c : Prop), F_GrowthOf.pre ([Dat.z n] ++ ([Dat.p c] ++ [])) → Ob (F_From.named.pre ([Dat.z n] ++ [Dat.z (-20 : Int), Dat.z (120 : Int)])) ∧ ∀ (v : Int), v = belowA n ((120 : Int) - (-20 : Int) + (1 :
  Int)) → ∀ (v_1 : Int), v_1 = (-20 : Int) + belowV n ((120 : Int) - (-20 : Int) + (1 : Int)) → Ob (F_Of.named.pre ([Dat.z v] ++ [Dat.l [[(50 : Int)], [v_1]]])) ∧ ∀ (v_2 : Int), v_2 = ofA v [[(50 : Int)], [v_1]] → ∀ (v_3 :
  Int), v_3 = ofV v [[(50 : Int)], [v_1]] → Ob (F_From.named.pre ([Dat.z v_2] ++ [Dat.z (0 : Int), Dat.z (2500 : Int)])) ∧ ∀ (v_4 : Int), v_4 = belowA v_2 ((2500 : Int) - (0 : Int) + (1 : Int)) → ∀ (v_5 : Int), v_5 = (0 :
  Int) + belowV v_2 ((2500 : Int) - (0 : Int) + (1 : Int)) → Ob (F_Of.named.pre ([Dat.z v_4] ++ [Dat.l [[(900 : Int)], [(1500 : Int)], [v_5]]])) ∧ ∀ (v_6 : Int), v_6 = ofA v_4 [[(900 : Int)], [(1500 : Int)], [v_5]] → ∀
  (v_7 : Int), v_7 = ofV v_4 [[(900 : Int)], [(1500 : Int)], [v_5]] → (c → Ob (F_From.named.pre ([Dat.z v_6] ++ [Dat.z (1 : Int), Dat.z (3 : Int)])) ∧ ∀ (v_8 : Int), v_8 = belowA v_6 ((3 : Int) - (1 : Int) + (1 : Int)) → ∀
  (v_9 : Int), v_9 = (1 : Int) + belowV v_6 ((3 : Int) - (1 : Int) + (1 : Int)) → (∃ (a : GroS), Ob (List.length a.R + a.i ≤ (3 : Nat) ∧ GroOk n a.i a.q a.fr a.R ∧ (0 : Int) ≤ a.fr ∧ a.fr ≤ (3500 : Int)) ∧ Ob (c ↔ c) ∧ Ob
  ((0 : Int) = a.fr) ∧ Ob (Value.int IntKind.i64 (2 : Int) = Value.int IntKind.i64 (30 : Int)) ∧ Ob (v_9 = (↑a.i : Int)) ∧ Ob (List.length a.R = (0 : Nat)) ∧ Ob (v_3 = grBase n) ∧ Ob (v_7 = grMost n) ∧ Ob (List.length a.R
  = (0 : Nat)) ∧ Ob (Value.int IntKind.i64 (0 : Int) = Value.int IntKind.i64 (0 : Int)) ∧ Ob (Value.int IntKind.i64 (0 : Int) = Value.int IntKind.i64 (0 : Int)) ∧ Ob (SV.v (Value.slice none ((0 : Nat)) ((0 : Nat))) = SV.v
  (Value.slice none ((0 : Nat)) ((0 : Nat)))) ∧ Ob (v_8 = a.q) ∧ Ob (PlainE (List.length a.R) (El.fn (Rv.elemOf [IntKind.i64, IntKind.i64, IntKind.i64, IntKind.i64, IntKind.i64] a.R))) ∧ True) ∧ ∀ (a : GroS), List.length
  a.R + a.i ≤ (3 : Nat) ∧ GroOk n a.i a.q a.fr a.R ∧ (0 : Int) ≤ a.fr ∧ a.fr ≤ (3500 : Int) → ∀ (z z_1 z_2 z_3 z_4 z_5 z_6 z_7 z_8 z_9 z_10 z_11 z_12 z_13 z_14 z_15 z_16 z_17 z_18 z_19 z_20 z_21 z_22 z_23 z_24 z_25 z_26
  z_27 z_28 z_29 z_30 z_31 z_32 z_33 z_34 z_35 z_36 z_37 z_38 z_39 z_40 z_41 z_42 z_43 z_44 z_45 z_46 z_47 z_48 z_49 z_50 z_51 z_52 z_53 z_54 z_55 z_56 z_57 z_58 z_59 z_60 z_61 z_62 : Value), ((0 : Int) < (↑a.i : Int) →
  (a.fr ≤ (2500 : Int) → Ob (F_From.named.pre ([Dat.z a.q] ++ [Dat.z (40 : Int), Dat.z (400 : Int)])) ∧ ∀ (v_10 : Int), v_10 = belowA a.q ((400 : Int) - (40 : Int) + (1 : Int)) → ∀ (v_11 : Int), v_11 = (40 : Int) + belowV
  a.q ((400 : Int) - (40 : Int) + (1 : Int)) → (c → Ob (F_From.named.pre ([Dat.z v_10] ++ [Dat.z (3 : Int), Dat.z (6 : Int)])) ∧ ∀ (v_12 : Int), v_12 = belowA v_10 ((6 : Int) - (3 : Int) + (1 : Int)) → ∀ (v_13 : Int), v_13
  = (3 : Int) + belowV v_10 ((6 : Int) - (3 : Int) + (1 : Int)) → Ob (F_From.named.pre ([Dat.z v_12] ++ [Dat.z (0 : Int), Dat.z (80 : Int)])) ∧ ∀ (v_14 : Int), v_14 = belowA v_12 ((80 : Int) - (0 : Int) + (1 : Int)) → ∀
  (v_15 : Int), v_15 = (0 : Int) + belowV v_12 ((80 : Int) - (0 : Int) + (1 : Int)) → Ob (F_Below.named.pre ([Dat.z v_14] ++ [Dat.z (Int.ofNat (nat_lit 60))])) ∧ ∀ (v_16 : Int), v_16 = belowA v_14 (Int.ofNat (nat_lit 60))
  → ∀ (v_17 : Int), v_17 = belowV v_14 (Int.ofNat (nat_lit 60)) → Ob (InR IntKind.i64 (v_13 + v_17)) ∧ Ob (F_Below.named.pre ([Dat.z v_16] ++ [Dat.z (30 : Int)])) ∧ ∀ (v_18 : Int), v_18 = belowA v_16 (30 : Int) → ∀ (v_19 :
  Int), v_19 = belowV v_16 (30 : Int) → Ob (InR IntKind.i64 (v_15 + v_19)) ∧ Ob (List.length a.R = List.length a.R ∧ ∀ (i : Nat), i < List.length a.R → ((El.fn (Rv.elemOf [IntKind.i64, IntKind.i64, IntKind.i64,
  IntKind.i64, IntKind.i64] a.R)).at i).length = nat_lit 5) ∧ Ob ((List.length a.R + nat_lit 1) * nat_lit 2 * nat_lit 41 ≤ nat_lit 1099511627776) ∧ Ob (List.length a.R = List.length a.R) ∧ Ob (F_Of.named.pre ([Dat.z v_18]
  ++ [Dat.l [[(60 : Int)], [(900 : Int)]]])) ∧ ∀ (v_20 : Int), v_20 = ofA v_18 [[(60 : Int)], [(900 : Int)]] → ∀ (v_21 : Int), v_21 = ofV v_18 [[(60 : Int)], [(900 : Int)]] → Ob (F_From.named.pre ([Dat.z v_20] ++ [Dat.z (1
  : Int), Dat.z v_21])) ∧ ∀ (v_22 : Int), v_22 = belowA v_20 (v_21 - (1 : Int) + (1 : Int)) → ∀ (v_23 : Int), v_23 = (1 : Int) + belowV v_20 (v_21 - (1 : Int) + (1 : Int)) → Ob (InR IntKind.i64 (a.fr + v_23)) ∧ Ob (InR
  IntKind.i64 ((↑a.i : Int) - (1 : Int))) ∧ ∃ (a' : GroS), Ob ((List.length a'.R + a'.i ≤ nat_lit 3 ∧ GroOk n a'.i a'.q a'.fr a'.R ∧ (0 : Int) ≤ a'.fr ∧ a'.fr ≤ (3500 : Int)) ∧ a'.i < a.i) ∧ Ob (c ↔ c) ∧ Ob (a.fr + v_23 =
  a'.fr) ∧ Ob (Value.int IntKind.i64 (30 : Int) = Value.int IntKind.i64 (30 : Int)) ∧ Ob ((↑a.i : Int) - (1 : Int) = (↑a'.i : Int)) ∧ Ob (List.length a.R + nat_lit 1 = List.length a'.R ∧ ∀ (i : Nat), i < List.length a'.R →
  (behind (List.length a.R) (El.fn (Rv.elemOf [IntKind.i64, IntKind.i64, IntKind.i64, IntKind.i64, IntKind.i64] a.R)) (nat_lit 1) (litEl [SV.i IntKind.i64 a.fr, SV.i IntKind.i64 v_13, SV.i IntKind.i64 (v_13 + v_17), SV.i
  IntKind.i64 v_15, SV.i IntKind.i64 (v_15 + v_19)] (nat_lit 5) (nat_lit 1))).at i = (El.fn (Rv.elemOf [IntKind.i64, IntKind.i64, IntKind.i64, IntKind.i64, IntKind.i64] a'.R)).at i) ∧ Ob (grBase n = grBase n) ∧ Ob (grMost
  n = grMost n) ∧ Ob (List.length a.R + nat_lit 1 = List.length a'.R) ∧ Ob (Value.int IntKind.i64 (0 : Int) = Value.int IntKind.i64 (0 : Int)) ∧ Ob (Value.int IntKind.i64 (0 : Int) = Value.int IntKind.i64 (0 : Int)) ∧ Ob
  (SV.v (Value.slice none (nat_lit 0) (nat_lit 0)) = SV.v (Value.slice none (nat_lit 0) (nat_lit 0))) ∧ Ob (v_22 = a'.q) ∧ Ob (PlainE (List.length a'.R) (El.fn (Rv.elemOf [IntKind.i64, IntKind.i64, IntKind.i64,
  IntKind.i64, IntKind.i64] a'.R))) ∧ True) ∧ (¬c → Ob (F_From.named.pre ([Dat.z v_10] ++ [Dat.z (0 : Int), Dat.z (80 : Int)])) ∧ ∀ (v_12 : Int), v_12 = belowA v_10 ((80 : Int) - (0 : Int) + (1 : Int)) → ∀ (v_13 : Int),
  v_13 = (0 : Int) + belowV v_10 ((80 : Int) - (0 : Int) + (1 : Int)) → Ob (F_Below.named.pre ([Dat.z v_12] ++ [Dat.z (Int.ofNat (nat_lit 60))])) ∧ ∀ (v_14 : Int), v_14 = belowA v_12 (Int.ofNat (nat_lit 60)) → ∀ (v_15 :
  Int), v_15 = belowV v_12 (Int.ofNat (nat_lit 60)) → Ob (InR IntKind.i64 (v_11 + v_15)) ∧ Ob (F_Below.named.pre ([Dat.z v_14] ++ [Dat.z (30 : Int)])) ∧ ∀ (v_16 : Int), v_16 = belowA v_14 (30 : Int) → ∀ (v_17 : Int), v_17
  = belowV v_14 (30 : Int) → Ob (InR IntKind.i64 (v_13 + v_17)) ∧ Ob (List.length a.R = List.length a.R ∧ ∀ (i : Nat), i < List.length a.R → ((El.fn (Rv.elemOf [IntKind.i64, IntKind.i64, IntKind.i64, IntKind.i64,
  IntKind.i64] a.R)).at i).length = nat_lit 5) ∧ Ob ((List.length a.R + nat_lit 1) * nat_lit 2 * nat_lit 41 ≤ nat_lit 1099511627776) ∧ Ob (List.length a.R = List.length a.R) ∧ Ob (F_Of.named.pre ([Dat.z v_16] ++ [Dat.l
  [[(60 : Int)], [(900 : Int)]]])) ∧ ∀ (v_18 : Int), v_18 = ofA v_16 [[(60 : Int)], [(900 : Int)]] → ∀ (v_19 : Int), v_19 = ofV v_16 [[(60 : Int)], [(900 : Int)]] → Ob (F_From.named.pre ([Dat.z v_18] ++ [Dat.z (1 : Int),
  Dat.z v_19])) ∧ ∀ (v_20 : Int), v_20 = belowA v_18 (v_19 - (1 : Int) + (1 : Int)) → ∀ (v_21 : Int), v_21 = (1 : Int) + belowV v_18 (v_19 - (1 : Int) + (1 : Int)) → Ob (InR IntKind.i64 (a.fr + v_21)) ∧ Ob (InR IntKind.i64
  ((↑a.i : Int) - (1 : Int))) ∧ ∃ (a' : GroS), Ob ((List.length a'.R + a'.i ≤ nat_lit 3 ∧ GroOk n a'.i a'.q a'.fr a'.R ∧ (0 : Int) ≤ a'.fr ∧ a'.fr ≤ (3500 : Int)) ∧ a'.i < a.i) ∧ Ob (c ↔ c) ∧ Ob (a.fr + v_21 = a'.fr) ∧ Ob
  (Value.int IntKind.i64 (30 : Int) = Value.int IntKind.i64 (30 : Int)) ∧ Ob ((↑a.i : Int) - (1 : Int) = (↑a'.i : Int)) ∧ Ob (List.length a.R + nat_lit 1 = List.length a'.R ∧ ∀ (i : Nat), i < List.length a'.R → (behind
  (List.length a.R) (El.fn (Rv.elemOf [IntKind.i64, IntKind.i64, IntKind.i64, IntKind.i64, IntKind.i64] a.R)) (nat_lit 1) (litEl [SV.i IntKind.i64 a.fr, SV.i IntKind.i64 v_11, SV.i IntKind.i64 (v_11 + v_15), SV.i
  IntKind.i64 v_13, SV.i IntKind.i64 (v_13 + v_17)] (nat_lit 5) (nat_lit 1))).at i = (El.fn (Rv.elemOf [IntKind.i64, IntKind.i64, IntKind.i64, IntKind.i64, IntKind.i64] a'.R)).at i) ∧ Ob (grBase n = grBase n) ∧ Ob (grMost
  n = grMost n) ∧ Ob (List.length a.R + nat_lit 1 = List.length a'.R) ∧ Ob (Value.int IntKind.i64 (0 : Int) = Value.int IntKind.i64 (0 : Int)) ∧ Ob (Value.int IntKind.i64 (0 : Int) = Value.int IntKind.i64 (0 : Int)) ∧ Ob
  (SV.v (Value.slice none (nat_lit 0) (nat_lit 0)) = SV.v (Value.slice none (nat_lit 0) (nat_lit 0))) ∧ Ob (v_20 = a'.q) ∧ Ob (PlainE (List.length a'.R) (El.fn (Rv.elemOf [IntKind.i64, IntKind.i64, IntKind.i64,
  IntKind.i64, IntKind.i64] a'.R))) ∧ True)) ∧ (¬a.fr ≤ (2500 : Int) → Ob (grBase n = grBase n) ∧ Ob (grMost n = grMost n) ∧ Ob (List.length a.R = List.length (grR n)) ∧ Ob (List.length a.R = List.length (grR n) ∧ ∀ (i :
  Nat), i < List.length (grR n) → (El.fn (Rv.elemOf [IntKind.i64, IntKind.i64, IntKind.i64, IntKind.i64, IntKind.i64] a.R)).at i = (El.fn (Rv.elemOf [IntKind.i64, IntKind.i64, IntKind.i64, IntKind.i64, IntKind.i64] (grR
  n))).at i) ∧ Ob (a.q = grQ n) ∧ Ob (PlainE (List.length (grR n)) (El.fn (Rv.elemOf [IntKind.i64, IntKind.i64, IntKind.i64, IntKind.i64, IntKind.i64] (grR n)))) ∧ True)) ∧ (¬(0 : Int) < (↑a.i : Int) → Ob (grBase n =
  grBase n) ∧ Ob (grMost n = grMost n) ∧ Ob (List.length a.R = List.length (grR n)) ∧ Ob (List.length a.R = List.length (grR n) ∧ ∀ (i : Nat), i < List.length (grR n) → (El.fn (Rv.elemOf [IntKind.i64, IntKind.i64,
  IntKind.i64, IntKind.i64, IntKind.i64] a.R)).at i = (El.fn (Rv.elemOf [IntKind.i64, IntKind.i64, IntKind.i64, IntKind.i64, IntKind.i64] (grR n))).at i) ∧ Ob (a.q = grQ n) ∧ Ob (PlainE (List.length (grR n)) (El.fn
  (Rv.elemOf [IntKind.i64, IntKind.i64, IntKind.i64, IntKind.i64, IntKind.i64] (grR n)))) ∧ True)) ∧ (¬c → Ob (F_From.named.pre ([Dat.z v_6] ++ [Dat.z (1 : Int), Dat.z (3 : Int)])) ∧ ∀ (v_8 : Int), v_8 = belowA v_6 ((3 :
  Int) - (1 : Int) + (1 : Int)) → ∀ (v_9 : Int), v_9 = (1 : Int) + belowV v_6 ((3 : Int) - (1 : Int) + (1 : Int)) → (∃ (a : GroS), Ob (List.length a.R + a.i ≤ (3 : Nat) ∧ GroOk n a.i a.q a.fr a.R ∧ (0 : Int) ≤ a.fr ∧ a.fr
  ≤ (3500 : Int)) ∧ Ob (c ↔ c) ∧ Ob ((0 : Int) = a.fr) ∧ Ob (Value.int IntKind.i64 (30 : Int) = Value.int IntKind.i64 (30 : Int)) ∧ Ob (v_9 = (↑a.i : Int)) ∧ Ob (List.length a.R = (0 : Nat)) ∧ Ob (v_3 = grBase n) ∧ Ob (v_7
  = grMost n) ∧ Ob (List.length a.R = (0 : Nat)) ∧ Ob (Value.int IntKind.i64 (0 : Int) = Value.int IntKind.i64 (0 : Int)) ∧ Ob (Value.int IntKind.i64 (0 : Int) = Value.int IntKind.i64 (0 : Int)) ∧ Ob (SV.v (Value.slice
  none ((0 : Nat)) ((0 : Nat))) = SV.v (Value.slice none ((0 : Nat)) ((0 : Nat)))) ∧ Ob (v_8 = a.q) ∧ Ob (PlainE (List.length a.R) (El.fn (Rv.elemOf [IntKind.i64, IntKind.i64, IntKind.i64, IntKind.i64, IntKind.i64] a.R)))
  ∧ True) ∧ ∀ (a : GroS), List.length a.R + a.i ≤ (3 : Nat) ∧ GroOk n a.i a.q a.fr a.R ∧ (0 : Int) ≤ a.fr ∧ a.fr ≤ (3500 : Int) → ∀ (z z_1 z_2 z_3 z_4 z_5 z_6 z_7 z_8 z_9 z_10 z_11 z_12 z_13 z_14 z_15 z_16 z_17 z_18 z_19
  z_20 z_21 z_22 z_23 z_24 z_25 z_26 z_27 z_28 z_29 z_30 z_31 z_32 z_33 z_34 z_35 z_36 z_37 z_38 z_39 z_40 z_41 z_42 z_43 z_44 z_45 z_46 z_47 z_48 z_49 z_50 z_51 z_52 z_53 z_54 z_55 z_56 z_57 z_58 z_59 z_60 z_61 z_62 :
  Value), ((0 : Int) < (↑a.i : Int) → (a.fr ≤ (2500 : Int) → Ob (F_From.named.pre ([Dat.z a.q] ++ [Dat.z (40 : Int), Dat.z (400 : Int)])) ∧ ∀ (v_10 : Int), v_10 = belowA a.q ((400 : Int) - (40 : Int) + (1 : Int)) → ∀ (v_11
  : Int), v_11 = (40 : Int) + belowV a.q ((400 : Int) - (40 : Int) + (1 : Int)) → (c → Ob (F_From.named.pre ([Dat.z v_10] ++ [Dat.z (3 : Int), Dat.z (6 : Int)])) ∧ ∀ (v_12 : Int), v_12 = belowA v_10 ((6 : Int) - (3 : Int)
  + (1 : Int)) → ∀ (v_13 : Int), v_13 = (3 : Int) + belowV v_10 ((6 : Int) - (3 : Int) + (1 : Int)) → Ob (F_From.named.pre ([Dat.z v_12] ++ [Dat.z (0 : Int), Dat.z (80 : Int)])) ∧ ∀ (v_14 : Int), v_14 = belowA v_12 ((80 :
  Int) - (0 : Int) + (1 : Int)) → ∀ (v_15 : Int), v_15 = (0 : Int) + belowV v_12 ((80 : Int) - (0 : Int) + (1 : Int)) → Ob (F_Below.named.pre ([Dat.z v_14] ++ [Dat.z (Int.ofNat (nat_lit 60))])) ∧ ∀ (v_16 : Int), v_16 =
  belowA v_14 (Int.ofNat (nat_lit 60)) → ∀ (v_17 : Int), v_17 = belowV v_14 (Int.ofNat (nat_lit 60)) → Ob (InR IntKind.i64 (v_13 + v_17)) ∧ Ob (F_Below.named.pre ([Dat.z v_16] ++ [Dat.z (30 : Int)])) ∧ ∀ (v_18 : Int), v_18
  = belowA v_16 (30 : Int) → ∀ (v_19 : Int), v_19 = belowV v_16 (30 : Int) → Ob (InR IntKind.i64 (v_15 + v_19)) ∧ Ob (List.length a.R = List.length a.R ∧ ∀ (i : Nat), i < List.length a.R → ((El.fn (Rv.elemOf [IntKind.i64,
  IntKind.i64, IntKind.i64, IntKind.i64, IntKind.i64] a.R)).at i).length = nat_lit 5) ∧ Ob ((List.length a.R + nat_lit 1) * nat_lit 2 * nat_lit 41 ≤ nat_lit 1099511627776) ∧ Ob (List.length a.R = List.length a.R) ∧ Ob
  (F_Of.named.pre ([Dat.z v_18] ++ [Dat.l [[(60 : Int)], [(900 : Int)]]])) ∧ ∀ (v_20 : Int), v_20 = ofA v_18 [[(60 : Int)], [(900 : Int)]] → ∀ (v_21 : Int), v_21 = ofV v_18 [[(60 : Int)], [(900 : Int)]] → Ob
  (F_From.named.pre ([Dat.z v_20] ++ [Dat.z (1 : Int), Dat.z v_21])) ∧ ∀ (v_22 : Int), v_22 = belowA v_20 (v_21 - (1 : Int) + (1 : Int)) → ∀ (v_23 : Int), v_23 = (1 : Int) + belowV v_20 (v_21 - (1 : Int) + (1 : Int)) → Ob
  (InR IntKind.i64 (a.fr + v_23)) ∧ Ob (InR IntKind.i64 ((↑a.i : Int) - (1 : Int))) ∧ ∃ (a' : GroS), Ob ((List.length a'.R + a'.i ≤ nat_lit 3 ∧ GroOk n a'.i a'.q a'.fr a'.R ∧ (0 : Int) ≤ a'.fr ∧ a'.fr ≤ (3500 : Int)) ∧
  a'.i < a.i) ∧ Ob (c ↔ c) ∧ Ob (a.fr + v_23 = a'.fr) ∧ Ob (Value.int IntKind.i64 (30 : Int) = Value.int IntKind.i64 (30 : Int)) ∧ Ob ((↑a.i : Int) - (1 : Int) = (↑a'.i : Int)) ∧ Ob (List.length a.R + nat_lit 1 =
  List.length a'.R ∧ ∀ (i : Nat), i < List.length a'.R → (behind (List.length a.R) (El.fn (Rv.elemOf [IntKind.i64, IntKind.i64, IntKind.i64, IntKind.i64, IntKind.i64] a.R)) (nat_lit 1) (litEl [SV.i IntKind.i64 a.fr, SV.i
  IntKind.i64 v_13, SV.i IntKind.i64 (v_13 + v_17), SV.i IntKind.i64 v_15, SV.i IntKind.i64 (v_15 + v_19)] (nat_lit 5) (nat_lit 1))).at i = (El.fn (Rv.elemOf [IntKind.i64, IntKind.i64, IntKind.i64, IntKind.i64,
  IntKind.i64] a'.R)).at i) ∧ Ob (grBase n = grBase n) ∧ Ob (grMost n = grMost n) ∧ Ob (List.length a.R + nat_lit 1 = List.length a'.R) ∧ Ob (Value.int IntKind.i64 (0 : Int) = Value.int IntKind.i64 (0 : Int)) ∧ Ob
  (Value.int IntKind.i64 (0 : Int) = Value.int IntKind.i64 (0 : Int)) ∧ Ob (SV.v (Value.slice none (nat_lit 0) (nat_lit 0)) = SV.v (Value.slice none (nat_lit 0) (nat_lit 0))) ∧ Ob (v_22 = a'.q) ∧ Ob (PlainE (List.length
  a'.R) (El.fn (Rv.elemOf [IntKind.i64, IntKind.i64, IntKind.i64, IntKind.i64, IntKind.i64] a'.R))) ∧ True) ∧ (¬c → Ob (F_From.named.pre ([Dat.z v_10] ++ [Dat.z (0 : Int), Dat.z (80 : Int)])) ∧ ∀ (v_12 : Int), v_12 =
  belowA v_10 ((80 : Int) - (0 : Int) + (1 : Int)) → ∀ (v_13 : Int), v_13 = (0 : Int) + belowV v_10 ((80 : Int) - (0 : Int) + (1 : Int)) → Ob (F_Below.named.pre ([Dat.z v_12] ++ [Dat.z (Int.ofNat (nat_lit 60))])) ∧ ∀ (v_14
  : Int), v_14 = belowA v_12 (Int.ofNat (nat_lit 60)) → ∀ (v_15 : Int), v_15 = belowV v_12 (Int.ofNat (nat_lit 60)) → Ob (InR IntKind.i64 (v_11 + v_15)) ∧ Ob (F_Below.named.pre ([Dat.z v_14] ++ [Dat.z (30 : Int)])) ∧ ∀
  (v_16 : Int), v_16 = belowA v_14 (30 : Int) → ∀ (v_17 : Int), v_17 = belowV v_14 (30 : Int) → Ob (InR IntKind.i64 (v_13 + v_17)) ∧ Ob (List.length a.R = List.length a.R ∧ ∀ (i : Nat), i < List.length a.R → ((El.fn
  (Rv.elemOf [IntKind.i64, IntKind.i64, IntKind.i64, IntKind.i64, IntKind.i64] a.R)).at i).length = nat_lit 5) ∧ Ob ((List.length a.R + nat_lit 1) * nat_lit 2 * nat_lit 41 ≤ nat_lit 1099511627776) ∧ Ob (List.length a.R =
  List.length a.R) ∧ Ob (F_Of.named.pre ([Dat.z v_16] ++ [Dat.l [[(60 : Int)], [(900 : Int)]]])) ∧ ∀ (v_18 : Int), v_18 = ofA v_16 [[(60 : Int)], [(900 : Int)]] → ∀ (v_19 : Int), v_19 = ofV v_16 [[(60 : Int)], [(900 :
  Int)]] → Ob (F_From.named.pre ([Dat.z v_18] ++ [Dat.z (1 : Int), Dat.z v_19])) ∧ ∀ (v_20 : Int), v_20 = belowA v_18 (v_19 - (1 : Int) + (1 : Int)) → ∀ (v_21 : Int), v_21 = (1 : Int) + belowV v_18 (v_19 - (1 : Int) + (1 :
  Int)) → Ob (InR IntKind.i64 (a.fr + v_21)) ∧ Ob (InR IntKind.i64 ((↑a.i : Int) - (1 : Int))) ∧ ∃ (a' : GroS), Ob ((List.length a'.R + a'.i ≤ nat_lit 3 ∧ GroOk n a'.i a'.q a'.fr a'.R ∧ (0 : Int) ≤ a'.fr ∧ a'.fr ≤ (3500 :
  Int)) ∧ a'.i < a.i) ∧ Ob (c ↔ c) ∧ Ob (a.fr + v_21 = a'.fr) ∧ Ob (Value.int IntKind.i64 (30 : Int) = Value.int IntKind.i64 (30 : Int)) ∧ Ob ((↑a.i : Int) - (1 : Int) = (↑a'.i : Int)) ∧ Ob (List.length a.R + nat_lit 1 =
  List.length a'.R ∧ ∀ (i : Nat), i < List.length a'.R → (behind (List.length a.R) (El.fn (Rv.elemOf [IntKind.i64, IntKind.i64, IntKind.i64, IntKind.i64, IntKind.i64] a.R)) (nat_lit 1) (litEl [SV.i IntKind.i64 a.fr, SV.i
  IntKind.i64 v_11, SV.i IntKind.i64 (v_11 + v_15), SV.i IntKind.i64 v_13, SV.i IntKind.i64 (v_13 + v_17)] (nat_lit 5) (nat_lit 1))).at i = (El.fn (Rv.elemOf [IntKind.i64, IntKind.i64, IntKind.i64, IntKind.i64,
  IntKind.i64] a'.R)).at i) ∧ Ob (grBase n = grBase n) ∧ Ob (grMost n = grMost n) ∧ Ob (List.length a.R + nat_lit 1 = List.length a'.R) ∧ Ob (Value.int IntKind.i64 (0 : Int) = Value.int IntKind.i64 (0 : Int)) ∧ Ob
  (Value.int IntKind.i64 (0 : Int) = Value.int IntKind.i64 (0 : Int)) ∧ Ob (SV.v (Value.slice none (nat_lit 0) (nat_lit 0)) = SV.v (Value.slice none (nat_lit 0) (nat_lit 0))) ∧ Ob (v_20 = a'.q) ∧ Ob (PlainE (List.length
  a'.R) (El.fn (Rv.elemOf [IntKind.i64, IntKind.i64, IntKind.i64, IntKind.i64, IntKind.i64] a'.R))) ∧ True)) ∧ (¬a.fr ≤ (2500 : Int) → Ob (grBase n = grBase n) ∧ Ob (grMost n = grMost n) ∧ Ob (List.length a.R = List.length
  (grR n)) ∧ Ob (List.length a.R = List.length (grR n) ∧ ∀ (i : Nat), i < List.length (grR n) → (El.fn (Rv.elemOf [IntKind.i64, IntKind.i64, IntKind.i64, IntKind.i64, IntKind.i64] a.R)).at i = (El.fn (Rv.elemOf
  [IntKind.i64, IntKind.i64, IntKind.i64, IntKind.i64, IntKind.i64] (grR n))).at i) ∧ Ob (a.q = grQ n) ∧ Ob (PlainE (List.length (grR n)) (El.fn (Rv.elemOf [IntKind.i64, IntKind.i64, IntKind.i64, IntKind.i64, IntKind.i64]
  (grR n)))) ∧ True)) ∧ (¬(0 : Int) < (↑a.i : Int) → Ob (grBase n = grBase n) ∧ Ob (grMost n = grMost n) ∧ Ob (List.length a.R = List.length (grR n)) ∧ Ob (List.length a.R = List.length (grR n) ∧ ∀ (i : Nat), i <
  List.length (grR n) → (El.fn (Rv.elemOf [IntKind.i64, IntKind.i64, IntKind.i64, IntKind.i64, IntKind.i64] a.R)).at i = (El.fn (Rv.elemOf [IntKind.i64, IntKind.i64, IntKind.i64, IntKind.i64, IntKind.i64] (grR n))).at i) ∧
  Ob (a.q = grQ n) ∧ Ob (PlainE (List.length (grR n)) (El.fn (Rv.elemOf [IntKind.i64, IntKind.i64, IntKind.i64, IntKind.i64, IntKind.i64] (grR n)))) ∧ True))

set_option linter.unusedSimpArgs false in
set_option maxRecDepth 4000 in
set_option maxHeartbeats 400000 in
theorem v_GrowthOf : V_GrowthOf := by
  unfold V_GrowthOf
  intro B a sm hsm
  have hsm : ¬ sm := hsm
  simp only [F_From, F_Below, F_Of, FnE.named, List.cons_append, List.nil_append, Ob_iff] at ⊢
  have hN := grN_in a
  refine ⟨by omega, ?_⟩
  intro v hv; obtain rfl : v = grA1 a := hv
  intro v hv; obtain rfl : v = grB1 a := hv
  refine ⟨by simp, ?_⟩
  intro v hv; obtain rfl : v = grA2 a := hv
  intro v hv; obtain rfl : v = grBase a := hv
  refine ⟨by omega, ?_⟩
  intro v hv; obtain rfl : v = grA3 a := hv
  intro v hv; obtain rfl : v = grM1 a := hv
  refine ⟨by simp, ?_⟩
  intro v hv; obtain rfl : v = grA4 a := hv
  intro v hv; obtain rfl : v = grMost a := hv
  refine ⟨fun h => absurd h hsm, fun _ => ⟨by omega, ?_⟩⟩
  intro v hv; obtain rfl : v = grQ0 a := hv
  intro v hv; obtain rfl : v = grN a := hv
  have ok := GroOk.start a
  constructor
  · refine ⟨⟨(grN a).toNat, grQ0 a, 0, []⟩, ?_⟩
    dsimp only
    refine ⟨⟨by simp only [List.length_nil]; omega, ok, by omega, by omega⟩, ?_⟩
    repeat' (with_reducible apply And.intro)
    all_goals first | exact plain_elemOf _ _ _ | trivial | omega | exact Iff.rfl
  clear ok
  intro ⟨i, q, fr, R⟩
  dsimp only
  intro ⟨h1, h2, h4, h5⟩
  intros
  refine ⟨fun h6 => ⟨fun h7 => ?_, fun h7 => ?_⟩, fun h6 => ?_⟩
  · obtain ⟨j, rfl⟩ : ∃ j, i = j + 1 := ⟨i - 1, by omega⟩
    have ok := h2.next h7
    have hb := sg_bd q
    obtain ⟨nd, hnd⟩ : ∃ x, Eqv x (sgNeed q) := ⟨_, ⟨rfl⟩⟩
    obtain ⟨n1, hn1⟩ : ∃ x, Eqv x (sgN1 q) := ⟨_, ⟨rfl⟩⟩
    obtain ⟨st, hst⟩ : ∃ x, Eqv x (sgStep q) := ⟨_, ⟨rfl⟩⟩
    obtain ⟨s1, hs1⟩ : ∃ x, Eqv x (sgS1 q) := ⟨_, ⟨rfl⟩⟩
    obtain ⟨bl, hbl⟩ : ∃ x, Eqv x (belowV (sgA5 q) (sgC q - 1 + 1)) := ⟨_, ⟨rfl⟩⟩
    rw [← hnd.h, ← hn1.h, ← hst.h, ← hs1.h, ← hbl.h] at hb
    obtain ⟨c, hc⟩ : ∃ x, Eqv x (sgC q) := ⟨_, ⟨rfl⟩⟩
    rw [← hc.h] at hb
    have eF : sgF q fr = fr + (1 + bl) := by rw [hbl.h]; rfl
    have eW : sgRow q fr = [fr, nd, nd + n1, st, st + s1] := by rw [hnd.h, hn1.h, hst.h, hs1.h]; rfl
    rw [eF, eW] at ok
    clear h2 eF eW
    refine ⟨by omega, ?_⟩
    intro v hv; obtain rfl : v = sgA1 q := hv
    intro v hv; obtain rfl : nd = v := hnd.h.trans hv.symm; clear hv
    refine ⟨fun h => absurd h hsm, fun _ => ⟨by omega, ?_⟩⟩
    intro v hv; obtain rfl : v = sgA2 q := hv
    intro v hv; obtain rfl : st = v := hst.h.trans hv.symm; clear hv
    refine ⟨by show (60 : Int) ≤ 9223372036854775807; omega, ?_⟩
    intro v hv; obtain rfl : v = sgA3 q := hv
    intro v hv; obtain rfl : n1 = v := hn1.h.trans hv.symm; clear hv
    refine ⟨by simp only [InR]; omega, by omega, ?_⟩
    intro v hv; obtain rfl : v = sgA4 q := hv
    intro v hv; obtain rfl : s1 = v := hs1.h.trans hv.symm; clear hv
    refine ⟨by simp only [InR]; omega, ⟨trivial, fun i hi => rfl⟩, by omega, trivial, by simp, ?_⟩
    intro v hv; obtain rfl : v = sgA5 q := hv
    intro v hv; obtain rfl : c = v := hc.h.trans hv.symm; clear hv
    refine ⟨by clear ok; omega, ?_⟩
    intro w hw; have hw : w = sgQ q := by rw [hw, hc.h]; rfl
    rw [← hw] at ok
    intro v hv; have hv : v = 1 + bl := by rw [hv, hbl.h, hc.h]
    clear hw hnd hn1 hst hs1 hbl hc
    subst hv
    refine ⟨by simp only [InR]; omega, by simp only [InR]; omega, ⟨j, w, fr + (1 + bl), R ++ [[fr, nd, nd + n1, st, st + s1]]⟩, ?_⟩
    dsimp only
    refine ⟨⟨⟨by simp only [List.length_append, List.length_singleton]; omega, ok, by omega, by omega⟩, by omega⟩, ?_⟩
    have hl : (R ++ [[fr, nd, nd + n1, st, st + s1]]).length = R.length + 1 := by simp
    clear ok
    repeat' (with_reducible apply And.intro)
    all_goals first | exact plain_elemOf _ _ _ | trivial | omega | exact Iff.rfl | skip
    intro i hi
    exact snoc_at (R := R) (ks := [.i64, .i64, .i64, .i64, .i64]) (r := [fr, nd, nd + n1, st, st + s1]) (cs := [SV.i .i64 fr, SV.i .i64 nd, SV.i .i64 (nd + n1), SV.i .i64 st, SV.i .i64 (st + s1)]) rfl (by omega)
  · have e := h2.stop (.inl h7)
    clear h2
    rw [← e.1, ← e.2]
    repeat' (with_reducible apply And.intro)
    all_goals first | exact plain_elemOf _ _ _ | trivial | omega | exact Iff.rfl | exact fun _ _ => rfl | exact fun _ _ => trivial
  · have e0 : i = 0 := by omega
    subst e0
    have e := h2.stop (.inr rfl)
    clear h2
    rw [← e.1, ← e.2]
    repeat' (with_reducible apply And.intro)
    all_goals first | exact plain_elemOf _ _ _ | trivial | omega | exact Iff.rfl | exact fun _ _ => rfl | exact fun _ _ => trivial

theorem e_GrowthOf : V_GrowthOf = needE P [] [F_Below.named, F_From.named, F_Of.named] A_GrowthOf F_GrowthOf := by kernel_rfl

theorem n_GrowthOf : Ob (needE P [] [F_Below.named, F_From.named, F_Of.named] A_GrowthOf F_GrowthOf) := by
  rw [← e_GrowthOf]
  exact ⟨v_GrowthOf⟩

theorem b_GrowthOf : ((P.funcs[8]?).any fun fn => fn.body.isSome) = true := by kernel_rfl

theorem GrowthOf_ok : FnE.Ok P F_GrowthOf := FnE.ok named (l := []) (es := [F_Below.named, F_From.named, F_Of.named]) (A := A_GrowthOf) (by rfl) (by rfl) (by rfl) (by
  intro F h; simp at h) (by
  intro F h
  simp only [List.mem_cons, List.not_mem_nil, or_false] at h
  rcases h with rfl | rfl | rfl
  · exact Below_ok.named
  · exact From_ok.named
  · exact Of_ok.named
) b_GrowthOf (by
  intro ds h o ho n sz e k z he
  subst he
  simp only [F_GrowthOf] at ho
  split at ho
  · simp only [List.mem_cons, List.not_mem_nil, or_false, SObj.gr.injEq] at ho
    obtain ⟨rfl, rfl, rfl, rfl, rfl⟩ := ho
    exact plain_elemOf _ _ _
  · simp at ho) n_GrowthOf

end Go.Proofs.YtgdnhmilhpnbjaaDoor.Sy
