/- Nurseries of a tide. -/
import Derived.Test.YtgdnhmilhpnbjaaDoorSyP2
import Derived.Test.YtgdnhmilhpnbjaaDoorGrM
import Derived.Test.YtgdnhmilhpnbjaaDoorGrT
import Derived.Test.YtgdnhmilhpnbjaaDoorGrU
import Derived.Test.YtgdnhmilhpnbjaaDoorSyP2
import Derived.KernelRfl
import Derived.Test.YtgdnhmilhpnbjaaDoorProg
namespace Go.Proofs.YtgdnhmilhpnbjaaDoor.Sy
open Go Go.Rv
set_option linter.unusedVariables false

noncomputable def F_nurseryOf : FnE := ⟨20, (some [.i .u64]), [i64], fun l => match l with | [.z a, .z most] => 0 ≤ most ∧ most ≤ 12 | _ => False, fun l => match l with | [.z a, .z most] => [.agg [.i .i64 (nurLow a), .i .i64 (nurHigh a), .i .i64 (nurRate a), .i .i64 (nurRoom a)], .gsl 0 (nurN a most).toNat 2 true, .gsl 1 (nurN a most).toNat 2 true] | _ => [], fun l => match l with | [.z a, .z most] => [.gr (nurN a most).toNat 2 (.fn (Rv.elemOf [.i64, .i64] (nurL a most (nurN a most).toNat))) .gr true, .gr (nurN a most).toNat 2 (.fn (Rv.elemOf [.i64, .i64] (nurD a most (nurN a most).toNat))) .gr true] | _ => [], fun l => match l with | [.z a, .z most] => [.i .u64 (nurQ a most (nurN a most).toNat)] | _ => [], false⟩
noncomputable def A_nurseryOf : List SV → List Dat → Nat → List SV → Ann := fun xs ds n ts => match xs with
  | [.agg _, .i _ _] => match ds with
    | [.z a, .z most] => match n with
      | 5 => ⟨Nat, fun k => [some (SV.ptr ((0 : Nat)) ((0 : Nat))), none, none, none, some (SV.ptr ((1 : Nat)) ((0 : Nat))), some (SV.v (Value.slice none ((0 : Nat)) ((0 : Nat)))), some (SV.v (Value.slice none ((0 : Nat)) ((0 : Nat)))), none, some (SV.ptr ((4 : Nat)) ((0 : Nat))), some (.gsl 5 k 2 true), some (.gsl 6 k 2 true), some (.i .i64 (nurN a most - k)), none, none, none, none, none, none, none, none, none, none, none, none, none, none, none, none, none, none, none, none, none, none, none, none, none, none, none, none, none, none, none, none, none, none, none, none, none, none, none, none, none], fun k => [.gr k 2 (.fn (Rv.elemOf [.i64, .i64] (nurL a most k))) .gr true, .gr k 2 (.fn (Rv.elemOf [.i64, .i64] (nurD a most k))) .gr true, .cells [.i .i64 (nurLow a), .i .i64 (nurHigh a), .i .i64 (nurRate a), .i .i64 (nurRoom a)] .ex, .dead, .dead, SObj.cells [SV.v (Value.int IntKind.i64 (0 : Int)), SV.v (Value.int IntKind.i64 (0 : Int)), SV.v (Value.int IntKind.i64 (0 : Int)), SV.v (Value.int IntKind.i64 (0 : Int))] Kd.ex, .cells [.i .u64 (nurQ a most k)] .ex], fun k => (k : Int) ≤ nurN a most, fun k => (nurN a most - k).toNat, 0⟩
      | _ => noAnn
    | _ => noAnn
  | _ => noAnn

def V_nurseryOf : Prop :=
  ∀ (B : RW) (n n_1 : Int), F_nurseryOf.pre ([Dat.z n] ++ ([Dat.z n_1] ++ [])) → Ob (F_From.named.pre ([Dat.z n] ++ [Dat.z (80 : Int), Dat.z (160 : Int)])) ∧ ∀ (v : Int), v = belowA n ((160 : Int) - (80 : Int) + (1 : Int))
  → ∀ (v_1 : Int), v_1 = (80 : Int) + belowV n ((160 : Int) - (80 : Int) + (1 : Int)) → Ob (F_From.named.pre ([Dat.z v] ++ [Dat.z v_1, Dat.z (250 : Int)])) ∧ ∀ (v_2 : Int), v_2 = belowA v ((250 : Int) - v_1 + (1 : Int)) →
  ∀ (v_3 : Int), v_3 = v_1 + belowV v ((250 : Int) - v_1 + (1 : Int)) → Ob (F_Below.named.pre ([Dat.z v_2] ++ [Dat.z (1000001 : Int)])) ∧ ∀ (v_4 : Int), v_4 = belowA v_2 (1000001 : Int) → ∀ (v_5 : Int), v_5 = belowV v_2
  (1000001 : Int) → Ob (F_Of.named.pre ([Dat.z v_4] ++ [Dat.l [[(1000000 : Int)], [v_5]]])) ∧ ∀ (v_6 : Int), v_6 = ofA v_4 [[(1000000 : Int)], [v_5]] → ∀ (v_7 : Int), v_7 = ofV v_4 [[(1000000 : Int)], [v_5]] → Ob
  (F_Below.named.pre ([Dat.z v_6] ++ [Dat.z (3000 : Int)])) ∧ ∀ (v_8 : Int), v_8 = belowA v_6 (3000 : Int) → ∀ (v_9 : Int), v_9 = belowV v_6 (3000 : Int) → Ob (F_Of.named.pre ([Dat.z v_8] ++ [Dat.l [[(1000000 : Int)],
  [v_9]]])) ∧ ∀ (v_10 : Int), v_10 = ofA v_8 [[(1000000 : Int)], [v_9]] → ∀ (v_11 : Int), v_11 = ofV v_8 [[(1000000 : Int)], [v_9]] → Ob (InR IntKind.i64 (n_1 + (1 : Int))) ∧ Ob (F_Below.named.pre ([Dat.z v_10] ++ [Dat.z
  (n_1 + (1 : Int))])) ∧ ∀ (v_12 : Int), v_12 = belowA v_10 (n_1 + (1 : Int)) → ∀ (v_13 : Int), v_13 = belowV v_10 (n_1 + (1 : Int)) → (∃ (a : Nat), Ob ((↑a : Int) ≤ nurN n n_1) ∧ Ob (SV.v (Value.slice none ((0 : Nat)) ((0
  : Nat))) = SV.v (Value.slice none ((0 : Nat)) ((0 : Nat)))) ∧ Ob (SV.v (Value.slice none ((0 : Nat)) ((0 : Nat))) = SV.v (Value.slice none ((0 : Nat)) ((0 : Nat)))) ∧ Ob (a = (0 : Nat)) ∧ Ob (a = (0 : Nat)) ∧ Ob (v_13 =
  nurN n n_1 - (↑a : Int)) ∧ Ob (a = (0 : Nat)) ∧ Ob (a = (0 : Nat)) ∧ Ob (v_1 = nurLow n) ∧ Ob (v_3 = nurHigh n) ∧ Ob (v_7 = nurRate n) ∧ Ob (v_11 = nurRoom n) ∧ Ob (Value.int IntKind.i64 (0 : Int) = Value.int IntKind.i64
  (0 : Int)) ∧ Ob (Value.int IntKind.i64 (0 : Int) = Value.int IntKind.i64 (0 : Int)) ∧ Ob (Value.int IntKind.i64 (0 : Int) = Value.int IntKind.i64 (0 : Int)) ∧ Ob (Value.int IntKind.i64 (0 : Int) = Value.int IntKind.i64
  (0 : Int)) ∧ Ob (v_12 = nurQ n n_1 a) ∧ Ob (PlainE a (El.fn (Rv.elemOf [IntKind.i64, IntKind.i64] (nurL n n_1 a)))) ∧ Ob (PlainE a (El.fn (Rv.elemOf [IntKind.i64, IntKind.i64] (nurD n n_1 a)))) ∧ True) ∧ ∀ (a : Nat), (↑a
  : Int) ≤ nurN n n_1 → ∀ (z z_1 z_2 z_3 z_4 z_5 z_6 z_7 z_8 z_9 z_10 z_11 z_12 z_13 z_14 z_15 z_16 z_17 z_18 z_19 z_20 z_21 z_22 z_23 z_24 z_25 z_26 z_27 z_28 z_29 z_30 z_31 z_32 z_33 z_34 z_35 z_36 z_37 z_38 z_39 z_40
  z_41 z_42 z_43 z_44 : Value), ((0 : Int) < nurN n n_1 - (↑a : Int) → Ob (F_Span.named.pre ([Dat.z (nurQ n n_1 a)] ++ [Dat.z (60 : Int), Dat.z (260 : Int)])) ∧ ∀ (v_14 : Int), v_14 = spanA (nurQ n n_1 a) (60 : Int) (260 :
  Int) → ∀ (v_15 : Int), v_15 = spanLo (nurQ n n_1 a) (60 : Int) (260 : Int) → ∀ (v_16 : Int), v_16 = spanHi (nurQ n n_1 a) (60 : Int) (260 : Int) → Ob (a = a ∧ ∀ (i : Nat), i < a → ((El.fn (Rv.elemOf [IntKind.i64,
  IntKind.i64] (nurD n n_1 a))).at i).length = nat_lit 2) ∧ Ob ((a + nat_lit 1) * nat_lit 2 * nat_lit 17 ≤ nat_lit 1099511627776) ∧ Ob (a = a) ∧ Ob (F_Of.named.pre ([Dat.z v_14] ++ [Dat.l [[(5 : Int)], [(1000 : Int)]]])) ∧
  ∀ (v_17 : Int), v_17 = ofA v_14 [[(5 : Int)], [(1000 : Int)]] → ∀ (v_18 : Int), v_18 = ofV v_14 [[(5 : Int)], [(1000 : Int)]] → Ob (F_Span.named.pre ([Dat.z v_17] ++ [Dat.z (0 : Int), Dat.z v_18])) ∧ ∀ (v_19 : Int), v_19
  = spanA v_17 (0 : Int) v_18 → ∀ (v_20 : Int), v_20 = spanLo v_17 (0 : Int) v_18 → ∀ (v_21 : Int), v_21 = spanHi v_17 (0 : Int) v_18 → Ob (a = a ∧ ∀ (i : Nat), i < a → ((El.fn (Rv.elemOf [IntKind.i64, IntKind.i64] (nurL n
  n_1 a))).at i).length = nat_lit 2) ∧ Ob ((a + nat_lit 1) * nat_lit 2 * nat_lit 17 ≤ nat_lit 1099511627776) ∧ Ob (a = a) ∧ Ob (InR IntKind.i64 (nurN n n_1 - (↑a : Int) - (1 : Int))) ∧ ∃ (a' : Nat), Ob ((↑a' : Int) ≤ nurN
  n n_1 ∧ (nurN n n_1 - (↑a' : Int)).toNat < (nurN n n_1 - (↑a : Int)).toNat) ∧ Ob (SV.v (Value.slice none (nat_lit 0) (nat_lit 0)) = SV.v (Value.slice none (nat_lit 0) (nat_lit 0))) ∧ Ob (SV.v (Value.slice none (nat_lit
  0) (nat_lit 0)) = SV.v (Value.slice none (nat_lit 0) (nat_lit 0))) ∧ Ob (a + nat_lit 1 = a') ∧ Ob (a + nat_lit 1 = a') ∧ Ob (nurN n n_1 - (↑a : Int) - (1 : Int) = nurN n n_1 - (↑a' : Int)) ∧ Ob (a + nat_lit 1 = a' ∧ ∀ (i
  : Nat), i < a' → (behind a (El.fn (Rv.elemOf [IntKind.i64, IntKind.i64] (nurL n n_1 a))) (nat_lit 1) (litEl [SV.i IntKind.i64 v_20, SV.i IntKind.i64 v_21] (nat_lit 2) (nat_lit 1))).at i = (El.fn (Rv.elemOf [IntKind.i64,
  IntKind.i64] (nurL n n_1 a'))).at i) ∧ Ob (a + nat_lit 1 = a' ∧ ∀ (i : Nat), i < a' → (behind a (El.fn (Rv.elemOf [IntKind.i64, IntKind.i64] (nurD n n_1 a))) (nat_lit 1) (litEl [SV.i IntKind.i64 v_15, SV.i IntKind.i64
  v_16] (nat_lit 2) (nat_lit 1))).at i = (El.fn (Rv.elemOf [IntKind.i64, IntKind.i64] (nurD n n_1 a'))).at i) ∧ Ob (nurLow n = nurLow n) ∧ Ob (nurHigh n = nurHigh n) ∧ Ob (nurRate n = nurRate n) ∧ Ob (nurRoom n = nurRoom
  n) ∧ Ob (Value.int IntKind.i64 (0 : Int) = Value.int IntKind.i64 (0 : Int)) ∧ Ob (Value.int IntKind.i64 (0 : Int) = Value.int IntKind.i64 (0 : Int)) ∧ Ob (Value.int IntKind.i64 (0 : Int) = Value.int IntKind.i64 (0 :
  Int)) ∧ Ob (Value.int IntKind.i64 (0 : Int) = Value.int IntKind.i64 (0 : Int)) ∧ Ob (v_19 = nurQ n n_1 a') ∧ Ob (PlainE a' (El.fn (Rv.elemOf [IntKind.i64, IntKind.i64] (nurL n n_1 a')))) ∧ Ob (PlainE a' (El.fn (Rv.elemOf
  [IntKind.i64, IntKind.i64] (nurD n n_1 a')))) ∧ True) ∧ (¬(0 : Int) < nurN n n_1 - (↑a : Int) → Ob (nurLow n = nurLow n) ∧ Ob (nurHigh n = nurHigh n) ∧ Ob (nurRate n = nurRate n) ∧ Ob (nurRoom n = nurRoom n) ∧ Ob (a =
  (nurN n n_1).toNat) ∧ Ob (a = (nurN n n_1).toNat) ∧ Ob (a = (nurN n n_1).toNat ∧ ∀ (i : Nat), i < (nurN n n_1).toNat → (El.fn (Rv.elemOf [IntKind.i64, IntKind.i64] (nurL n n_1 a))).at i = (El.fn (Rv.elemOf [IntKind.i64,
  IntKind.i64] (nurL n n_1 (nurN n n_1).toNat))).at i) ∧ Ob (a = (nurN n n_1).toNat ∧ ∀ (i : Nat), i < (nurN n n_1).toNat → (El.fn (Rv.elemOf [IntKind.i64, IntKind.i64] (nurD n n_1 a))).at i = (El.fn (Rv.elemOf
  [IntKind.i64, IntKind.i64] (nurD n n_1 (nurN n n_1).toNat))).at i) ∧ Ob (nurQ n n_1 a = nurQ n n_1 (nurN n n_1).toNat) ∧ Ob (PlainE (nurN n n_1).toNat (El.fn (Rv.elemOf [IntKind.i64, IntKind.i64] (nurL n n_1 (nurN n
  n_1).toNat)))) ∧ Ob (PlainE (nurN n n_1).toNat (El.fn (Rv.elemOf [IntKind.i64, IntKind.i64] (nurD n n_1 (nurN n n_1).toNat)))) ∧ True)

set_option linter.unusedSimpArgs false in
set_option maxRecDepth 4000 in
set_option maxHeartbeats 400000 in
theorem v_nurseryOf : V_nurseryOf := by
  unfold V_nurseryOf
  intro B a most hm
  have hm : 0 ≤ most ∧ most ≤ 12 := hm
  simp only [F_From, F_Below, F_Of, F_Span, FnE.named, List.cons_append, List.nil_append, Ob_iff] at ⊢
  have hb := nur_bd a
  have hN := belowV_in (nurA6 a) (most + 1)
  have eN : belowV (nurA6 a) (most + 1) = nurN a most := rfl
  rw [eN] at hN
  refine ⟨by omega, ?_⟩
  intro v hv; obtain rfl : v = nurA1 a := hv
  intro v hv; obtain rfl : v = nurLow a := hv
  refine ⟨by omega, ?_⟩
  intro v hv; obtain rfl : v = nurA2 a := hv
  intro v hv; obtain rfl : v = nurHigh a := hv
  refine ⟨by omega, ?_⟩
  intro v hv; obtain rfl : v = nurA3 a := hv
  intro v hv; obtain rfl : v = nurRate1 a := hv
  refine ⟨by simp, ?_⟩
  intro v hv; obtain rfl : v = nurA4 a := hv
  intro v hv; obtain rfl : v = nurRate a := hv
  refine ⟨by omega, ?_⟩
  intro v hv; obtain rfl : v = nurA5 a := hv
  intro v hv; obtain rfl : v = nurRoom1 a := hv
  refine ⟨by simp, ?_⟩
  intro v hv; obtain rfl : v = nurA6 a := hv
  intro v hv; obtain rfl : v = nurRoom a := hv
  refine ⟨by simp only [InR]; omega, by omega, ?_⟩
  intro v hv; obtain rfl : v = nurQ a most 0 := hv
  intro v hv; obtain rfl : v = nurN a most := hv
  refine ⟨⟨0, by omega, ?_⟩, ?_⟩
  · repeat' (with_reducible apply And.intro)
    all_goals first | exact plain_elemOf _ _ _ | trivial | omega | rfl
  intro k hk
  intros
  refine ⟨fun h1 => ?_, fun h1 => ?_⟩
  · refine ⟨by omega, ?_⟩
    intro v hv; obtain rfl : v = dayA1 (nurQ a most k) := hv
    intro v hv; subst hv
    intro v hv; subst hv
    have hc := dayC_is (nurQ a most k)
    refine ⟨⟨trivial, fun i hi => rfl⟩, by omega, trivial, by simp, ?_⟩
    intro v hv; obtain rfl : v = dayA2 (nurQ a most k) := hv
    intro v hv; obtain rfl : v = dayC (nurQ a most k) := hv
    refine ⟨by omega, ?_⟩
    intro v hv; obtain rfl : v = dayA3 (nurQ a most k) := hv
    intro v hv; subst hv
    intro v hv; subst hv
    refine ⟨⟨trivial, fun i hi => rfl⟩, by omega, trivial, by simp only [InR]; omega, k + 1, by omega, ?_⟩
    repeat' (with_reducible apply And.intro)
    all_goals first | exact plain_elemOf _ _ _ | trivial | omega | rfl | skip
    · intro i hi
      have := snoc2_at (R := nurL a most k) (j := .i64) (k := .i64) (a := spanLo (dayA2 (nurQ a most k)) 0 (dayC (nurQ a most k))) (b := spanHi (dayA2 (nurQ a most k)) 0 (dayC (nurQ a most k))) (i := i) (by rw [nurL_len]; exact hi)
      rw [nurL_len] at this
      exact this
    · intro i hi
      have := snoc2_at (R := nurD a most k) (j := .i64) (k := .i64) (a := spanLo (nurQ a most k) 60 260) (b := spanHi (nurQ a most k) 60 260) (i := i) (by rw [nurD_len]; exact hi)
      rw [nurD_len] at this
      exact this
  · have e : k = (nurN a most).toNat := by omega
    subst e
    repeat' (with_reducible apply And.intro)
    all_goals first | exact plain_elemOf _ _ _ | trivial | omega | rfl | exact fun _ _ => rfl

theorem e_nurseryOf : V_nurseryOf = needE P [] [F_Below.named, F_From.named, F_Of.named, F_Span.named] A_nurseryOf F_nurseryOf := by kernel_rfl

theorem n_nurseryOf : Ob (needE P [] [F_Below.named, F_From.named, F_Of.named, F_Span.named] A_nurseryOf F_nurseryOf) := by
  rw [← e_nurseryOf]
  exact ⟨v_nurseryOf⟩

theorem b_nurseryOf : ((P.funcs[20]?).any fun fn => fn.body.isSome) = true := by kernel_rfl

theorem nurseryOf_ok : FnE.Ok P F_nurseryOf := FnE.ok named (l := []) (es := [F_Below.named, F_From.named, F_Of.named, F_Span.named]) (A := A_nurseryOf) (by rfl) (by rfl) (by rfl) (by
  intro F h; simp at h) (by
  intro F h
  simp only [List.mem_cons, List.not_mem_nil, or_false] at h
  rcases h with rfl | rfl | rfl | rfl
  · exact Below_ok.named
  · exact From_ok.named
  · exact Of_ok.named
  · exact Span_ok.named
) b_nurseryOf (by
  intro ds h o ho n sz e k z he
  subst he
  simp only [F_nurseryOf] at ho
  split at ho
  · simp only [List.mem_cons, List.not_mem_nil, or_false, SObj.gr.injEq] at ho
    rcases ho with ⟨rfl, rfl, rfl, rfl, rfl⟩ | ⟨rfl, rfl, rfl, rfl, rfl⟩ <;> exact plain_elemOf _ _ _
  · simp at ho) n_nurseryOf

end Go.Proofs.YtgdnhmilhpnbjaaDoor.Sy
