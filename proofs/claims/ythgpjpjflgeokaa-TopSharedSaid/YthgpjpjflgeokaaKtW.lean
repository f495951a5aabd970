/- Lots of a tide, and parts. -/
import Derived.Test.YthgpjpjflgeokaaSyP2
import Derived.Test.YthgpjpjflgeokaaGrM
import Derived.Test.YthgpjpjflgeokaaStM
import Derived.Test.YthgpjpjflgeokaaLrM
import Derived.Test.YthgpjpjflgeokaaKtT
import Derived.Test.YthgpjpjflgeokaaKtA
import Derived.Test.YthgpjpjflgeokaaKtB
import Derived.Test.YthgpjpjflgeokaaSyP2
import Derived.KernelRfl
import Derived.Test.YthgpjpjflgeokaaProg
namespace Go.Proofs.Ythgpjpjflgeokaa.Sy
open Go Go.Rv
set_option linter.unusedVariables false

def ltR (b : Int) : List Int := [ofV (belowA (belowA b 20) 300) [[0], [belowV b 20], [belowV (belowA b 20) 300]], ofV (belowA (ofA (belowA (belowA b 20) 300) [[0], [belowV b 20], [belowV (belowA b 20) 300]]) 6) [[0], [belowV (ofA (belowA (belowA b 20) 300) [[0], [belowV b 20], [belowV (belowA b 20) 300]]) 6]]]
def ltQ (b : Int) : Int := ofA (belowA (ofA (belowA (belowA b 20) 300) [[0], [belowV b 20], [belowV (belowA b 20) 300]]) 6) [[0], [belowV (ofA (belowA (belowA b 20) 300) [[0], [belowV b 20], [belowV (belowA b 20) 300]]) 6]]
theorem ofV_three' (a x y z : Int) : ofV a [[x], [y], [z]] = x ∨ ofV a [[x], [y], [z]] = y ∨ ofV a [[x], [y], [z]] = z := by
  have h := belowV_in a 3
  have e : ofV a [[x], [y], [z]] = cell [[x], [y], [z]] (belowV a 3).toNat 0 := by simp [ofV]
  rw [e]
  have : (belowV a 3).toNat = 0 ∨ (belowV a 3).toNat = 1 ∨ (belowV a 3).toNat = 2 := by
    generalize belowV a 3 = q at *
    omega
  rcases this with h0 | h0 | h0 <;> rw [h0]
  · exact .inl rfl
  · exact .inr (.inl rfl)
  · exact .inr (.inr rfl)
theorem lt_in (b : Int) : ∃ x y, ltR b = [x, y] ∧ 0 ≤ x ∧ x < 300 ∧ 0 ≤ y ∧ y < 6 := by
  refine ⟨_, _, rfl, ?_⟩
  have h1 := belowV_in b 20
  have h2 := belowV_in (belowA b 20) 300
  obtain ⟨u, hu⟩ : ∃ u, u = belowV b 20 := ⟨_, rfl⟩
  obtain ⟨w, hw⟩ : ∃ w, w = belowV (belowA b 20) 300 := ⟨_, rfl⟩
  obtain ⟨c, hc⟩ : ∃ c, c = belowA (belowA b 20) 300 := ⟨_, rfl⟩
  rw [← hu, ← hw, ← hc]
  rw [← hu] at h1
  rw [← hw] at h2
  clear hu hw hc
  obtain ⟨e, he⟩ : ∃ e, e = ofA c [[0], [u], [w]] := ⟨_, rfl⟩
  rw [← he]
  clear he
  have h3 := ofV_three' c 0 u w
  have h4 := belowV_in e 6
  obtain ⟨x, hx⟩ : ∃ x, x = belowV e 6 := ⟨_, rfl⟩
  rw [← hx] at h4 ⊢
  clear hx
  have h5 := ofV_two (belowA e 6) 0 x
  generalize ofV c [[0], [u], [w]] = s at *
  generalize ofV (belowA e 6) [[0], [x]] = t at *
  omega
def lotS (L : Rows) (k : Nat) : Int := sumF (fun i => cell L i 0) k
def lotW (L : Rows) (k : Nat) : Int := sumF (fun i => cell L i 1) k
noncomputable def lotD (d : Int) (L : Rows) (i : Nat) : Int := shr (min d (lotW L L.length)) (lotW L L.length) (fun i => cell L i 1) L.length i + shr (d - min d (lotW L L.length)) (lotS L L.length) (fun i => cell L i 0) L.length i
structure LotOk (d : Int) (L : Rows) : Prop where
  l : L.length ≤ 20
  c : ∀ i, i < L.length → 0 ≤ cell L i 0 ∧ cell L i 0 ≤ 10000 ∧ 0 ≤ cell L i 1 ∧ cell L i 1 ≤ 10000
  d : 0 ≤ d ∧ d ≤ lotS L L.length + lotW L L.length
theorem plain_fnD (n : Nat) (f : Nat → Int) : PlainE n (.fn fun i => [SV.i .i64 (f i)]) := by
  intro i _ y hy
  simp only [El.at, List.mem_cons, List.not_mem_nil, or_false] at hy
  subst hy
  trivial

noncomputable def F_LotsOf : FnE := ⟨5, (some [.i .u64]), [i64], fun l => match l with | [.z a, .z most] => 0 ≤ most ∧ most ≤ 1000 | _ => False, fun l => match l with | [.z a, .z most] => [.gsl 0 (belowV a (most + 1)).toNat 2 true] | _ => [], fun l => match l with | [.z a, .z most] => [.gr (belowV a (most + 1)).toNat 2 (.fn (Rv.elemOf [.i64, .i64] (itR ltQ ltR (belowA a (most + 1)) (belowV a (most + 1)).toNat))) .gr true] | _ => [], fun l => match l with | [.z a, .z most] => [.i .u64 (itQ ltQ (belowA a (most + 1)) (belowV a (most + 1)).toNat)] | _ => [], false, none⟩
noncomputable def A_LotsOf : List SV → List Dat → Nat → List SV → Ann := fun xs ds n ts => match xs with
  | [.agg _, .i _ _] => match ds with
    | [.z a, .z most] => match n with
      | 3 => ⟨Nat, fun k => [some (SV.ptr ((0 : Nat)) ((0 : Nat))), none, none, none, some (SV.v (Value.slice none ((0 : Nat)) ((0 : Nat)))), some (.gsl 1 k 2 true), some (.i .i64 (belowV a (most + 1) - k)), none, none, none, none, none, none, none, none, none, none, none, none, none, none, none, none, none, none, none, none, none, none, none, none, none], fun k => [.gr k 2 (.fn (Rv.elemOf [.i64, .i64] (itR ltQ ltR (belowA a (most + 1)) k))) .gr true, .cells [.i .u64 (itQ ltQ (belowA a (most + 1)) k)] .ex], fun k => (k : Int) ≤ belowV a (most + 1), fun k => (belowV a (most + 1) - k).toNat, 0⟩
      | _ => noAnn
    | _ => noAnn
  | _ => noAnn

def V_LotsOf : Prop :=
  ∀ (B : RW) (n n_1 : Int), F_LotsOf.pre ([Dat.z n] ++ ([Dat.z n_1] ++ [])) → Ob (InR .i64 (n_1 + (1 : Int))) ∧ Ob (F_Below.named.pre ([Dat.z n] ++ [Dat.z (n_1 + (1 : Int))])) ∧ ∀ (v : Int), v = belowA n (n_1 + (1 : Int))
  → ∀ (v_1 : Int), v_1 = belowV n (n_1 + (1 : Int)) → (∃ (a : Nat), Ob ((↑a : Int) ≤ belowV n (n_1 + (1 : Int))) ∧ Ob (SV.v (Value.slice none 0 0) = SV.v (Value.slice none 0 0)) ∧ Ob (a = (0 : Nat)) ∧ Ob (v_1 = belowV n
  (n_1 + (1 : Int)) - (↑a : Int)) ∧ Ob (a = (0 : Nat)) ∧ Ob (v = itQ ltQ (belowA n (n_1 + (1 : Int))) a) ∧ Ob (PlainE a (El.fn (Rv.elemOf [.i64, .i64] (itR ltQ ltR (belowA n (n_1 + (1 : Int))) a)))) ∧ True) ∧ ∀ (a : Nat),
  (↑a : Int) ≤ belowV n (n_1 + (1 : Int)) → ∀ (z z_1 z_2 z_3 z_4 z_5 z_6 z_7 z_8 z_9 z_10 z_11 z_12 z_13 z_14 z_15 z_16 z_17 z_18 z_19 z_20 z_21 z_22 z_23 z_24 z_25 z_26 z_27 : Value), ((0 : Int) < belowV n (n_1 + (1 :
  Int)) - (↑a : Int) → Ob (F_Below.named.pre ([Dat.z (itQ ltQ (belowA n (n_1 + (1 : Int))) a)] ++ [Dat.z (20 : Int)])) ∧ ∀ (v_2 : Int), v_2 = belowA (itQ ltQ (belowA n (n_1 + (1 : Int))) a) (20 : Int) → ∀ (v_3 : Int), v_3
  = belowV (itQ ltQ (belowA n (n_1 + (1 : Int))) a) (20 : Int) → Ob (F_Below.named.pre ([Dat.z v_2] ++ [Dat.z (300 : Int)])) ∧ ∀ (v_4 : Int), v_4 = belowA v_2 (300 : Int) → ∀ (v_5 : Int), v_5 = belowV v_2 (300 : Int) → Ob
  (F_Of.named.pre ([Dat.z v_4] ++ [Dat.l [[(0 : Int)], [v_3], [v_5]]])) ∧ ∀ (v_6 : Int), v_6 = ofA v_4 [[(0 : Int)], [v_3], [v_5]] → ∀ (v_7 : Int), v_7 = ofV v_4 [[(0 : Int)], [v_3], [v_5]] → Ob (F_Below.named.pre ([Dat.z
  v_6] ++ [Dat.z (6 : Int)])) ∧ ∀ (v_8 : Int), v_8 = belowA v_6 (6 : Int) → ∀ (v_9 : Int), v_9 = belowV v_6 (6 : Int) → Ob (F_Of.named.pre ([Dat.z v_8] ++ [Dat.l [[(0 : Int)], [v_9]]])) ∧ ∀ (v_10 : Int), v_10 = ofA v_8
  [[(0 : Int)], [v_9]] → ∀ (v_11 : Int), v_11 = ofV v_8 [[(0 : Int)], [v_9]] → Ob (a = a ∧ ∀ (i : Nat), i < a → ((El.fn (Rv.elemOf [.i64, .i64] (itR ltQ ltR (belowA n (n_1 + (1 : Int))) a))).at i).length = (2 : Nat)) ∧ Ob
  ((a + (1 : Nat)) * (2 : Nat) * (17 : Nat) ≤ (1099511627776 : Nat)) ∧ Ob (a = a) ∧ Ob (InR .i64 (belowV n (n_1 + (1 : Int)) - (↑a : Int) - (1 : Int))) ∧ ∃ (a' : Nat), Ob ((↑a' : Int) ≤ belowV n (n_1 + (1 : Int)) ∧ (belowV
  n (n_1 + (1 : Int)) - (↑a' : Int)).toNat < (belowV n (n_1 + (1 : Int)) - (↑a : Int)).toNat) ∧ Ob (SV.v (Value.slice none 0 0) = SV.v (Value.slice none 0 0)) ∧ Ob (a + (1 : Nat) = a') ∧ Ob (belowV n (n_1 + (1 : Int)) -
  (↑a : Int) - (1 : Int) = belowV n (n_1 + (1 : Int)) - (↑a' : Int)) ∧ Ob (a + (1 : Nat) = a' ∧ ∀ (i : Nat), i < a' → (behind a (El.fn (Rv.elemOf [.i64, .i64] (itR ltQ ltR (belowA n (n_1 + (1 : Int))) a))) 1 (litEl (symL
  [SV.i .i64 v_7, SV.i .i64 v_11]) 2 1)).at i = (El.fn (Rv.elemOf [.i64, .i64] (itR ltQ ltR (belowA n (n_1 + (1 : Int))) a'))).at i) ∧ Ob (v_10 = itQ ltQ (belowA n (n_1 + (1 : Int))) a') ∧ Ob (PlainE a' (El.fn (Rv.elemOf
  [.i64, .i64] (itR ltQ ltR (belowA n (n_1 + (1 : Int))) a')))) ∧ True) ∧ (¬(0 : Int) < belowV n (n_1 + (1 : Int)) - (↑a : Int) → Ob (a = (belowV n (n_1 + (1 : Int))).toNat) ∧ Ob (a = (belowV n (n_1 + (1 : Int))).toNat ∧ ∀
  (i : Nat), i < (belowV n (n_1 + (1 : Int))).toNat → (El.fn (Rv.elemOf [.i64, .i64] (itR ltQ ltR (belowA n (n_1 + (1 : Int))) a))).at i = (El.fn (Rv.elemOf [.i64, .i64] (itR ltQ ltR (belowA n (n_1 + (1 : Int))) (belowV n
  (n_1 + (1 : Int))).toNat))).at i) ∧ Ob (itQ ltQ (belowA n (n_1 + (1 : Int))) a = itQ ltQ (belowA n (n_1 + (1 : Int))) (belowV n (n_1 + (1 : Int))).toNat) ∧ Ob (PlainE (belowV n (n_1 + (1 : Int))).toNat (El.fn (Rv.elemOf
  [.i64, .i64] (itR ltQ ltR (belowA n (n_1 + (1 : Int))) (belowV n (n_1 + (1 : Int))).toNat)))) ∧ True)

set_option linter.unusedSimpArgs false in
set_option maxRecDepth 4000 in
set_option maxHeartbeats 400000 in
theorem v_LotsOf : V_LotsOf := by
  unfold V_LotsOf
  intro B a most h
  have h : 0 ≤ most ∧ most ≤ 1000 := h
  simp only [F_Below, F_Of, FnE.named, List.cons_append, List.nil_append, Ob_iff, and_true, true_and] at ⊢
  have hN := belowV_in a (most + 1)
  obtain ⟨M, hM⟩ : ∃ M, M = belowV a (most + 1) := ⟨_, rfl⟩
  rw [← hM] at hN ⊢
  have hN : 0 ≤ M ∧ M ≤ most := by omega
  refine ⟨by simp only [InR]; omega, by omega, ?_⟩
  intro v hv v1 hv1
  obtain rfl : v1 = M := hv1
  clear hM
  obtain ⟨q, hq⟩ : ∃ q, belowA a (most + 1) = q := ⟨_, rfl⟩
  rw [hq] at hv ⊢
  subst hv
  clear hq
  refine ⟨⟨0, by omega, ?_⟩, ?_⟩
  · repeat' (with_reducible apply And.intro)
    all_goals first | exact plain_elemOf _ _ _ | trivial | omega | rfl
  intro k hk
  intros
  obtain ⟨b, hb⟩ : ∃ b, itQ ltQ v k = b := ⟨_, rfl⟩
  refine ⟨fun h1 => ?_, fun h1 => ?_⟩
  · rw [hb]
    refine ⟨by omega, ?_⟩
    intro v2 hv2 v3 hv3
    refine ⟨by omega, ?_⟩
    intro v4 hv4 v5 hv5
    refine ⟨by simp, ?_⟩
    intro v6 hv6 v7 hv7
    refine ⟨by omega, ?_⟩
    intro v8 hv8 v9 hv9
    refine ⟨by simp, ?_⟩
    intro v10 hv10 v11 hv11
    have eR : ltR b = [v7, v11] := by
      unfold ltR
      rw [hv11, hv9, hv8, hv7, hv6, hv5, hv4, hv3, hv2]
    have eQ : ltQ b = v10 := by
      unfold ltQ
      rw [hv10, hv9, hv8, hv6, hv5, hv4, hv3, hv2]
    clear hv2 hv3 hv4 hv5 hv6 hv7 hv8 hv9 hv10 hv11
    have hl := it_len ltQ ltR v k
    have hs : ∀ i, i < k + 1 → (behind k (.fn (Rv.elemOf [.i64, .i64] (itR ltQ ltR v k))) 1 (litEl [SV.i .i64 v7, SV.i .i64 v11] 2 1)).at i = (El.fn (Rv.elemOf [.i64, .i64] (itR ltQ ltR v (k + 1)))).at i := fun i hi => by
      have := snoc2_at (R := itR ltQ ltR v k) (j := .i64) (k := .i64) (a := v7) (b := v11) (i := i) (by omega)
      rw [hl] at this
      rw [itR_succ, hb, eR]
      exact this
    have e2 : v10 = itQ ltQ v (k + 1) := by rw [itQ_succ, hb, eQ]
    clear eR eQ
    have e3 : (v1 - ((k + 1 : Nat) : Int)).toNat < (v1 - (k : Int)).toNat := by omega
    exact ⟨fun i hi => rfl, by omega, by simp only [InR]; omega, k + 1, ⟨by omega, e3⟩, rfl, by omega, ⟨rfl, hs⟩, e2, plain_elemOf _ _ _⟩
  · have e : k = v1.toNat := by omega
    subst e
    repeat' (with_reducible apply And.intro)
    all_goals first | exact plain_elemOf _ _ _ | trivial | rfl | exact fun _ _ => rfl

theorem e_LotsOf : V_LotsOf = needE P [] [F_Below.named, F_Of.named] A_LotsOf F_LotsOf := by kernel_rfl

theorem n_LotsOf : Ob (needE P [] [F_Below.named, F_Of.named] A_LotsOf F_LotsOf) := by
  rw [← e_LotsOf]
  exact ⟨v_LotsOf⟩

theorem b_LotsOf : ((P.funcs[5]?).any fun fn => fn.body.isSome) = true := by kernel_rfl

theorem LotsOf_ok : FnE.Ok P F_LotsOf := FnE.ok named (l := []) (es := [F_Below.named, F_Of.named]) (A := A_LotsOf) (by rfl) (by rfl) (by rfl) (by
  intro F h; simp at h) (by
  intro F h
  simp only [List.mem_cons, List.not_mem_nil, or_false] at h
  rcases h with rfl | rfl
  · exact Below_ok.named
  · exact Of_ok.named
) b_LotsOf (by
  intro ds h o ho n sz e k z he
  subst he
  simp only [F_LotsOf] at ho
  split at ho
  · simp only [List.mem_cons, List.not_mem_nil, or_false, SObj.gr.injEq] at ho
    obtain ⟨rfl, rfl, rfl, rfl, rfl⟩ := ho
    exact plain_elemOf _ _ _
  · simp at ho) n_LotsOf

end Go.Proofs.Ythgpjpjflgeokaa.Sy
