/- Edges of a tide. -/
import Derived.Test.YthlodlileecmdaaDoorSyP2
import Derived.Test.YthlodlileecmdaaDoorGrM
import Derived.Test.YthlodlileecmdaaDoorCtT
import Derived.Test.YthlodlileecmdaaDoorCtA
import Derived.Test.YthlodlileecmdaaDoorCtU
import Derived.Test.YthlodlileecmdaaDoorSyP2
import Derived.KernelRfl
import Derived.Test.YthlodlileecmdaaDoorProg
namespace Go.Proofs.YthlodlileecmdaaDoor.Sy
open Go Go.Rv
set_option linter.unusedVariables false

def edN (a most : Int) : Int := 2 + belowV (belowA a 300) (most + 1 - 2 + 1)
def edA (a most : Int) : Int := belowA (belowA a 300) (most + 1 - 2 + 1)
def edQ (q : Int) : Nat → Int
  | 0 => q
  | k + 1 => belowA (ofA (edQ q k) [[5], [60]]) (ofV (edQ q k) [[5], [60]] - 1 + 1)
def edV (q v : Int) : Nat → Int
  | 0 => v
  | k + 1 => edV q v k + (1 + belowV (ofA (edQ q k) [[5], [60]]) (ofV (edQ q k) [[5], [60]] - 1 + 1))
def edR (q v : Int) : Nat → Rows
  | 0 => []
  | k + 1 => edR q v k ++ [[edV q v k]]
theorem edR_len (q v : Int) : ∀ k, (edR q v k).length = k
  | 0 => rfl
  | k + 1 => by simp [edR, edR_len q v k]
theorem edR_row (q v : Int) : ∀ k, ∀ r ∈ edR q v k, r.length = 1
  | 0 => by simp [edR]
  | k + 1 => by
    intro r hr
    simp only [edR, List.mem_append, List.mem_singleton] at hr
    rcases hr with hr | rfl
    · exact edR_row q v k r hr
    · rfl
theorem ed_step (q : Int) : ∀ k, 1 ≤ ofV (edQ q k) [[5], [60]] ∧ ofV (edQ q k) [[5], [60]] ≤ 60 ∧ 0 ≤ belowV (ofA (edQ q k) [[5], [60]]) (ofV (edQ q k) [[5], [60]] - 1 + 1) ∧ belowV (ofA (edQ q k) [[5], [60]]) (ofV (edQ q k) [[5], [60]] - 1 + 1) ≤ 60 := by
  intro k
  have h := ofV_two (edQ q k) 5 60
  have h2 := belowV_in (ofA (edQ q k) [[5], [60]]) (ofV (edQ q k) [[5], [60]] - 1 + 1)
  generalize belowV (ofA (edQ q k) [[5], [60]]) (ofV (edQ q k) [[5], [60]] - 1 + 1) = y at *
  generalize ofV (edQ q k) [[5], [60]] = x at *
  omega
theorem edV_bd (q v : Int) (h0 : 0 ≤ v) (h1 : v ≤ 300) : ∀ k : Nat, 0 ≤ edV q v k ∧ edV q v k ≤ 300 + 61 * k
  | 0 => by simp only [edV]; omega
  | k + 1 => by
    have ih := edV_bd q v h0 h1 k
    have h := ed_step q k
    simp only [edV]
    generalize belowV (ofA (edQ q k) [[5], [60]]) (ofV (edQ q k) [[5], [60]] - 1 + 1) = y at *
    generalize edV q v k = z at *
    generalize ofV (edQ q k) [[5], [60]] = x at *
    omega
theorem edN_in (a : Int) {most : Int} (h : 1 ≤ most) : 2 ≤ edN a most ∧ edN a most ≤ most + 1 := by
  have h2 := belowV_in (belowA a 300) (most + 1 - 2 + 1)
  unfold edN
  generalize belowV (belowA a 300) (most + 1 - 2 + 1) = y at *
  omega

noncomputable def F_EdgesOf : FnE := ⟨24, (some [.i .u64]), [i64], fun l => match l with | [.z a, .z most] => 1 ≤ most ∧ most ≤ 100 | _ => False, fun l => match l with | [.z a, .z most] => [.gsl 0 (edN a most).toNat 1 true] | _ => [], fun l => match l with | [.z a, .z most] => [.gr (edN a most).toNat 1 (.fn (Rv.elemOf [.i64] (edR (edA a most) (belowV a 300) (edN a most).toNat))) .gr true] | _ => [], fun l => match l with | [.z a, .z most] => [.i .u64 (edQ (edA a most) (edN a most).toNat)] | _ => [], false⟩
noncomputable def A_EdgesOf : List SV → List Dat → Nat → List SV → Ann := fun xs ds n ts => match xs with
  | [.agg _, .i _ _] => match ds with
    | [.z a, .z most] => match n with
      | 4 => ⟨Nat, fun k => [some (SV.ptr ((0 : Nat)) ((0 : Nat))), none, none, none, some (SV.v (Value.slice none ((0 : Nat)) ((0 : Nat)))), some (.gsl 1 k 1 true), some (.i .i64 (edV (edA a most) (belowV a 300) k)), some (.i .i64 (edN a most - k)), none, none, none, none, none, none, none, none, none, none, none, none, none, none, none, none, none, none, none, none, none, none], fun k => [.gr k 1 (.fn (Rv.elemOf [.i64] (edR (edA a most) (belowV a 300) k))) .gr true, .cells [.i .u64 (edQ (edA a most) k)] .ex], fun k => (k : Int) ≤ edN a most, fun k => (edN a most - k).toNat, 0⟩
      | _ => noAnn
    | _ => noAnn
  | _ => noAnn

def V_EdgesOf : Prop :=
  ∀ (B : RW) (n n_1 : Int), F_EdgesOf.pre ([Dat.z n] ++ ([Dat.z n_1] ++ [])) → Ob (F_Below.named.pre ([Dat.z n] ++ [Dat.z (300 : Int)])) ∧ ∀ (v : Int), v = belowA n (300 : Int) → ∀ (v_1 : Int), v_1 = belowV n (300 : Int) →
  Ob (InR IntKind.i64 (n_1 + (1 : Int))) ∧ Ob (F_From.named.pre ([Dat.z v] ++ [Dat.z (2 : Int), Dat.z (n_1 + (1 : Int))])) ∧ ∀ (v_2 : Int), v_2 = belowA v (n_1 + (1 : Int) - (2 : Int) + (1 : Int)) → ∀ (v_3 : Int), v_3 = (2
  : Int) + belowV v (n_1 + (1 : Int) - (2 : Int) + (1 : Int)) → (∃ (a : Nat), Ob ((↑a : Int) ≤ edN n n_1) ∧ Ob (SV.v (Value.slice none ((0 : Nat)) ((0 : Nat))) = SV.v (Value.slice none ((0 : Nat)) ((0 : Nat)))) ∧ Ob (a =
  (0 : Nat)) ∧ Ob (v_1 = edV (edA n n_1) (belowV n (300 : Int)) a) ∧ Ob (v_3 = edN n n_1 - (↑a : Int)) ∧ Ob (a = (0 : Nat)) ∧ Ob (v_2 = edQ (edA n n_1) a) ∧ Ob (PlainE a (El.fn (Rv.elemOf [IntKind.i64] (edR (edA n n_1)
  (belowV n (300 : Int)) a)))) ∧ True) ∧ ∀ (a : Nat), (↑a : Int) ≤ edN n n_1 → ∀ (z z_1 z_2 z_3 z_4 z_5 z_6 z_7 z_8 z_9 z_10 z_11 z_12 z_13 z_14 z_15 z_16 z_17 z_18 z_19 z_20 z_21 z_22 z_23 z_24 : Value), ((0 : Int) < edN
  n n_1 - (↑a : Int) → Ob (a = a ∧ ∀ (i : Nat), i < a → ((El.fn (Rv.elemOf [IntKind.i64] (edR (edA n n_1) (belowV n (300 : Int)) a))).at i).length = (1 : Nat)) ∧ Ob ((a + (1 : Nat)) * (2 : Nat) * (9 : Nat) ≤ (1099511627776
  : Nat)) ∧ Ob (a = a) ∧ Ob (F_Of.named.pre ([Dat.z (edQ (edA n n_1) a)] ++ [Dat.l [[(5 : Int)], [(60 : Int)]]])) ∧ ∀ (v_4 : Int), v_4 = ofA (edQ (edA n n_1) a) [[(5 : Int)], [(60 : Int)]] → ∀ (v_5 : Int), v_5 = ofV (edQ
  (edA n n_1) a) [[(5 : Int)], [(60 : Int)]] → Ob (F_From.named.pre ([Dat.z v_4] ++ [Dat.z (1 : Int), Dat.z v_5])) ∧ ∀ (v_6 : Int), v_6 = belowA v_4 (v_5 - (1 : Int) + (1 : Int)) → ∀ (v_7 : Int), v_7 = (1 : Int) + belowV
  v_4 (v_5 - (1 : Int) + (1 : Int)) → Ob (InR IntKind.i64 (edV (edA n n_1) (belowV n (300 : Int)) a + v_7)) ∧ Ob (InR IntKind.i64 (edN n n_1 - (↑a : Int) - (1 : Int))) ∧ ∃ (a' : Nat), Ob ((↑a' : Int) ≤ edN n n_1 ∧ (edN n
  n_1 - (↑a' : Int)).toNat < (edN n n_1 - (↑a : Int)).toNat) ∧ Ob (SV.v (Value.slice none ((0 : Nat)) ((0 : Nat))) = SV.v (Value.slice none ((0 : Nat)) ((0 : Nat)))) ∧ Ob (a + (1 : Nat) = a') ∧ Ob (edV (edA n n_1) (belowV
  n (300 : Int)) a + v_7 = edV (edA n n_1) (belowV n (300 : Int)) a') ∧ Ob (edN n n_1 - (↑a : Int) - (1 : Int) = edN n n_1 - (↑a' : Int)) ∧ Ob (a + (1 : Nat) = a' ∧ ∀ (i : Nat), i < a' → (behind a (El.fn (Rv.elemOf
  [IntKind.i64] (edR (edA n n_1) (belowV n (300 : Int)) a))) ((1 : Nat)) (litEl [SV.i IntKind.i64 (edV (edA n n_1) (belowV n (300 : Int)) a)] ((1 : Nat)) ((1 : Nat)))).at i = (El.fn (Rv.elemOf [IntKind.i64] (edR (edA n
  n_1) (belowV n (300 : Int)) a'))).at i) ∧ Ob (v_6 = edQ (edA n n_1) a') ∧ Ob (PlainE a' (El.fn (Rv.elemOf [IntKind.i64] (edR (edA n n_1) (belowV n (300 : Int)) a')))) ∧ True) ∧ (¬(0 : Int) < edN n n_1 - (↑a : Int) → Ob
  (a = (edN n n_1).toNat) ∧ Ob (a = (edN n n_1).toNat ∧ ∀ (i : Nat), i < (edN n n_1).toNat → (El.fn (Rv.elemOf [IntKind.i64] (edR (edA n n_1) (belowV n (300 : Int)) a))).at i = (El.fn (Rv.elemOf [IntKind.i64] (edR (edA n
  n_1) (belowV n (300 : Int)) (edN n n_1).toNat))).at i) ∧ Ob (edQ (edA n n_1) a = edQ (edA n n_1) (edN n n_1).toNat) ∧ Ob (PlainE (edN n n_1).toNat (El.fn (Rv.elemOf [IntKind.i64] (edR (edA n n_1) (belowV n (300 : Int))
  (edN n n_1).toNat)))) ∧ True)

set_option linter.unusedSimpArgs false in
set_option maxRecDepth 4000 in
set_option maxHeartbeats 400000 in
theorem v_EdgesOf : V_EdgesOf := by
  unfold V_EdgesOf
  intro B a most hm
  have hm : 1 ≤ most ∧ most ≤ 100 := hm
  have hN := edN_in a hm.1
  have hx0 := belowV_in a 300
  simp only [Ob_iff]
  refine ⟨by show (300 : Int) ≤ 9223372036854775807; omega, ?_⟩
  intro v hv v1 hv1
  refine ⟨by simp only [InR]; omega, by show _ ∧ _ ∧ _ ∧ _; omega, ?_⟩
  intro v2 hv2 v3 hv3
  rw [hv] at hv2 hv3
  replace hv2 : v2 = edA a most := hv2
  replace hv3 : v3 = edN a most := hv3
  obtain ⟨q, hq⟩ : ∃ q, edA a most = q := ⟨_, rfl⟩
  obtain ⟨N, hNe⟩ : ∃ N, edN a most = N := ⟨_, rfl⟩
  obtain ⟨x, hxe⟩ : ∃ x, belowV a 300 = x := ⟨_, rfl⟩
  rw [hq] at hv2
  rw [hNe] at hv3 hN
  rw [hxe] at hx0 hv1
  rw [hq, hNe, hxe]
  clear hq hNe hxe hv
  subst hv1 hv2 hv3
  have pz : ∀ n k, PlainE n (El.fn (Rv.elemOf [.i64] (edR v2 v1 k))) := fun n k => plain_elemOf _ _ _
  refine ⟨⟨0, ?_⟩, ?_⟩
  · repeat' (with_reducible apply And.intro)
    all_goals first | exact pz _ _ | trivial | omega | rfl
  intro k hk
  intros
  have hs := ed_step v2 k
  have hb := edV_bd v2 v1 (by omega) (by omega) k
  have eV : edV v2 v1 (k + 1) = edV v2 v1 k + (1 + belowV (ofA (edQ v2 k) [[5], [60]]) (ofV (edQ v2 k) [[5], [60]] - 1 + 1)) := rfl
  have eQ : edQ v2 (k + 1) = belowA (ofA (edQ v2 k) [[5], [60]]) (ofV (edQ v2 k) [[5], [60]] - 1 + 1) := rfl
  have hl := edR_len v2 v1 k
  refine ⟨fun h1 => ⟨⟨trivial, fun _ _ => rfl⟩, by omega, trivial, by show (2 : Nat) ≤ 1000; omega, ?_⟩, fun h1 => ?_⟩
  · intro v4 hv4 v5 hv5
    refine ⟨by show _ ∧ _ ∧ _ ∧ _; omega, ?_⟩
    intro v6 hv6 v7 hv7
    rw [← hv4, ← hv5] at eV eQ hs
    rw [← hv6] at eQ
    rw [← hv7] at eV
    have hv7b : 1 ≤ v7 ∧ v7 ≤ 61 := by omega
    clear hv4 hv5 hv6 hv7 hs
    have i1 : InR .i64 (edV v2 v1 k + v7) := by simp only [InR]; omega
    have i2 : InR .i64 (v3 - (k : Int) - 1) := by simp only [InR]; omega
    have sn : ∀ i, i < k + 1 → (behind k (.fn (Rv.elemOf [.i64] (edR v2 v1 k))) 1 (litEl [SV.i .i64 (edV v2 v1 k)] 1 1)).at i = (El.fn (Rv.elemOf [.i64] (edR v2 v1 (k + 1)))).at i := fun i hi => by
      have := snoc_at (R := edR v2 v1 k) (ks := [.i64]) (r := [edV v2 v1 k]) (cs := [SV.i .i64 (edV v2 v1 k)]) rfl (i := i) (by omega)
      rw [hl] at this
      exact this
    refine ⟨i1, i2, k + 1, ⟨by omega, by omega⟩, ?_⟩
    repeat' (with_reducible apply And.intro)
    all_goals first | exact pz _ _ | exact sn | exact eV.symm | exact eQ.symm | trivial | rfl | omega
  · have e : k = v3.toNat := by omega
    subst e
    repeat' (with_reducible apply And.intro)
    all_goals first | exact pz _ _ | trivial | rfl | exact fun _ _ => rfl

theorem e_EdgesOf : V_EdgesOf = needE P [] [F_Below.named, F_From.named, F_Of.named] A_EdgesOf F_EdgesOf := by kernel_rfl

theorem n_EdgesOf : Ob (needE P [] [F_Below.named, F_From.named, F_Of.named] A_EdgesOf F_EdgesOf) := by
  rw [← e_EdgesOf]
  exact ⟨v_EdgesOf⟩

theorem b_EdgesOf : ((P.funcs[24]?).any fun fn => fn.body.isSome) = true := by kernel_rfl

theorem EdgesOf_ok : FnE.Ok P F_EdgesOf := FnE.ok named (l := []) (es := [F_Below.named, F_From.named, F_Of.named]) (A := A_EdgesOf) (by rfl) (by rfl) (by rfl) (by
  intro F h; simp at h) (by
  intro F h
  simp only [List.mem_cons, List.not_mem_nil, or_false] at h
  rcases h with rfl | rfl | rfl
  · exact Below_ok.named
  · exact From_ok.named
  · exact Of_ok.named
) b_EdgesOf (by
  intro ds h o ho n sz e k z he
  subst he
  simp only [F_EdgesOf] at ho
  split at ho
  · simp only [List.mem_cons, List.not_mem_nil, or_false, SObj.gr.injEq] at ho
    obtain ⟨rfl, rfl, rfl, rfl, rfl⟩ := ho
    exact plain_elemOf _ _ _
  · simp at ho) n_EdgesOf

end Go.Proofs.YthlodlileecmdaaDoor.Sy
