/- Lists of animals of a tide. -/
import Derived.Test.YthlodlileecmdaaDoorSyP2
import Derived.Test.YthlodlileecmdaaDoorGrM
import Derived.Test.YthlodlileecmdaaDoorCtT
import Derived.Test.YthlodlileecmdaaDoorCtA
import Derived.Test.YthlodlileecmdaaDoorCtU
import Derived.Test.YthlodlileecmdaaDoorSyP2
import Derived.KernelRfl
import Derived.Test.YthlodlileecmdaaDoorProg
namespace Go.Proofs.YthlodlileecmdaaDoor.Sy
open Go Go.Rv
set_option linter.unusedVariables false

noncomputable def cgRow (a : Int) : List Int := [cgLo a, cgHi a, trSex a, cgEg a, cgNo a, trSh a]
noncomputable def hdQ (a : Int) : Nat → Int
  | 0 => a
  | k + 1 => cgQ (hdQ a k)
noncomputable def hdR (a : Int) : Nat → Rows
  | 0 => []
  | k + 1 => hdR a k ++ [cgRow (hdQ a k)]
theorem hdR_len (a : Int) : ∀ k, (hdR a k).length = k
  | 0 => rfl
  | k + 1 => by simp [hdR, hdR_len a k]
theorem hdR_row (a : Int) : ∀ k, ∀ r ∈ hdR a k, r.length = 6
  | 0 => by simp [hdR]
  | k + 1 => by
    intro r hr
    simp only [hdR, List.mem_append, List.mem_singleton] at hr
    rcases hr with hr | rfl
    · exact hdR_row a k r hr
    · rfl
def hdN (a most : Int) : Int := belowV a (most + 1)
def hdA (a most : Int) : Int := belowA a (most + 1)
theorem hdN_in (a : Int) {most : Int} (h : 0 ≤ most) : 0 ≤ hdN a most ∧ hdN a most ≤ most := by
  have := belowV_in a (most + 1)
  unfold hdN
  generalize belowV a (most + 1) = x at *
  omega

noncomputable def F_Herded : FnE := ⟨22, (some [.i .u64]), [i64], fun l => match l with | [.z a, .z most] => 0 ≤ most ∧ most ≤ 100 | _ => False, fun l => match l with | [.z a, .z most] => [.gsl 0 (hdN a most).toNat 6 true] | _ => [], fun l => match l with | [.z a, .z most] => [.gr (hdN a most).toNat 6 (.fn (Rv.elemOf [.i64, .i64, .i64, .i64, .i64, .i64] (hdR (hdA a most) (hdN a most).toNat))) .gr true] | _ => [], fun l => match l with | [.z a, .z most] => [.i .u64 (hdQ (hdA a most) (hdN a most).toNat)] | _ => [], false⟩
noncomputable def A_Herded : List SV → List Dat → Nat → List SV → Ann := fun xs ds n ts => match xs with
  | [.agg _, .i _ _] => match ds with
    | [.z a, .z most] => match n with
      | 3 => ⟨Nat, fun k => [some (SV.ptr ((0 : Nat)) ((0 : Nat))), none, none, none, some (SV.v (Value.slice none ((0 : Nat)) ((0 : Nat)))), some (.gsl 1 k 6 true), some (.i .i64 (hdN a most - k)), none, none, none, none, none, none, none, none, none, none, none, none, none, none], fun k => [.gr k 6 (.fn (Rv.elemOf [.i64, .i64, .i64, .i64, .i64, .i64] (hdR (hdA a most) k))) .gr true, .cells [.i .u64 (hdQ (hdA a most) k)] .ex], fun k => (k : Int) ≤ hdN a most, fun k => (hdN a most - k).toNat, 0⟩
      | _ => noAnn
    | _ => noAnn
  | _ => noAnn

def V_Herded : Prop :=
  ∀ (B : RW) (n n_1 : Int), F_Herded.pre ([Dat.z n] ++ ([Dat.z n_1] ++ [])) → Ob (InR IntKind.i64 (n_1 + (1 : Int))) ∧ Ob (F_Below.named.pre ([Dat.z n] ++ [Dat.z (n_1 + (1 : Int))])) ∧ ∀ (v : Int), v = belowA n (n_1 + (1 :
  Int)) → ∀ (v_1 : Int), v_1 = belowV n (n_1 + (1 : Int)) → (∃ (a : Nat), Ob ((↑a : Int) ≤ hdN n n_1) ∧ Ob (SV.v (Value.slice none ((0 : Nat)) ((0 : Nat))) = SV.v (Value.slice none ((0 : Nat)) ((0 : Nat)))) ∧ Ob (a = (0 :
  Nat)) ∧ Ob (v_1 = hdN n n_1 - (↑a : Int)) ∧ Ob (a = (0 : Nat)) ∧ Ob (v = hdQ (hdA n n_1) a) ∧ Ob (PlainE a (El.fn (Rv.elemOf [IntKind.i64, IntKind.i64, IntKind.i64, IntKind.i64, IntKind.i64, IntKind.i64] (hdR (hdA n n_1)
  a)))) ∧ True) ∧ ∀ (a : Nat), (↑a : Int) ≤ hdN n n_1 → ∀ (z z_1 z_2 z_3 z_4 z_5 z_6 z_7 z_8 z_9 z_10 z_11 z_12 z_13 z_14 z_15 z_16 : Value), ((0 : Int) < hdN n n_1 - (↑a : Int) → Ob (F_CaughtOf.named.pre ([Dat.z (hdQ (hdA
  n n_1) a)] ++ [])) ∧ ∀ (v_2 : Int), v_2 = cgQ (hdQ (hdA n n_1) a) → ∀ (v_3 : Int), v_3 = cgLo (hdQ (hdA n n_1) a) → ∀ (v_4 : Int), v_4 = cgHi (hdQ (hdA n n_1) a) → ∀ (v_5 : Int), v_5 = trSex (hdQ (hdA n n_1) a) → ∀ (v_6
  : Int), v_6 = cgEg (hdQ (hdA n n_1) a) → ∀ (v_7 : Int), v_7 = cgNo (hdQ (hdA n n_1) a) → ∀ (v_8 : Int), v_8 = trSh (hdQ (hdA n n_1) a) → Ob (a = a ∧ ∀ (i : Nat), i < a → ((El.fn (Rv.elemOf [IntKind.i64, IntKind.i64,
  IntKind.i64, IntKind.i64, IntKind.i64, IntKind.i64] (hdR (hdA n n_1) a))).at i).length = (6 : Nat)) ∧ Ob ((a + (1 : Nat)) * (2 : Nat) * (49 : Nat) ≤ (1099511627776 : Nat)) ∧ Ob (a = a) ∧ Ob (InR IntKind.i64 (hdN n n_1 -
  (↑a : Int) - (1 : Int))) ∧ ∃ (a' : Nat), Ob ((↑a' : Int) ≤ hdN n n_1 ∧ (hdN n n_1 - (↑a' : Int)).toNat < (hdN n n_1 - (↑a : Int)).toNat) ∧ Ob (SV.v (Value.slice none ((0 : Nat)) ((0 : Nat))) = SV.v (Value.slice none ((0
  : Nat)) ((0 : Nat)))) ∧ Ob (a + (1 : Nat) = a') ∧ Ob (hdN n n_1 - (↑a : Int) - (1 : Int) = hdN n n_1 - (↑a' : Int)) ∧ Ob (a + (1 : Nat) = a' ∧ ∀ (i : Nat), i < a' → (behind a (El.fn (Rv.elemOf [IntKind.i64, IntKind.i64,
  IntKind.i64, IntKind.i64, IntKind.i64, IntKind.i64] (hdR (hdA n n_1) a))) ((1 : Nat)) (litEl [SV.i IntKind.i64 v_3, SV.i IntKind.i64 v_4, SV.i IntKind.i64 v_5, SV.i IntKind.i64 v_6, SV.i IntKind.i64 v_7, SV.i IntKind.i64
  v_8] ((6 : Nat)) ((1 : Nat)))).at i = (El.fn (Rv.elemOf [IntKind.i64, IntKind.i64, IntKind.i64, IntKind.i64, IntKind.i64, IntKind.i64] (hdR (hdA n n_1) a'))).at i) ∧ Ob (v_2 = hdQ (hdA n n_1) a') ∧ Ob (PlainE a' (El.fn
  (Rv.elemOf [IntKind.i64, IntKind.i64, IntKind.i64, IntKind.i64, IntKind.i64, IntKind.i64] (hdR (hdA n n_1) a')))) ∧ True) ∧ (¬(0 : Int) < hdN n n_1 - (↑a : Int) → Ob (a = (hdN n n_1).toNat) ∧ Ob (a = (hdN n n_1).toNat ∧
  ∀ (i : Nat), i < (hdN n n_1).toNat → (El.fn (Rv.elemOf [IntKind.i64, IntKind.i64, IntKind.i64, IntKind.i64, IntKind.i64, IntKind.i64] (hdR (hdA n n_1) a))).at i = (El.fn (Rv.elemOf [IntKind.i64, IntKind.i64, IntKind.i64,
  IntKind.i64, IntKind.i64, IntKind.i64] (hdR (hdA n n_1) (hdN n n_1).toNat))).at i) ∧ Ob (hdQ (hdA n n_1) a = hdQ (hdA n n_1) (hdN n n_1).toNat) ∧ Ob (PlainE (hdN n n_1).toNat (El.fn (Rv.elemOf [IntKind.i64, IntKind.i64,
  IntKind.i64, IntKind.i64, IntKind.i64, IntKind.i64] (hdR (hdA n n_1) (hdN n n_1).toNat)))) ∧ True)

set_option linter.unusedSimpArgs false in
set_option maxRecDepth 4000 in
set_option maxHeartbeats 400000 in
theorem v_Herded : V_Herded := by
  unfold V_Herded
  intro B a most hm
  have hm : 0 ≤ most ∧ most ≤ 100 := hm
  simp only [F_Below, F_CaughtOf, FnE.named, List.cons_append, List.nil_append, Ob_iff, and_true, true_and] at ⊢
  have hN := hdN_in a hm.1
  obtain ⟨N, hNe⟩ : ∃ N, N = hdN a most := ⟨_, rfl⟩
  rw [← hNe] at hN
  refine ⟨by simp only [InR]; omega, by omega, ?_⟩
  intro v hv; obtain rfl : v = hdA a most := hv
  intro v hv; obtain rfl : N = v := hNe.trans hv.symm
  clear hv
  rw [← hNe]
  obtain ⟨q, hq⟩ : ∃ q, hdA a most = q := ⟨_, rfl⟩
  rw [hq]
  clear hq hNe
  refine ⟨⟨0, by omega, ?_⟩, ?_⟩
  · repeat' (with_reducible apply And.intro)
    all_goals first | exact plain_elemOf _ _ _ | trivial | omega | rfl
  intro k hk
  intros
  refine ⟨fun h1 => ?_, fun h1 => ?_⟩
  · intro v2 hv2 v3 hv3 v4 hv4 v5 hv5 v6 hv6 v7 hv7 v8 hv8
    have e2 : v2 = hdQ q (k + 1) := hv2
    have eW : [v3, v4, v5, v6, v7, v8] = cgRow (hdQ q k) := by
      rw [hv3, hv4, hv5, hv6, hv7, hv8]
      rfl
    clear hv2 hv3 hv4 hv5 hv6 hv7 hv8
    have hl := hdR_len q k
    have hs : ∀ i, i < k + 1 → (behind k (.fn (Rv.elemOf [.i64, .i64, .i64, .i64, .i64, .i64] (hdR q k))) 1 (litEl [SV.i .i64 v3, SV.i .i64 v4, SV.i .i64 v5, SV.i .i64 v6, SV.i .i64 v7, SV.i .i64 v8] 6 1)).at i = (El.fn (Rv.elemOf [.i64, .i64, .i64, .i64, .i64, .i64] (hdR q (k + 1)))).at i := fun i hi => by
      have := snoc_at (R := hdR q k) (ks := [.i64, .i64, .i64, .i64, .i64, .i64]) (r := [v3, v4, v5, v6, v7, v8]) (cs := [SV.i .i64 v3, SV.i .i64 v4, SV.i .i64 v5, SV.i .i64 v6, SV.i .i64 v7, SV.i .i64 v8]) rfl (i := i) (by omega)
      rw [hl, eW] at this
      exact this
    clear eW
    have e3 : (N - ((k + 1 : Nat) : Int)).toNat < (N - (k : Int)).toNat := by omega
    refine ⟨fun i hi => rfl, by omega, by simp only [InR]; omega, k + 1, ⟨by omega, e3⟩, rfl, by omega, ⟨rfl, hs⟩, e2, plain_elemOf _ _ _⟩
  · have e : k = N.toNat := by omega
    subst e
    repeat' (with_reducible apply And.intro)
    all_goals first | exact plain_elemOf _ _ _ | trivial | rfl | exact fun _ _ => rfl

theorem e_Herded : V_Herded = needE P [] [F_Below.named, F_CaughtOf.named] A_Herded F_Herded := by kernel_rfl

theorem n_Herded : Ob (needE P [] [F_Below.named, F_CaughtOf.named] A_Herded F_Herded) := by
  rw [← e_Herded]
  exact ⟨v_Herded⟩

theorem b_Herded : ((P.funcs[22]?).any fun fn => fn.body.isSome) = true := by kernel_rfl

theorem Herded_ok : FnE.Ok P F_Herded := FnE.ok named (l := []) (es := [F_Below.named, F_CaughtOf.named]) (A := A_Herded) (by rfl) (by rfl) (by rfl) (by
  intro F h; simp at h) (by
  intro F h
  simp only [List.mem_cons, List.not_mem_nil, or_false] at h
  rcases h with rfl | rfl
  · exact Below_ok.named
  · exact CaughtOf_ok.named
) b_Herded (by
  intro ds h o ho n sz e k z he
  subst he
  simp only [F_Herded] at ho
  split at ho
  · simp only [List.mem_cons, List.not_mem_nil, or_false, SObj.gr.injEq] at ho
    obtain ⟨rfl, rfl, rfl, rfl, rfl⟩ := ho
    exact plain_elemOf _ _ _
  · simp at ho) n_Herded

end Go.Proofs.YthlodlileecmdaaDoor.Sy
