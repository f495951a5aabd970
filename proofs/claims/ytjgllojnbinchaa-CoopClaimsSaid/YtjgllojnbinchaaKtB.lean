/- Lists of a tide. -/
import Derived.Test.YtjgllojnbinchaaSyP2
import Derived.Test.YtjgllojnbinchaaGrM
import Derived.Test.YtjgllojnbinchaaStM
import Derived.Test.YtjgllojnbinchaaKtT
import Derived.Test.YtjgllojnbinchaaKtA
import Derived.Test.YtjgllojnbinchaaSyP2
import Derived.KernelRfl
import Derived.Test.YtjgllojnbinchaaProg
namespace Go.Proofs.Ytjgllojnbinchaa.Sy
open Go Go.Rv
set_option linter.unusedVariables false

def wrapZ (x n : Int) : Int := if n < 2 then 0 else if x.tmod n < 0 then x.tmod n + n else x.tmod n
theorem wrapZ_in (x : Int) {n : Int} (h : 0 < n) : 0 ≤ wrapZ x n ∧ wrapZ x n < n := by
  unfold wrapZ
  have h1 := Int.tmod_lt_of_pos x h
  have h2 := Int.lt_tmod_of_pos x h
  split
  · omega
  · split <;> omega
/-- rows that follow from numbers, one behind the other -/
def itQ (Q : Int → Int) (a : Int) : Nat → Int
  | 0 => a
  | k + 1 => Q (itQ Q a k)
def itR (Q : Int → Int) (row : Int → List Int) (a : Int) : Nat → Rows
  | 0 => []
  | k + 1 => itR Q row a k ++ [row (itQ Q a k)]
theorem itQ_succ (Q : Int → Int) (a : Int) (k : Nat) : itQ Q a (k + 1) = Q (itQ Q a k) := rfl
theorem itR_succ (Q : Int → Int) (row : Int → List Int) (a : Int) (k : Nat) : itR Q row a (k + 1) = itR Q row a k ++ [row (itQ Q a k)] := rfl
theorem it_len (Q : Int → Int) (row : Int → List Int) (a : Int) : ∀ k, (itR Q row a k).length = k
  | 0 => rfl
  | k + 1 => by simp [itR, it_len Q row a k]
theorem it_mem {Q : Int → Int} {row : Int → List Int} {a : Int} {p : List Int → Prop} (h : ∀ b, p (row b)) : ∀ k, ∀ r ∈ itR Q row a k, p r
  | 0 => by simp [itR]
  | k + 1 => by
    intro r hr
    simp only [itR, List.mem_append, List.mem_singleton] at hr
    rcases hr with hr | rfl
    · exact it_mem h k r hr
    · exact h _
def cmF (n a : Int) : Int := belowV a n
def cm1 (n a : Int) : Int := belowA a n
def cmD (n a : Int) : Int := belowV (cm1 n a) (n - 1 - 1 + 1)
def cm2 (n a : Int) : Int := belowA (cm1 n a) (n - 1 - 1 + 1)
def cmT (n a : Int) : Int := wrapZ (cmF n a + (1 + cmD n a)) n
def cmW (n a : Int) : Int := ofV (cm2 n a) [[5], [500]]
def cm3 (n a : Int) : Int := ofA (cm2 n a) [[5], [500]]
def cmA (n a : Int) : Int := 1 + belowV (cm3 n a) (cmW n a - 1 + 1)
def cmQ (n a : Int) : Int := belowA (cm3 n a) (cmW n a - 1 + 1)
def cmRow (n a : Int) : List Int := [cmF n a, cmT n a, cmA n a]
theorem cmW_is (n a : Int) : cmW n a = 5 ∨ cmW n a = 500 := ofV_two _ _ _
theorem cmD_in (a : Int) {n : Int} (h : 2 ≤ n) : 0 ≤ cmD n a ∧ cmD n a < n - 1 := by
  have h1 := belowV_in (cm1 n a) (n - 1 - 1 + 1)
  obtain ⟨x, hx⟩ : ∃ x, x = belowV (cm1 n a) (n - 1 - 1 + 1) := ⟨_, rfl⟩
  have e : cmD n a = x := hx.symm
  rw [← hx] at h1
  rw [e]
  clear e hx
  omega
theorem cmF_in (a : Int) {n : Int} (h : 2 ≤ n) : 0 ≤ cmF n a ∧ cmF n a < n := by
  have h1 := belowV_in a n
  obtain ⟨x, hx⟩ : ∃ x, x = belowV a n := ⟨_, rfl⟩
  have e : cmF n a = x := hx.symm
  rw [← hx] at h1
  rw [e]
  clear e hx
  omega
theorem cmRow_eq (n a : Int) : cmRow n a = [cmF n a, cmT n a, cmA n a] := rfl
theorem snoc3 {R : Rows} {k : Nat} {x y z : Int} (hl : R.length = k) : ∀ i, i < k + 1 → (behind k (.fn (Rv.elemOf [.i64, .i64, .i64] R)) 1 (litEl [SV.i .i64 x, SV.i .i64 y, SV.i .i64 z] 3 1)).at i = (El.fn (Rv.elemOf [.i64, .i64, .i64] (R ++ [[x, y, z]]))).at i := fun i hi => by
  have := snoc_at (R := R) (ks := [.i64, .i64, .i64]) (r := [x, y, z]) (cs := [SV.i .i64 x, SV.i .i64 y, SV.i .i64 z]) rfl (i := i) (by omega)
  rw [hl] at this
  exact this
noncomputable def F_Wrap : Fn0 := ⟨13, [i64, i64], fun l => match l with | [.z x, .z n] => n ≤ 1000000000 | _ => False, fun l => match l with | [.z x, .z n] => .i .i64 (wrapZ x n) | _ => .v undef⟩
noncomputable def A_Wrap : List SV → List Dat → Nat → List SV → Ann := fun _ _ _ _ => noAnn

def V_Wrap : Prop :=
  ∀ (B : RW) (n n_1 : Int), n_1 ≤ (1000000000 : Int) → (n_1 < (2 : Int) → Ob ((0 : Int) = wrapZ n n_1) ∧ True) ∧ (¬n_1 < (2 : Int) → Ob ((0 : Int) < n_1 ∧ InR .i64 (n.tmod n_1)) ∧ (n.tmod n_1 < (0 : Int) → Ob (InR .i64
  (n.tmod n_1 + n_1)) ∧ Ob (n.tmod n_1 + n_1 = wrapZ n n_1) ∧ True) ∧ (¬n.tmod n_1 < (0 : Int) → Ob (n.tmod n_1 = wrapZ n n_1) ∧ True))

set_option linter.unusedSimpArgs false in
set_option maxRecDepth 4000 in
set_option maxHeartbeats 400000 in
theorem v_Wrap : V_Wrap := by
  unfold V_Wrap
  intro B x n hn
  simp only [Ob_iff, and_true, true_and, InR]
  have h1 := fun h : 0 < n => Int.tmod_lt_of_pos x h
  have h2 := fun h : 0 < n => Int.lt_tmod_of_pos x h
  have h3 := wrapZ_in x (n := n)
  unfold wrapZ at *
  refine ⟨fun h => ?_, fun h => ⟨by omega, fun h4 => ?_, fun h4 => ?_⟩⟩
  · rw [if_pos h]
  · refine ⟨by omega, ?_⟩
    rw [if_neg h, if_pos h4]
  · rw [if_neg h, if_neg h4]

theorem e_Wrap : V_Wrap = needF P [] A_Wrap F_Wrap := by kernel_rfl

theorem n_Wrap : Ob (needF P [] A_Wrap F_Wrap) := by
  rw [← e_Wrap]
  exact ⟨v_Wrap⟩

theorem b_Wrap : ((P.funcs[13]?).any fun fn => fn.body.isSome) = true := by kernel_rfl

theorem Wrap_ok : Fn0.Ok P F_Wrap := Fn0.ok named (l := []) (A := A_Wrap) (by rfl) (by
  intro F h; simp at h) b_Wrap (by
  intro ds N
  simp only [F_Wrap]
  split <;> rfl) n_Wrap

noncomputable def F_ClaimsOf : FnE := ⟨20, (some [.i .u64]), [i64, i64], fun l => match l with | [.z a, .z N, .z most] => 2 ≤ N ∧ N ≤ 1000 ∧ 0 ≤ most ∧ most ≤ 1000 | _ => False, fun l => match l with | [.z a, .z N, .z most] => [.gsl 0 (belowV a (most + 1)).toNat 3 true] | _ => [], fun l => match l with | [.z a, .z N, .z most] => [.gr (belowV a (most + 1)).toNat 3 (.fn (Rv.elemOf [.i64, .i64, .i64] (itR (cmQ N) (cmRow N) (belowA a (most + 1)) (belowV a (most + 1)).toNat))) .gr true] | _ => [], fun l => match l with | [.z a, .z N, .z most] => [.i .u64 (itQ (cmQ N) (belowA a (most + 1)) (belowV a (most + 1)).toNat)] | _ => [], false, none⟩
noncomputable def A_ClaimsOf : List SV → List Dat → Nat → List SV → Ann := fun xs ds n ts => match xs with
  | [.agg _, .i _ _, .i _ _] => match ds with
    | [.z a, .z N, .z most] => match n with
      | 3 => ⟨Nat, fun k => [some (SV.ptr ((0 : Nat)) ((0 : Nat))), some (SV.i IntKind.i64 N), none, none, none, none, some (SV.v (Value.slice none ((0 : Nat)) ((0 : Nat)))), some (.gsl 1 k 3 true), some (.i .i64 (belowV a (most + 1) - k)), none, none, none, none, none, none, none, none, none, none, none, none, none, none, none, none, none, none, none, none, none, none, none, none, none, none, none, none, none, none, none], fun k => [.gr k 3 (.fn (Rv.elemOf [.i64, .i64, .i64] (itR (cmQ N) (cmRow N) (belowA a (most + 1)) k))) .gr true, .cells [.i .u64 (itQ (cmQ N) (belowA a (most + 1)) k)] .ex], fun k => (k : Int) ≤ belowV a (most + 1), fun k => (belowV a (most + 1) - k).toNat, 0⟩
      | _ => noAnn
    | _ => noAnn
  | _ => noAnn

def V_ClaimsOf : Prop :=
  ∀ (B : RW) (n n_1 n_2 : Int), F_ClaimsOf.pre ([Dat.z n] ++ ([Dat.z n_1] ++ ([Dat.z n_2] ++ []))) → Ob (InR .i64 (n_2 + (1 : Int))) ∧ Ob (F_Below.named.pre ([Dat.z n] ++ [Dat.z (n_2 + (1 : Int))])) ∧ ∀ (v : Int), v =
  belowA n (n_2 + (1 : Int)) → ∀ (v_1 : Int), v_1 = belowV n (n_2 + (1 : Int)) → (∃ (a : Nat), Ob ((↑a : Int) ≤ belowV n (n_2 + (1 : Int))) ∧ Ob (n_1 = n_1) ∧ Ob (SV.v (Value.slice none 0 0) = SV.v (Value.slice none 0 0))
  ∧ Ob (a = (0 : Nat)) ∧ Ob (v_1 = belowV n (n_2 + (1 : Int)) - (↑a : Int)) ∧ Ob (a = (0 : Nat)) ∧ Ob (v = itQ (cmQ n_1) (belowA n (n_2 + (1 : Int))) a) ∧ Ob (PlainE a (El.fn (Rv.elemOf [.i64, .i64, .i64] (itR (cmQ n_1)
  (cmRow n_1) (belowA n (n_2 + (1 : Int))) a)))) ∧ True) ∧ ∀ (a : Nat), (↑a : Int) ≤ belowV n (n_2 + (1 : Int)) → ∀ (z z_1 z_2 z_3 z_4 z_5 z_6 z_7 z_8 z_9 z_10 z_11 z_12 z_13 z_14 z_15 z_16 z_17 z_18 z_19 z_20 z_21 z_22
  z_23 z_24 z_25 z_26 z_27 z_28 z_29 z_30 z_31 z_32 z_33 z_34 : Value), ((0 : Int) < belowV n (n_2 + (1 : Int)) - (↑a : Int) → Ob (F_Below.named.pre ([Dat.z (itQ (cmQ n_1) (belowA n (n_2 + (1 : Int))) a)] ++ [Dat.z n_1]))
  ∧ ∀ (v_2 : Int), v_2 = belowA (itQ (cmQ n_1) (belowA n (n_2 + (1 : Int))) a) n_1 → ∀ (v_3 : Int), v_3 = belowV (itQ (cmQ n_1) (belowA n (n_2 + (1 : Int))) a) n_1 → Ob (InR .i64 (n_1 - (1 : Int))) ∧ Ob (F_From.named.pre
  ([Dat.z v_2] ++ [Dat.z (1 : Int), Dat.z (n_1 - (1 : Int))])) ∧ ∀ (v_4 : Int), v_4 = belowA v_2 (n_1 - (1 : Int) - (1 : Int) + (1 : Int)) → ∀ (v_5 : Int), v_5 = (1 : Int) + belowV v_2 (n_1 - (1 : Int) - (1 : Int) + (1 :
  Int)) → Ob (InR .i64 (v_3 + v_5)) ∧ Ob (n_1 ≤ (1000000000 : Int)) ∧ Ob (F_Of.named.pre ([Dat.z v_4] ++ [Dat.l [[(5 : Int)], [(500 : Int)]]])) ∧ ∀ (v_6 : Int), v_6 = ofA v_4 [[(5 : Int)], [(500 : Int)]] → ∀ (v_7 : Int),
  v_7 = ofV v_4 [[(5 : Int)], [(500 : Int)]] → Ob (F_From.named.pre ([Dat.z v_6] ++ [Dat.z (1 : Int), Dat.z v_7])) ∧ ∀ (v_8 : Int), v_8 = belowA v_6 (v_7 - (1 : Int) + (1 : Int)) → ∀ (v_9 : Int), v_9 = (1 : Int) + belowV
  v_6 (v_7 - (1 : Int) + (1 : Int)) → Ob (a = a ∧ ∀ (i : Nat), i < a → ((El.fn (Rv.elemOf [.i64, .i64, .i64] (itR (cmQ n_1) (cmRow n_1) (belowA n (n_2 + (1 : Int))) a))).at i).length = (3 : Nat)) ∧ Ob ((a + (1 : Nat)) * (2
  : Nat) * (25 : Nat) ≤ (1099511627776 : Nat)) ∧ Ob (a = a) ∧ Ob (InR .i64 (belowV n (n_2 + (1 : Int)) - (↑a : Int) - (1 : Int))) ∧ ∃ (a' : Nat), Ob ((↑a' : Int) ≤ belowV n (n_2 + (1 : Int)) ∧ (belowV n (n_2 + (1 : Int)) -
  (↑a' : Int)).toNat < (belowV n (n_2 + (1 : Int)) - (↑a : Int)).toNat) ∧ Ob (n_1 = n_1) ∧ Ob (SV.v (Value.slice none 0 0) = SV.v (Value.slice none 0 0)) ∧ Ob (a + (1 : Nat) = a') ∧ Ob (belowV n (n_2 + (1 : Int)) - (↑a :
  Int) - (1 : Int) = belowV n (n_2 + (1 : Int)) - (↑a' : Int)) ∧ Ob (a + (1 : Nat) = a' ∧ ∀ (i : Nat), i < a' → (behind a (El.fn (Rv.elemOf [.i64, .i64, .i64] (itR (cmQ n_1) (cmRow n_1) (belowA n (n_2 + (1 : Int))) a))) 1
  (litEl [SV.i .i64 v_3, SV.i .i64 (wrapZ (v_3 + v_5) n_1), SV.i .i64 v_9] 3 1)).at i = (El.fn (Rv.elemOf [.i64, .i64, .i64] (itR (cmQ n_1) (cmRow n_1) (belowA n (n_2 + (1 : Int))) a'))).at i) ∧ Ob (v_8 = itQ (cmQ n_1)
  (belowA n (n_2 + (1 : Int))) a') ∧ Ob (PlainE a' (El.fn (Rv.elemOf [.i64, .i64, .i64] (itR (cmQ n_1) (cmRow n_1) (belowA n (n_2 + (1 : Int))) a')))) ∧ True) ∧ (¬(0 : Int) < belowV n (n_2 + (1 : Int)) - (↑a : Int) → Ob (a
  = (belowV n (n_2 + (1 : Int))).toNat) ∧ Ob (a = (belowV n (n_2 + (1 : Int))).toNat ∧ ∀ (i : Nat), i < (belowV n (n_2 + (1 : Int))).toNat → (El.fn (Rv.elemOf [.i64, .i64, .i64] (itR (cmQ n_1) (cmRow n_1) (belowA n (n_2 +
  (1 : Int))) a))).at i = (El.fn (Rv.elemOf [.i64, .i64, .i64] (itR (cmQ n_1) (cmRow n_1) (belowA n (n_2 + (1 : Int))) (belowV n (n_2 + (1 : Int))).toNat))).at i) ∧ Ob (itQ (cmQ n_1) (belowA n (n_2 + (1 : Int))) a = itQ
  (cmQ n_1) (belowA n (n_2 + (1 : Int))) (belowV n (n_2 + (1 : Int))).toNat) ∧ Ob (PlainE (belowV n (n_2 + (1 : Int))).toNat (El.fn (Rv.elemOf [.i64, .i64, .i64] (itR (cmQ n_1) (cmRow n_1) (belowA n (n_2 + (1 : Int)))
  (belowV n (n_2 + (1 : Int))).toNat)))) ∧ True)

set_option linter.unusedSimpArgs false in
set_option maxRecDepth 4000 in
set_option maxHeartbeats 400000 in
theorem v_ClaimsOf : V_ClaimsOf := by
  unfold V_ClaimsOf
  intro B a N most h
  have h : 2 ≤ N ∧ N ≤ 1000 ∧ 0 ≤ most ∧ most ≤ 1000 := h
  simp only [F_Below, F_From, F_Of, FnE.named, List.cons_append, List.nil_append, Ob_iff, and_true, true_and] at ⊢
  have hN := belowV_in a (most + 1)
  obtain ⟨M, hM⟩ : ∃ M, M = belowV a (most + 1) := ⟨_, rfl⟩
  rw [← hM] at hN ⊢
  have hN : 0 ≤ M ∧ M ≤ most := by omega
  refine ⟨by simp only [InR]; omega, by omega, ?_⟩
  intro v hv v1 hv1
  obtain rfl : v1 = M := hv1
  clear hM
  obtain ⟨q, hq⟩ : ∃ q, belowA a (most + 1) = q := ⟨_, rfl⟩
  rw [hq] at hv ⊢
  subst hv
  clear hq
  refine ⟨⟨0, by omega, ?_⟩, ?_⟩
  · repeat' (with_reducible apply And.intro)
    all_goals first | exact plain_elemOf _ _ _ | trivial | omega | rfl
  intro k hk
  intros
  obtain ⟨b, hb⟩ : ∃ b, itQ (cmQ N) v k = b := ⟨_, rfl⟩
  refine ⟨fun h1 => ?_, fun h1 => ?_⟩
  · rw [hb]
    have f1 := cmF_in b h.1
    have f2 := cmD_in b h.1
    have f3 := cmW_is N b
    refine ⟨by omega, ?_⟩
    intro v2 hv2; obtain rfl : v2 = cm1 N b := hv2
    intro v3 hv3; obtain rfl : v3 = cmF N b := hv3
    refine ⟨by simp only [InR]; omega, by omega, ?_⟩
    intro v4 hv4; obtain rfl : v4 = cm2 N b := hv4
    intro v5 hv5; obtain rfl : v5 = 1 + cmD N b := hv5
    refine ⟨?_, by omega, by simp, ?_⟩
    · simp only [InR]
      generalize cmF N b = x at *
      generalize cmD N b = y at *
      omega
    intro v6 hv6; obtain rfl : v6 = cm3 N b := hv6
    intro v7 hv7; obtain rfl : v7 = cmW N b := hv7
    refine ⟨?_, ?_⟩
    · generalize cmW N b = x at *
      omega
    clear f1 f2 f3
    intro v8 hv8; obtain rfl : v8 = cmQ N b := hv8
    intro v9 hv9; obtain rfl : v9 = cmA N b := hv9
    have hl := it_len (cmQ N) (cmRow N) v k
    have hs := snoc3 (x := cmF N b) (y := cmT N b) (z := cmA N b) hl
    have e2r : itR (cmQ N) (cmRow N) v (k + 1) = itR (cmQ N) (cmRow N) v k ++ [[cmF N b, cmT N b, cmA N b]] := by
      rw [itR_succ, hb, cmRow_eq]
    rw [← e2r] at hs
    have eT : wrapZ (cmF N b + (1 + cmD N b)) N = cmT N b := rfl
    rw [eT]
    have e2 : cmQ N b = itQ (cmQ N) v (k + 1) := by rw [itQ_succ, hb]
    have e3 : (v1 - ((k + 1 : Nat) : Int)).toNat < (v1 - (k : Int)).toNat := by omega
    refine ⟨fun i hi => rfl, by omega, by simp only [InR]; omega, k + 1, ⟨by omega, e3⟩, rfl, by omega, ⟨rfl, hs⟩, e2, plain_elemOf _ _ _⟩
  · have e : k = v1.toNat := by omega
    subst e
    repeat' (with_reducible apply And.intro)
    all_goals first | exact plain_elemOf _ _ _ | trivial | rfl | exact fun _ _ => rfl

theorem e_ClaimsOf : V_ClaimsOf = needE P [F_Wrap] [F_Below.named, F_From.named, F_Of.named] A_ClaimsOf F_ClaimsOf := by kernel_rfl

theorem n_ClaimsOf : Ob (needE P [F_Wrap] [F_Below.named, F_From.named, F_Of.named] A_ClaimsOf F_ClaimsOf) := by
  rw [← e_ClaimsOf]
  exact ⟨v_ClaimsOf⟩

theorem b_ClaimsOf : ((P.funcs[20]?).any fun fn => fn.body.isSome) = true := by kernel_rfl

theorem ClaimsOf_ok : FnE.Ok P F_ClaimsOf := FnE.ok named (l := [F_Wrap]) (es := [F_Below.named, F_From.named, F_Of.named]) (A := A_ClaimsOf) (by rfl) (by rfl) (by rfl) (by
  intro F h
  simp only [List.mem_cons, List.not_mem_nil, or_false] at h
  rcases h with rfl
  · exact Wrap_ok
) (by
  intro F h
  simp only [List.mem_cons, List.not_mem_nil, or_false] at h
  rcases h with rfl | rfl | rfl
  · exact Below_ok.named
  · exact From_ok.named
  · exact Of_ok.named
) b_ClaimsOf (by
  intro ds h o ho n sz e k z he
  subst he
  simp only [F_ClaimsOf] at ho
  split at ho
  · simp only [List.mem_cons, List.not_mem_nil, or_false, SObj.gr.injEq] at ho
    obtain ⟨rfl, rfl, rfl, rfl, rfl⟩ := ho
    exact plain_elemOf _ _ _
  · simp at ho) n_ClaimsOf

end Go.Proofs.Ytjgllojnbinchaa.Sy
