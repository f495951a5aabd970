/- The law TopShared. -/
import Derived.Test.YthgpjpjflgeokaaSyP2
import Derived.Test.YthgpjpjflgeokaaGrM
import Derived.Test.YthgpjpjflgeokaaStM
import Derived.Test.YthgpjpjflgeokaaKvT
import Derived.Test.YthgpjpjflgeokaaLrM
import Derived.Test.YthgpjpjflgeokaaDhM
import Derived.Test.YthgpjpjflgeokaaKtT
import Derived.Test.YthgpjpjflgeokaaKtA
import Derived.Test.YthgpjpjflgeokaaKtB
import Derived.Test.YthgpjpjflgeokaaKtD
import Derived.Test.YthgpjpjflgeokaaKtW
import Derived.Test.YthgpjpjflgeokaaKtY
import Derived.Test.YthgpjpjflgeokaaKtX
import Derived.Test.YthgpjpjflgeokaaKtP
import Derived.Test.YthgpjpjflgeokaaKtQ
import Derived.Test.YthgpjpjflgeokaaKtR
import Derived.Test.YthgpjpjflgeokaaKtS
import Derived.Test.YthgpjpjflgeokaaKtV
import Derived.Test.YthgpjpjflgeokaaKvA
import Derived.Test.YthgpjpjflgeokaaSyP2
import Derived.KernelRfl
import Derived.Test.YthgpjpjflgeokaaProg
namespace Go.Proofs.Ythgpjpjflgeokaa.Sy
open Go Go.Rv
set_option linter.unusedVariables false

noncomputable def F_ShareU : FnE := ⟨7, none, [.one (.l [.i64, .i64]), i64], fun l => match l with | [.l L, .z d] => LotOk d L | _ => False, fun l => match l with | [.l L, .z d] => [.gsl 0 L.length 1 false, .i .i64 0] | _ => [], fun l => match l with | [.l L, .z d] => [.gr L.length 1 (.fn fun i => [.i .i64 (lotD d L i)]) .ex false] | _ => [], fun l => [], false, none⟩
theorem LotOk.e {d : Int} {L : Rows} (h : LotOk d L) : lotErr d L = 0 := by
  have h1 := h.l
  have h2 := h.d
  exact lot_ok (by omega) h.c (by omega) (by omega)
theorem ShareU_ok : FnE.Ok P F_ShareU := by
  obtain ⟨h1, h2, h3⟩ := ShareT_ok
  have key : ∀ ds, F_ShareU.pre ds → F_ShareT.pre ds ∧ F_ShareT.resA ds = F_ShareU.resA ds ∧ F_ShareT.objA ds = F_ShareU.objA ds := by
    intro ds hp
    simp only [F_ShareU] at hp
    split at hp
    · rename_i L d
      have hp : LotOk d L := hp
      have e := hp.e
      have n : ¬ C_ShareT [.l L, .z d] := fun hc => absurd e (show lotErr d L ≠ 0 from hc)
      refine ⟨?_, ?_, ?_⟩
      · show L.length ≤ 4000000
        have := hp.l
        omega
      · unfold FnE.resA
        simp only [F_ShareT, F_ShareU]
        rw [if_neg n]
      · unfold FnE.objA
        simp only [F_ShareT, F_ShareU]
        rw [if_neg n]
    · exact hp.elim
  refine ⟨fun args W W' x h ids => h1 args W W' x ?_ ids, h2, fun ds hp o ho => ?_⟩
  · unfold FnE.run at h ⊢
    have hb1 : F_ShareU.blk = none := rfl
    have hb2 : F_ShareT.blk = none := rfl
    have hs : F_ShareT.sh = F_ShareU.sh := rfl
    rw [hb1] at h
    rw [hb2, hs]
    simp only at h ⊢
    split at h
    · rename_i ds hd
      split at h
      · rename_i hp
        obtain ⟨k1, k2, k3⟩ := key ds hp
        simp only [if_pos k1, k2, k3]
        exact h
      · simp at h
    · simp at h
  · obtain ⟨k1, k2, k3⟩ := key ds hp
    exact h3 ds k1 o (by rw [k3]; exact ho)
structure ShB (d N : Int) (A : Nat → Int) (n : Nat) : Prop where
  d0 : 0 ≤ d
  a : ∀ i, i < n → 0 ≤ A i
  s : sumF A n = N
  le : d ≤ N
theorem ShB.all {d N : Int} {A : Nat → Int} {n : Nat} (h : ShB d N A n) : 0 < N → ShA d N A n := fun hp => ⟨h.d0, h.a, h.s, hp⟩
theorem ShB.nn {d N : Int} {A : Nat → Int} {n : Nat} (h : ShB d N A n) : 0 ≤ N := by rw [← h.s]; exact sumF_nn h.a
theorem shr_zero {d N : Int} {A : Nat → Int} {n : Nat} (h : N = 0) (i : Nat) : shr d N A n i = 0 := by unfold shr; rw [if_pos h]
theorem ShB.sum {d N : Int} {A : Nat → Int} {n : Nat} (h : ShB d N A n) : sumF (shr d N A n) n = d := by
  have h0 := h.nn
  by_cases e : N = 0
  · have : sumF (shr d N A n) n = sumF (fun _ => 0) n := sumF_congr fun i _ => shr_zero e i
    rw [this, sumF_zero]
    have := h.d0
    have := h.le
    omega
  · exact (h.all (by omega)).sum
theorem ShB.is {d N : Int} {A : Nat → Int} {n i : Nat} (h : ShB d N A n) (hi : i < n) : (if N = 0 then 0 else d * A i / N) ≤ shr d N A n i ∧ shr d N A n i ≤ (if N = 0 then 0 else (d * A i + N - 1) / N) ∧ 0 ≤ shr d N A n i ∧ shr d N A n i ≤ A i := by
  have h0 := h.nn
  by_cases e : N = 0
  · rw [shr_zero e, if_pos e, if_pos e]
    exact ⟨Int.le_refl _, Int.le_refl _, Int.le_refl _, h.a i hi⟩
  · have h1 := h.all (by omega)
    rw [if_neg e, if_neg e]
    exact ⟨(h1.part hi).1, (h1.part hi).2, h1.nn hi, h1.le h.le hi⟩

theorem sumF_le2 {f : Nat → Int} {M : Int} : ∀ {n : Nat}, (∀ i, i < n → f i ≤ M) → sumF f n ≤ n * M
  | 0, _ => by simp [sumF]
  | n + 1, h => by
    have h1 := sumF_le2 (f := f) (M := M) (n := n) fun i hi => h i (by omega)
    have h2 := h n (by omega)
    have e : ((n + 1 : Nat) : Int) * M = n * M + M := by rw [Int.natCast_add, Int.add_mul]; simp
    rw [e]
    simp only [sumF]
    generalize (n : Int) * M = q at *
    omega
structure Ts where
  i : Nat
  d : Int
  q : Int
  L : Rows
structure Ts.Ok (v : Ts) : Prop where
  l : v.L.length ≤ 8
  r : ∀ r ∈ v.L, r.length = 2
  c : ∀ i, i < v.L.length → 0 ≤ cell v.L i 0 ∧ cell v.L i 0 < 300 ∧ 0 ≤ cell v.L i 1 ∧ cell v.L i 1 < 6
def Ts.Dd (v : Ts) : Prop := 0 ≤ v.d ∧ v.d ≤ lotS v.L v.L.length + lotW v.L v.L.length
theorem Ts.Ok.bd {v : Ts} (h : v.Ok) {k : Nat} (hk : k ≤ v.L.length) : 0 ≤ lotS v.L k ∧ lotS v.L k ≤ 2400 ∧ 0 ≤ lotW v.L k ∧ lotW v.L k ≤ 48 := by
  have hl := h.l
  have a0 : 0 ≤ lotS v.L k := sumF_nn fun i hi => (h.c i (by omega)).1
  have b0 : 0 ≤ lotW v.L k := sumF_nn fun i hi => (h.c i (by omega)).2.2.1
  have a1 : lotS v.L k ≤ k * 300 := sumF_le2 fun i hi => by have := (h.c i (by omega)).2.1; omega
  have b1 : lotW v.L k ≤ k * 6 := sumF_le2 fun i hi => by have := (h.c i (by omega)).2.2.2; omega
  have m1 : (k : Int) * 300 ≤ 8 * 300 := Int.mul_le_mul_of_nonneg_right (by omega) (by omega)
  have m2 : (k : Int) * 6 ≤ 8 * 6 := Int.mul_le_mul_of_nonneg_right (by omega) (by omega)
  omega
theorem Ts.Ok.w {v : Ts} (h : v.Ok) (hd : v.Dd) : ShB (min v.d (lotW v.L v.L.length)) (lotW v.L v.L.length) (fun i => cell v.L i 1) v.L.length := by
  have hb := h.bd (Nat.le_refl _)
  have h0 : 0 ≤ v.d := hd.1
  exact ⟨by omega, fun i hi => (h.c i hi).2.2.1, rfl, by omega⟩
theorem Ts.Ok.s {v : Ts} (h : v.Ok) (hd : v.Dd) : ShB (v.d - min v.d (lotW v.L v.L.length)) (lotS v.L v.L.length) (fun i => cell v.L i 0) v.L.length := by
  have hb := h.bd (Nat.le_refl _)
  have h0 : 0 ≤ v.d := hd.1
  have h1 : v.d ≤ lotS v.L v.L.length + lotW v.L v.L.length := hd.2
  exact ⟨by omega, fun i hi => (h.c i hi).1, rfl, by omega⟩
theorem Ts.Ok.sum {v : Ts} (h : v.Ok) (hd : v.Dd) : sumF (lotD v.d v.L) v.L.length = v.d := by
  have e : sumF (lotD v.d v.L) v.L.length = sumF (fun i => shr (min v.d (lotW v.L v.L.length)) (lotW v.L v.L.length) (fun i => cell v.L i 1) v.L.length i + shr (v.d - min v.d (lotW v.L v.L.length)) (lotS v.L v.L.length) (fun i => cell v.L i 0) v.L.length i) v.L.length := sumF_congr fun i _ => rfl
  rw [e, sumF_add, (h.w hd).sum, (h.s hd).sum]
  omega
theorem Ts.Ok.is {v : Ts} (h : v.Ok) (hd : v.Dd) {i : Nat} (hi : i < v.L.length) :
    (if lotW v.L v.L.length = 0 then 0 else min v.d (lotW v.L v.L.length) * cell v.L i 1 / lotW v.L v.L.length) + (if lotS v.L v.L.length = 0 then 0 else (v.d - min v.d (lotW v.L v.L.length)) * cell v.L i 0 / lotS v.L v.L.length) ≤ lotD v.d v.L i ∧
    lotD v.d v.L i ≤ (if lotW v.L v.L.length = 0 then 0 else (min v.d (lotW v.L v.L.length) * cell v.L i 1 + lotW v.L v.L.length - 1) / lotW v.L v.L.length) + (if lotS v.L v.L.length = 0 then 0 else ((v.d - min v.d (lotW v.L v.L.length)) * cell v.L i 0 + lotS v.L v.L.length - 1) / lotS v.L v.L.length) ∧
    0 ≤ lotD v.d v.L i ∧ lotD v.d v.L i ≤ cell v.L i 0 + cell v.L i 1 := by
  obtain ⟨a1, a2, a3, a4⟩ := (h.w hd).is hi
  obtain ⟨b1, b2, b3, b4⟩ := (h.s hd).is hi
  have e : lotD v.d v.L i = shr (min v.d (lotW v.L v.L.length)) (lotW v.L v.L.length) (fun i => cell v.L i 1) v.L.length i + shr (v.d - min v.d (lotW v.L v.L.length)) (lotS v.L v.L.length) (fun i => cell v.L i 0) v.L.length i := rfl
  rw [e]
  exact ⟨Int.add_le_add a1 b1, Int.add_le_add a2 b2, Int.add_nonneg a3 b3, by rw [Int.add_comm (cell v.L i 0)]; exact Int.add_le_add a4 b4⟩
theorem pay_ex {n : Nat} {f : Nat → Int} (hs : sumF f n = 0) : ∀ (m : Nat) (R : Rows), nzF (lft f R R.length) n = m → PayTo n f R → ∃ S, Paid n f S := by
  intro m
  induction m using Nat.strongRecOn with
  | _ m ih =>
    intro R hm hR
    have hk := pay_k hR (Nat.le_refl _)
    have hsum : sumF (lft f R R.length) n = 0 := hk.sum.trans hs
    by_cases h : ∃ a, FNeg (lft f R R.length) n a
    · obtain ⟨a, ha⟩ := h
      obtain ⟨b, hb⟩ := sum_pos hsum ha.1 ha.2.1
      have h1 := (pay_stp ha hb rfl).nz
      exact ih _ (by rw [← hm]; exact h1) _ rfl (pay_next hR ha hb)
    · refine ⟨R, hR, sum_none hsum fun i hi => ?_⟩
      by_cases h2 : lft f R R.length i < 0
      · exfalso
        have : ∃ c, FPos (fun j => -(lft f R R.length j)) n c := fpos_of i hi (by show 0 < -(lft f R R.length i); omega)
        obtain ⟨c, c1, c2, c3⟩ := this
        exact h ⟨c, c1, by have : 0 < -(lft f R R.length c) := c2; omega, fun j hj => by have : -(lft f R R.length j) ≤ 0 := c3 j hj; omega⟩
      · omega
theorem pay_is {n : Nat} {f : Nat → Int} (hs : sumF f n = 0) : Paid n f (payR n f) := by
  obtain ⟨S, hS⟩ := pay_ex hs _ [] rfl (pay_nil n f)
  rw [payR_eq hS]
  exact hS

theorem dead_pay {n : Nat} {D : Nat → Int} {p : Int} (hn : n ≤ 8) (hD : ∀ i, i < n → 0 ≤ D i ∧ D i ≤ 400) (hp : 1 ≤ p ∧ p ≤ 900) : DeadPay n D p (stlR ((n : Int) + 1) (clR D p n)) := by
  have hm : ∀ i, i < n → 0 ≤ D i * p := fun i hi => Int.mul_nonneg (hD i hi).1 (by omega)
  have hb : ∀ i, i < n → 0 < D i → 1 ≤ D i * p ∧ D i * p ≤ 360000 := fun i hi h => by
    have h1 := Int.mul_le_mul (show 1 ≤ D i by omega) hp.1 (by omega) (by omega)
    have h2 := Int.mul_le_mul (hD i hi).2 hp.2 (by omega) (by omega)
    omega
  have hl := clR_len D p n
  have hin := clR_in D p n
  have hat : ∀ j, j < (clR D p n).length → clmAt ((n : Int) + 1) (clR D p n) j = 0 := fun j hj => by
    obtain ⟨i, h1, h2, h3, h4, h5⟩ := hin j hj
    have h6 := hb i h1 h2
    unfold clmAt
    rw [h3, h4, h5, if_pos (by omega), if_neg (by omega), if_pos (by omega)]
  have he : clmErr ((n : Int) + 1) (clR D p n) = 0 := by
    unfold clmErr
    rw [if_pos (by omega), if_neg (by omega)]
    exact clm_zero hat
  have hcl : ∀ j, j < (clR D p n).length → Clm (n + 1) (clR D p n) j := fun j hj => by
    have h := hat j hj
    rw [show (n : Int) + 1 = ((n + 1 : Nat) : Int) by omega] at h
    exact (clm_is h).1
  have hs := net_sum hcl
  have hnet := fun i => clR_net (D := D) (p := p) n i fun j hj => (hD j hj).1
  obtain ⟨f, ef⟩ : ∃ f, netTo (clR D p n) (clR D p n).length = f := ⟨_, rfl⟩
  have hR : stlR ((n : Int) + 1) (clR D p n) = payR (n + 1) f := by
    unfold stlR
    rw [if_pos he, ef, show ((n : Int) + 1).toNat = n + 1 by omega]
  rw [ef] at hs hnet
  have hP := pay_is hs
  rw [hR]
  have f0 : f 0 = sumF D n * p := by
    rw [hnet 0, if_pos rfl, sumF_mulr]
  have fp : 0 ≤ f 0 := by
    rw [hnet 0, if_pos rfl]
    exact sumF_nn hm
  have fi : ∀ i, 1 ≤ i → i < n + 1 → f i = -(D (i - 1) * p) := fun i h1 h2 => by
    rw [hnet i, if_neg (by omega), if_pos (by omega)]
  have hf : ∀ i, 1 ≤ i → i < n + 1 → f i ≤ 0 := fun i h1 h2 => by
    rw [fi i h1 h2]
    have := hm (i - 1) (by omega)
    omega
  obtain ⟨_, h2⟩ := pay_one hP.to hs hf (payR (n + 1) f).length (Nat.le_refl _)
  refine ⟨he, by have := paid_len hP (by omega); omega, fun j hj => ?_, ?_⟩
  · obtain ⟨a, a1, a2, a3, a4, a5, a6⟩ := h2 j hj
    refine ⟨a - 1, by omega, by rw [a4]; omega, a5, ?_⟩
    rw [a6, fi a a1 a2]
    omega
  · rw [paid_due hP, sum_max (by omega) fp hf, f0]
structure Tq where
  i : Nat
  d : Int
  p : Int
  q : Int
  L : Rows
def Tq.b (v : Tq) : Ts := ⟨v.i, v.d, v.q, v.L⟩
noncomputable def Tq.C (v : Tq) : Rows := clR (lotD v.d v.L) v.p v.L.length
noncomputable def Tq.R (v : Tq) : Rows := stlR ((v.L.length : Int) + 1) v.C
structure Tq.Okd (v : Tq) : Prop where
  b : v.b.Ok
  d : v.b.Dd
  p : 1 ≤ v.p ∧ v.p ≤ 900
theorem Tq.Okd.D {v : Tq} (h : v.Okd) {i : Nat} (hi : i < v.L.length) : 0 ≤ lotD v.d v.L i ∧ lotD v.d v.L i ≤ cell v.L i 0 + cell v.L i 1 ∧ lotD v.d v.L i ≤ 400 := by
  have h1 := h.b.is h.d (i := i) hi
  have h2 := h.b.c i hi
  have h3 : 0 ≤ lotD v.d v.L i := h1.2.2.1
  have h4 : lotD v.d v.L i ≤ cell v.L i 0 + cell v.L i 1 := h1.2.2.2
  have h5 : cell v.L i 0 < 300 := h2.2.1
  have h6 : cell v.L i 1 < 6 := h2.2.2.2
  omega
theorem Tq.Okd.pay {v : Tq} (h : v.Okd) : DeadPay v.L.length (lotD v.d v.L) v.p v.R := dead_pay h.b.l (fun i hi => ⟨(h.D hi).1, (h.D hi).2.2⟩) h.p
theorem Tq.Okd.due {v : Tq} (h : v.Okd) : paidTo v.R v.R.length = v.d * v.p := by
  have e : sumF (lotD v.d v.L) v.L.length = v.d := h.b.sum h.d
  rw [h.pay.due, e]
theorem Tq.Okd.mul {v : Tq} (h : v.Okd) {i : Nat} (hi : i < v.L.length) : 0 ≤ lotD v.d v.L i * v.p ∧ lotD v.d v.L i * v.p ≤ 360000 := by
  have h1 := h.D hi
  have h2 := Int.mul_le_mul h1.2.2 h.p.2 (by have := h.p.1; omega) (by omega)
  exact ⟨Int.mul_nonneg h1.1 (by have := h.p.1; omega), h2⟩
theorem Tq.Okd.paid {v : Tq} (h : v.Okd) {k : Nat} (hk : k ≤ v.R.length) : 0 ≤ paidTo v.R k ∧ paidTo v.R k ≤ 10000000 := by
  have h1 := paidTo_bd (R := v.R) (M := 360000) (k := k) fun j hj => by
    obtain ⟨i, h1, _, _, h2⟩ := h.pay.pay j (by omega)
    rw [h2]
    exact h.mul h1
  have h2 := h.pay.len
  have h3 : v.L.length ≤ 8 := h.b.l
  have h4 : (k : Int) * 360000 ≤ 8 * 360000 := Int.mul_le_mul_of_nonneg_right (by omega) (by omega)
  omega

noncomputable def F_law : LawF := ⟨3, [.one (.l [.i64])], fun l => match l with | [.l N] => N.length ≤ 9223372036854775807 | _ => False⟩
noncomputable def A_law : List SV → List Dat → Nat → List SV → Ann := fun xs ds n ts => match xs with
  | [.lst xz _ _ _] => match ds with
    | [.l N] => match n with
      | 5 => ⟨Tq, fun v => [none, none, some (SV.v (Value.bool false)), some (SV.ptr ((0 : Nat)) ((0 : Nat))), some (.gsl 1 v.L.length 2 true), some (.i .i64 (lotS v.L v.i + lotW v.L v.i)), some (.i .i64 v.i), none, none, none, none, none, none, none, none, none, none, none, none, none, none, none, none, none, none, none, none, none, none, none, none, none, none, none, none, none, none, none, none, none, none, none, none, none, none, none, none, none, none, none, none, none, none, none, none, none, none, none, none, none, none, none, none, none, none, none, none, none, none, none, none, none, none, none, none, none, none, none, none, none, none, none, none, none, none, none, none, none, none, none, none, none, none, none, none, none, none, none, none, none, none, none, none, none, none, none, none, none, none, none, none, none, none, none, none, none, none, none, none, none, none, none, none, none, none, none, none, none, none, none, none, none, none, none, none, none, none, none, none, none, none, none, none, none, none, none, none, none, none, none, none, none, none, none, none, none, none, none, none, none, none, none, none, none, none, none, none, none, none], fun v => [.gr v.L.length 2 (.fn (Rv.elemOf [.i64, .i64] v.L)) .gr true, .cells [.i .u64 v.q] .ex], fun v => v.b.Ok ∧ v.i ≤ v.L.length, fun v => v.L.length - v.i, 0⟩
      | 14 => ⟨Tq, fun v => [none, none, some (SV.v (Value.bool false)), none, some (.gsl 1 v.L.length 2 true), none, none, some (.i .i64 v.d), some (.i .i64 v.p), some (.gsl 2 v.L.length 1 false), none, some (.gsl 3 (clR (lotD v.d v.L) v.p v.i).length 3 true), some (.i .i64 v.i), none, none, none, none, none, none, none, none, none, none, none, none, none, none, none, none, none, none, none, none, none, none, none, none, none, none, none, none, none, none, none, none, none, none, none, none, none, none, none, none, none, none, none, none, none, none, none, none, none, none, none, none, none, none, none, none, none, none, none, none, none, none, none, none, none, none, none, none, none, none, none, none, none, none, none, none, none, none, none, none, none, none, none, none, none, none, none, none, none, none, none, none, none, none, none, none, none, none, none, none, none, none, none, none, none, none, none, none, none, none, none, none, none, none, none, none, none, none, none, none, none, none, none, none, none, none, none, none, none, none, none, none, none, none, none, none, none, none, none, none, none, none, none, none, none, none, none, none, none, none, none, none, none, none, none, none], fun v => [.gr (clR (lotD v.d v.L) v.p v.i).length 3 (.fn (Rv.elemOf [.i64, .i64, .i64] (clR (lotD v.d v.L) v.p v.i))) .gr true, .gr v.L.length 1 (.fn fun i => [.i .i64 (lotD v.d v.L i)]) .ex false, .gr v.L.length 2 (.fn (Rv.elemOf [.i64, .i64] v.L)) .gr true, .cells [.i .u64 v.q] .ex], fun v => v.Okd ∧ v.i ≤ v.L.length, fun v => v.L.length - v.i, 0⟩
      | 23 => ⟨Tq, fun v => [none, none, none, none, some (.gsl 1 v.L.length 2 true), none, none, some (.i .i64 v.d), some (.i .i64 v.p), some (.gsl 2 v.L.length 1 false), none, none, none, some (.gsl 4 v.R.length 3 true), none, some (.i .i64 (paidTo v.R v.i)), some (.i .i64 v.i), none, none, none, none, none, none, none, none, none, none, none, none, none, none, none, none, none, none, none, none, none, none, none, none, none, none, none, none, none, none, none, none, none, none, none, none, none, none, none, none, none, none, none, none, none, none, none, none, none, none, none, none, none, none, none, none, none, none, none, none, none, none, none, none, none, none, none, none, none, none, none, none, none, none, none, none, none, none, none, none, none, none, none, none, none, none, none, none, none, none, none, none, none, none, none, none, none, none, none, none, none, none, none, none, none, none, none, none, none, none, none, none, none, none, none, none, none, none, none, none, none, none, none, none, none, none, none, none, none, none, none, none, none, none, none, none, none, none, none, none, none, none, none, none, none, none, none, none, none, none, none, none], fun v => [.gr v.R.length 3 (.fn (Rv.elemOf [.i64, .i64, .i64] v.R)) .gr true, .dead, .gr v.L.length 1 (.fn fun i => [.i .i64 (lotD v.d v.L i)]) .ex false, .gr v.L.length 2 (.fn (Rv.elemOf [.i64, .i64] v.L)) .gr true, .cells [.i .u64 v.q] .ex], fun v => v.Okd ∧ v.i ≤ v.R.length, fun v => v.R.length - v.i, 0⟩
      | _ => noAnn
    | _ => noAnn
  | _ => noAnn

def V_law : Prop :=
  ∀ (B : RW), hasTabs [] B → ∀ (x : RV) (rows : List (List Int)), IsLst B x rows.length 1 (Rv.elemOf [.i64] rows) → oneB x = true → (∀ (row : List Int), row ∈ rows → row.length = (1 : Nat)) → rows.length ≤
  (9223372036854775807 : Nat) → ∃ (rows_1 : List (List Int)), Ob (IsLst B x rows.length 1 (Rv.elemOf [.i64] rows) ∧ rows_1.length = rows.length ∧ (∀ (r : List Int), r ∈ rows_1 → r.length = (1 : Nat)) ∧ ∀ (i : Nat), i <
  rows.length → Rv.elemOf [.i64] rows i = Rv.elemOf [.i64] rows_1 i) ∧ Ob (F_TideOf.named.pre [Dat.l rows_1]) ∧ Ob (F_LotsOf.named.pre ([Dat.z (tideK rows_1 rows_1.length)] ++ [Dat.z (8 : Int)])) ∧ ∀ (v : Int), v = itQ ltQ
  (belowA (tideK rows_1 rows_1.length) ((8 : Int) + (1 : Int))) (belowV (tideK rows_1 rows_1.length) ((8 : Int) + (1 : Int))).toNat → (∃ (a : Tq), Ob (a.b.Ok ∧ a.i ≤ List.length a.L) ∧ Ob (SV.v (Value.bool false) = SV.v
  (Value.bool false)) ∧ Ob ((belowV (tideK rows_1 rows_1.length) ((8 : Int) + (1 : Int))).toNat = List.length a.L) ∧ Ob ((0 : Int) = lotS a.L a.i + lotW a.L a.i) ∧ Ob ((0 : Int) = (↑a.i : Int)) ∧ Ob ((belowV (tideK rows_1
  rows_1.length) ((8 : Int) + (1 : Int))).toNat = List.length a.L ∧ ∀ (i : Nat), i < List.length a.L → (El.fn (Rv.elemOf [.i64, .i64] (itR ltQ ltR (belowA (tideK rows_1 rows_1.length) ((8 : Int) + (1 : Int))) (belowV
  (tideK rows_1 rows_1.length) ((8 : Int) + (1 : Int))).toNat))).at i = (El.fn (Rv.elemOf [.i64, .i64] a.L)).at i) ∧ Ob (v = a.q) ∧ Ob (PlainE (List.length a.L) (El.fn (Rv.elemOf [.i64, .i64] a.L))) ∧ True) ∧ ∀ (a : Tq),
  a.b.Ok ∧ a.i ≤ List.length a.L → ∀ (z z_1 z_2 z_3 z_4 z_5 z_6 z_7 z_8 z_9 z_10 z_11 z_12 z_13 z_14 z_15 z_16 z_17 z_18 z_19 z_20 z_21 z_22 z_23 z_24 z_25 z_26 z_27 z_28 z_29 z_30 z_31 z_32 z_33 z_34 z_35 z_36 z_37 z_38
  z_39 z_40 z_41 z_42 z_43 z_44 z_45 z_46 z_47 z_48 z_49 z_50 z_51 z_52 z_53 z_54 z_55 z_56 z_57 z_58 z_59 z_60 z_61 z_62 z_63 z_64 z_65 z_66 z_67 z_68 z_69 z_70 z_71 z_72 z_73 z_74 z_75 z_76 z_77 z_78 z_79 z_80 z_81 z_82
  z_83 z_84 z_85 z_86 z_87 z_88 z_89 z_90 z_91 z_92 z_93 z_94 z_95 z_96 z_97 z_98 z_99 z_100 z_101 z_102 z_103 z_104 z_105 z_106 z_107 z_108 z_109 z_110 z_111 z_112 z_113 z_114 z_115 z_116 z_117 z_118 z_119 z_120 z_121
  z_122 z_123 z_124 z_125 z_126 z_127 z_128 z_129 z_130 z_131 z_132 z_133 z_134 z_135 z_136 z_137 z_138 z_139 z_140 z_141 z_142 z_143 z_144 z_145 z_146 z_147 z_148 z_149 z_150 z_151 z_152 z_153 z_154 z_155 z_156 z_157
  z_158 z_159 z_160 z_161 z_162 z_163 : Value), ((↑a.i : Int) < (↑(List.length a.L) : Int) → Ob ((0 : Int) ≤ (↑a.i : Int) ∧ a.i < List.length a.L) ∧ Ob (a.i < List.length a.L) ∧ Ob (InR .i64 (lotS a.L a.i + lotW a.L a.i +
  cell a.L a.i 0)) ∧ Ob ((0 : Int) ≤ (↑a.i : Int) ∧ a.i < List.length a.L) ∧ Ob (a.i < List.length a.L) ∧ Ob (InR .i64 (lotS a.L a.i + lotW a.L a.i + cell a.L a.i 0 + cell a.L a.i 1)) ∧ Ob (InR .i64 ((↑a.i : Int) + (1 :
  Int))) ∧ ∃ (a' : Tq), Ob ((a'.b.Ok ∧ a'.i ≤ List.length a'.L) ∧ List.length a'.L - a'.i < List.length a.L - a.i) ∧ Ob (SV.v (Value.bool false) = SV.v (Value.bool false)) ∧ Ob (List.length a.L = List.length a'.L) ∧ Ob
  (lotS a.L a.i + lotW a.L a.i + cell a.L a.i 0 + cell a.L a.i 1 = lotS a'.L a'.i + lotW a'.L a'.i) ∧ Ob ((↑a.i : Int) + (1 : Int) = (↑a'.i : Int)) ∧ Ob (List.length a.L = List.length a'.L ∧ ∀ (i : Nat), i < List.length
  a'.L → (El.fn (Rv.elemOf [.i64, .i64] a.L)).at i = (El.fn (Rv.elemOf [.i64, .i64] a'.L)).at i) ∧ Ob (a.q = a'.q) ∧ Ob (PlainE (List.length a'.L) (El.fn (Rv.elemOf [.i64, .i64] a'.L))) ∧ True) ∧ (¬(↑a.i : Int) <
  (↑(List.length a.L) : Int) → Ob (F_From.named.pre ([Dat.z a.q] ++ [Dat.z (0 : Int), Dat.z (lotS a.L a.i + lotW a.L a.i)])) ∧ ∀ (v_1 : Int), v_1 = belowA a.q (lotS a.L a.i + lotW a.L a.i - (0 : Int) + (1 : Int)) → ∀ (v_2
  : Int), v_2 = (0 : Int) + belowV a.q (lotS a.L a.i + lotW a.L a.i - (0 : Int) + (1 : Int)) → Ob (F_From.named.pre ([Dat.z v_1] ++ [Dat.z (1 : Int), Dat.z (900 : Int)])) ∧ ∀ (v_3 : Int), v_3 = belowA v_1 ((900 : Int) - (1
  : Int) + (1 : Int)) → ∀ (v_4 : Int), v_4 = (1 : Int) + belowV v_1 ((900 : Int) - (1 : Int) + (1 : Int)) → ∃ (rows_2 : List (List Int)), Ob (List.length a.L = List.length a.L ∧ rows_2.length = List.length a.L ∧ (∀ (r :
  List Int), r ∈ rows_2 → r.length = (2 : Nat)) ∧ ∀ (i : Nat), i < List.length a.L → (El.fn (Rv.elemOf [.i64, .i64] a.L)).at i = Rv.elemOf [.i64, .i64] rows_2 i) ∧ Ob (F_ShareU.named.pre [Dat.l rows_2, Dat.z v_2]) ∧ ∀ (v_5
  : Int), v_5 = (0 : Int) → (¬¬v_5 = (0 : Int) → (¬(↑rows_2.length : Int) = (↑(List.length a.L) : Int) → False) ∧ (¬¬(↑rows_2.length : Int) = (↑(List.length a.L) : Int) → (∃ (a_1 : Tq), Ob (a_1.Okd ∧ a_1.i ≤ List.length
  a_1.L) ∧ Ob (SV.v (Value.bool false) = SV.v (Value.bool false)) ∧ Ob (List.length a.L = List.length a_1.L) ∧ Ob (v_2 = a_1.d) ∧ Ob (v_4 = a_1.p) ∧ Ob (rows_2.length = List.length a_1.L) ∧ Ob (List.length (clR (lotD a_1.d
  a_1.L) a_1.p a_1.i) = (0 : Nat)) ∧ Ob ((0 : Int) = (↑a_1.i : Int)) ∧ Ob (List.length (clR (lotD a_1.d a_1.L) a_1.p a_1.i) = (0 : Nat)) ∧ Ob (rows_2.length = List.length a_1.L ∧ ∀ (i : Nat), i < List.length a_1.L → (El.fn
  fun (i : Nat) ↦ [SV.i .i64 (lotD v_2 rows_2 i)]).at i = (El.fn fun (i : Nat) ↦ [SV.i .i64 (lotD a_1.d a_1.L i)]).at i) ∧ Ob (List.length a.L = List.length a_1.L ∧ ∀ (i : Nat), i < List.length a_1.L → (El.fn (Rv.elemOf
  [.i64, .i64] a.L)).at i = (El.fn (Rv.elemOf [.i64, .i64] a_1.L)).at i) ∧ Ob (v_3 = a_1.q) ∧ Ob (PlainE (List.length (clR (lotD a_1.d a_1.L) a_1.p a_1.i)) (El.fn (Rv.elemOf [.i64, .i64, .i64] (clR (lotD a_1.d a_1.L) a_1.p
  a_1.i)))) ∧ Ob (PlainE (List.length a_1.L) (El.fn fun (i : Nat) ↦ [SV.i .i64 (lotD a_1.d a_1.L i)])) ∧ Ob (PlainE (List.length a_1.L) (El.fn (Rv.elemOf [.i64, .i64] a_1.L))) ∧ True) ∧ ∀ (a_1 : Tq), a_1.Okd ∧ a_1.i ≤
  List.length a_1.L → ∀ (z_164 z_165 z_166 z_167 z_168 z_169 z_170 z_171 z_172 z_173 z_174 z_175 z_176 z_177 z_178 z_179 z_180 z_181 z_182 z_183 z_184 z_185 z_186 z_187 z_188 z_189 z_190 z_191 z_192 z_193 z_194 z_195 z_196
  z_197 z_198 z_199 z_200 z_201 z_202 z_203 z_204 z_205 z_206 z_207 z_208 z_209 z_210 z_211 z_212 z_213 z_214 z_215 z_216 z_217 z_218 z_219 z_220 z_221 z_222 z_223 z_224 z_225 z_226 z_227 z_228 z_229 z_230 z_231 z_232
  z_233 z_234 z_235 z_236 z_237 z_238 z_239 z_240 z_241 z_242 z_243 z_244 z_245 z_246 z_247 z_248 z_249 z_250 z_251 z_252 z_253 z_254 z_255 z_256 z_257 z_258 z_259 z_260 z_261 z_262 z_263 z_264 z_265 z_266 z_267 z_268
  z_269 z_270 z_271 z_272 z_273 z_274 z_275 z_276 z_277 z_278 z_279 z_280 z_281 z_282 z_283 z_284 z_285 z_286 z_287 z_288 z_289 z_290 z_291 z_292 z_293 z_294 z_295 z_296 z_297 z_298 z_299 z_300 z_301 z_302 z_303 z_304
  z_305 z_306 z_307 z_308 z_309 z_310 z_311 z_312 z_313 z_314 z_315 z_316 z_317 z_318 z_319 z_320 z_321 z_322 z_323 z_324 z_325 : Value), ((↑a_1.i : Int) < (↑(List.length a_1.L) : Int) → Ob ((0 : Int) ≤ (↑a_1.i : Int) ∧
  a_1.i < List.length a_1.L) ∧ Ob (a_1.i < List.length a_1.L) ∧ ((0 : Int) < lotD a_1.d a_1.L a_1.i → Ob (InR .i64 ((↑a_1.i : Int) + (1 : Int))) ∧ Ob ((0 : Int) ≤ (↑a_1.i : Int) ∧ a_1.i < List.length a_1.L) ∧ Ob (a_1.i <
  List.length a_1.L) ∧ Ob (InR .i64 (lotD a_1.d a_1.L a_1.i * a_1.p)) ∧ Ob (List.length (clR (lotD a_1.d a_1.L) a_1.p a_1.i) = List.length (clR (lotD a_1.d a_1.L) a_1.p a_1.i) ∧ ∀ (i : Nat), i < List.length (clR (lotD
  a_1.d a_1.L) a_1.p a_1.i) → ((El.fn (Rv.elemOf [.i64, .i64, .i64] (clR (lotD a_1.d a_1.L) a_1.p a_1.i))).at i).length = (3 : Nat)) ∧ Ob ((List.length (clR (lotD a_1.d a_1.L) a_1.p a_1.i) + (1 : Nat)) * (2 : Nat) * (25 :
  Nat) ≤ (1099511627776 : Nat)) ∧ Ob (List.length (clR (lotD a_1.d a_1.L) a_1.p a_1.i) = List.length (clR (lotD a_1.d a_1.L) a_1.p a_1.i)) ∧ Ob (InR .i64 ((↑a_1.i : Int) + (1 : Int))) ∧ ∃ (a' : Tq), Ob ((a'.Okd ∧ a'.i ≤
  List.length a'.L) ∧ List.length a'.L - a'.i < List.length a_1.L - a_1.i) ∧ Ob (SV.v (Value.bool false) = SV.v (Value.bool false)) ∧ Ob (List.length a_1.L = List.length a'.L) ∧ Ob (a_1.d = a'.d) ∧ Ob (a_1.p = a'.p) ∧ Ob
  (List.length a_1.L = List.length a'.L) ∧ Ob (List.length (clR (lotD a_1.d a_1.L) a_1.p a_1.i) + (1 : Nat) = List.length (clR (lotD a'.d a'.L) a'.p a'.i)) ∧ Ob ((↑a_1.i : Int) + (1 : Int) = (↑a'.i : Int)) ∧ Ob
  (List.length (clR (lotD a_1.d a_1.L) a_1.p a_1.i) + (1 : Nat) = List.length (clR (lotD a'.d a'.L) a'.p a'.i) ∧ ∀ (i : Nat), i < List.length (clR (lotD a'.d a'.L) a'.p a'.i) → (behind (List.length (clR (lotD a_1.d a_1.L)
  a_1.p a_1.i)) (El.fn (Rv.elemOf [.i64, .i64, .i64] (clR (lotD a_1.d a_1.L) a_1.p a_1.i))) 1 (litEl (symL [SV.i .i64 ((↑a_1.i : Int) + (1 : Int)), SV.v (Value.int .i64 (0 : Int)), SV.i .i64 (lotD a_1.d a_1.L a_1.i *
  a_1.p)]) 3 1)).at i = (El.fn (Rv.elemOf [.i64, .i64, .i64] (clR (lotD a'.d a'.L) a'.p a'.i))).at i) ∧ Ob (List.length a_1.L = List.length a'.L ∧ ∀ (i : Nat), i < List.length a'.L → (El.fn fun (i : Nat) ↦ [SV.i .i64 (lotD
  a_1.d a_1.L i)]).at i = (El.fn fun (i : Nat) ↦ [SV.i .i64 (lotD a'.d a'.L i)]).at i) ∧ Ob (List.length a_1.L = List.length a'.L ∧ ∀ (i : Nat), i < List.length a'.L → (El.fn (Rv.elemOf [.i64, .i64] a_1.L)).at i = (El.fn
  (Rv.elemOf [.i64, .i64] a'.L)).at i) ∧ Ob (a_1.q = a'.q) ∧ Ob (PlainE (List.length (clR (lotD a'.d a'.L) a'.p a'.i)) (El.fn (Rv.elemOf [.i64, .i64, .i64] (clR (lotD a'.d a'.L) a'.p a'.i)))) ∧ Ob (PlainE (List.length
  a'.L) (El.fn fun (i : Nat) ↦ [SV.i .i64 (lotD a'.d a'.L i)])) ∧ Ob (PlainE (List.length a'.L) (El.fn (Rv.elemOf [.i64, .i64] a'.L))) ∧ True) ∧ (¬(0 : Int) < lotD a_1.d a_1.L a_1.i → Ob (InR .i64 ((↑a_1.i : Int) + (1 :
  Int))) ∧ ∃ (a' : Tq), Ob ((a'.Okd ∧ a'.i ≤ List.length a'.L) ∧ List.length a'.L - a'.i < List.length a_1.L - a_1.i) ∧ Ob (SV.v (Value.bool false) = SV.v (Value.bool false)) ∧ Ob (List.length a_1.L = List.length a'.L) ∧
  Ob (a_1.d = a'.d) ∧ Ob (a_1.p = a'.p) ∧ Ob (List.length a_1.L = List.length a'.L) ∧ Ob (List.length (clR (lotD a_1.d a_1.L) a_1.p a_1.i) = List.length (clR (lotD a'.d a'.L) a'.p a'.i)) ∧ Ob ((↑a_1.i : Int) + (1 : Int) =
  (↑a'.i : Int)) ∧ Ob (List.length (clR (lotD a_1.d a_1.L) a_1.p a_1.i) = List.length (clR (lotD a'.d a'.L) a'.p a'.i) ∧ ∀ (i : Nat), i < List.length (clR (lotD a'.d a'.L) a'.p a'.i) → (El.fn (Rv.elemOf [.i64, .i64, .i64]
  (clR (lotD a_1.d a_1.L) a_1.p a_1.i))).at i = (El.fn (Rv.elemOf [.i64, .i64, .i64] (clR (lotD a'.d a'.L) a'.p a'.i))).at i) ∧ Ob (List.length a_1.L = List.length a'.L ∧ ∀ (i : Nat), i < List.length a'.L → (El.fn fun (i :
  Nat) ↦ [SV.i .i64 (lotD a_1.d a_1.L i)]).at i = (El.fn fun (i : Nat) ↦ [SV.i .i64 (lotD a'.d a'.L i)]).at i) ∧ Ob (List.length a_1.L = List.length a'.L ∧ ∀ (i : Nat), i < List.length a'.L → (El.fn (Rv.elemOf [.i64, .i64]
  a_1.L)).at i = (El.fn (Rv.elemOf [.i64, .i64] a'.L)).at i) ∧ Ob (a_1.q = a'.q) ∧ Ob (PlainE (List.length (clR (lotD a'.d a'.L) a'.p a'.i)) (El.fn (Rv.elemOf [.i64, .i64, .i64] (clR (lotD a'.d a'.L) a'.p a'.i)))) ∧ Ob
  (PlainE (List.length a'.L) (El.fn fun (i : Nat) ↦ [SV.i .i64 (lotD a'.d a'.L i)])) ∧ Ob (PlainE (List.length a'.L) (El.fn (Rv.elemOf [.i64, .i64] a'.L))) ∧ True)) ∧ (¬(↑a_1.i : Int) < (↑(List.length a_1.L) : Int) → Ob
  (InR .i64 ((↑(List.length a_1.L) : Int) + (1 : Int))) ∧ ∃ (rows_3 : List (List Int)), Ob (List.length (clR (lotD a_1.d a_1.L) a_1.p a_1.i) = List.length (clR (lotD a_1.d a_1.L) a_1.p a_1.i) ∧ rows_3.length = List.length
  (clR (lotD a_1.d a_1.L) a_1.p a_1.i) ∧ (∀ (r : List Int), r ∈ rows_3 → r.length = (3 : Nat)) ∧ ∀ (i : Nat), i < List.length (clR (lotD a_1.d a_1.L) a_1.p a_1.i) → (El.fn (Rv.elemOf [.i64, .i64, .i64] (clR (lotD a_1.d
  a_1.L) a_1.p a_1.i))).at i = Rv.elemOf [.i64, .i64, .i64] rows_3 i) ∧ Ob (F_Settle.named.pre [Dat.z ((↑(List.length a_1.L) : Int) + (1 : Int)), Dat.l rows_3]) ∧ ∀ (v_6 : Int), v_6 = clmErr ((↑(List.length a_1.L) : Int) +
  (1 : Int)) rows_3 → (¬v_6 = (0 : Int) → False) ∧ (¬¬v_6 = (0 : Int) → (∃ (a_2 : Tq), Ob (a_2.Okd ∧ a_2.i ≤ List.length a_2.R) ∧ Ob (List.length a_1.L = List.length a_2.L) ∧ Ob (a_1.d = a_2.d) ∧ Ob (a_1.p = a_2.p) ∧ Ob
  (List.length a_1.L = List.length a_2.L) ∧ Ob (List.length (stlR ((↑(List.length a_1.L) : Int) + (1 : Int)) rows_3) = List.length a_2.R) ∧ Ob ((0 : Int) = paidTo a_2.R a_2.i) ∧ Ob ((0 : Int) = (↑a_2.i : Int)) ∧ Ob
  (List.length (stlR ((↑(List.length a_1.L) : Int) + (1 : Int)) rows_3) = List.length a_2.R ∧ ∀ (i : Nat), i < List.length a_2.R → (El.fn (Rv.elemOf [.i64, .i64, .i64] (stlR ((↑(List.length a_1.L) : Int) + (1 : Int))
  rows_3))).at i = (El.fn (Rv.elemOf [.i64, .i64, .i64] a_2.R)).at i) ∧ Ob (List.length a_1.L = List.length a_2.L ∧ ∀ (i : Nat), i < List.length a_2.L → (El.fn fun (i : Nat) ↦ [SV.i .i64 (lotD a_1.d a_1.L i)]).at i =
  (El.fn fun (i : Nat) ↦ [SV.i .i64 (lotD a_2.d a_2.L i)]).at i) ∧ Ob (List.length a_1.L = List.length a_2.L ∧ ∀ (i : Nat), i < List.length a_2.L → (El.fn (Rv.elemOf [.i64, .i64] a_1.L)).at i = (El.fn (Rv.elemOf [.i64,
  .i64] a_2.L)).at i) ∧ Ob (a_1.q = a_2.q) ∧ Ob (PlainE (List.length a_2.R) (El.fn (Rv.elemOf [.i64, .i64, .i64] a_2.R))) ∧ Ob (PlainE (List.length a_2.L) (El.fn fun (i : Nat) ↦ [SV.i .i64 (lotD a_2.d a_2.L i)])) ∧ Ob
  (PlainE (List.length a_2.L) (El.fn (Rv.elemOf [.i64, .i64] a_2.L))) ∧ True) ∧ ∀ (a_2 : Tq), a_2.Okd ∧ a_2.i ≤ List.length a_2.R → ∀ (z_326 z_327 z_328 z_329 z_330 z_331 z_332 z_333 z_334 z_335 z_336 z_337 z_338 z_339
  z_340 z_341 z_342 z_343 z_344 z_345 z_346 z_347 z_348 z_349 z_350 z_351 z_352 z_353 z_354 z_355 z_356 z_357 z_358 z_359 z_360 z_361 z_362 z_363 z_364 z_365 z_366 z_367 z_368 z_369 z_370 z_371 z_372 z_373 z_374 z_375
  z_376 z_377 z_378 z_379 z_380 z_381 z_382 z_383 z_384 z_385 z_386 z_387 z_388 z_389 z_390 z_391 z_392 z_393 z_394 z_395 z_396 z_397 z_398 z_399 z_400 z_401 z_402 z_403 z_404 z_405 z_406 z_407 z_408 z_409 z_410 z_411
  z_412 z_413 z_414 z_415 z_416 z_417 z_418 z_419 z_420 z_421 z_422 z_423 z_424 z_425 z_426 z_427 z_428 z_429 z_430 z_431 z_432 z_433 z_434 z_435 z_436 z_437 z_438 z_439 z_440 z_441 z_442 z_443 z_444 z_445 z_446 z_447
  z_448 z_449 z_450 z_451 z_452 z_453 z_454 z_455 z_456 z_457 z_458 z_459 z_460 z_461 z_462 z_463 z_464 z_465 z_466 z_467 z_468 z_469 z_470 z_471 z_472 z_473 z_474 z_475 z_476 z_477 z_478 z_479 z_480 z_481 z_482 z_483
  z_484 z_485 z_486 z_487 : Value), ((↑a_2.i : Int) < (↑(List.length a_2.R) : Int) → Ob ((0 : Int) ≤ (↑a_2.i : Int) ∧ a_2.i < List.length a_2.R) ∧ Ob (a_2.i < List.length a_2.R) ∧ Ob (InR .i64 (cell a_2.R a_2.i 0 - (1 :
  Int))) ∧ Ob ((0 : Int) ≤ (↑a_2.i : Int) ∧ a_2.i < List.length a_2.R) ∧ Ob (a_2.i < List.length a_2.R) ∧ (¬¬cell a_2.R a_2.i 1 = (0 : Int) → (¬cell a_2.R a_2.i 0 - (1 : Int) < (0 : Int) → (¬(↑(List.length a_2.L) : Int) ≤
  cell a_2.R a_2.i 0 - (1 : Int) → Ob ((0 : Int) ≤ (↑a_2.i : Int) ∧ a_2.i < List.length a_2.R) ∧ Ob (a_2.i < List.length a_2.R) ∧ Ob ((0 : Int) ≤ cell a_2.R a_2.i 0 - (1 : Int) ∧ (cell a_2.R a_2.i 0 - (1 : Int)).toNat <
  List.length a_2.L) ∧ Ob ((cell a_2.R a_2.i 0 - (1 : Int)).toNat < List.length a_2.L) ∧ Ob (InR .i64 (lotD a_2.d a_2.L (cell a_2.R a_2.i 0 - (1 : Int)).toNat * a_2.p)) ∧ (¬¬cell a_2.R a_2.i 2 = lotD a_2.d a_2.L (cell
  a_2.R a_2.i 0 - (1 : Int)).toNat * a_2.p → Ob ((0 : Int) ≤ cell a_2.R a_2.i 0 - (1 : Int) ∧ (cell a_2.R a_2.i 0 - (1 : Int)).toNat < List.length a_2.L) ∧ Ob ((cell a_2.R a_2.i 0 - (1 : Int)).toNat < List.length a_2.L) ∧
  Ob ((0 : Int) ≤ cell a_2.R a_2.i 0 - (1 : Int) ∧ (cell a_2.R a_2.i 0 - (1 : Int)).toNat < List.length a_2.L) ∧ Ob ((cell a_2.R a_2.i 0 - (1 : Int)).toNat < List.length a_2.L) ∧ Ob ((0 : Int) ≤ cell a_2.R a_2.i 0 - (1 :
  Int) ∧ (cell a_2.R a_2.i 0 - (1 : Int)).toNat < List.length a_2.L) ∧ Ob ((cell a_2.R a_2.i 0 - (1 : Int)).toNat < List.length a_2.L) ∧ Ob (InR .i64 (cell a_2.L (cell a_2.R a_2.i 0 - (1 : Int)).toNat 0 + cell a_2.L (cell
  a_2.R a_2.i 0 - (1 : Int)).toNat 1)) ∧ (cell a_2.L (cell a_2.R a_2.i 0 - (1 : Int)).toNat 0 + cell a_2.L (cell a_2.R a_2.i 0 - (1 : Int)).toNat 1 < lotD a_2.d a_2.L (cell a_2.R a_2.i 0 - (1 : Int)).toNat → False) ∧
  (¬cell a_2.L (cell a_2.R a_2.i 0 - (1 : Int)).toNat 0 + cell a_2.L (cell a_2.R a_2.i 0 - (1 : Int)).toNat 1 < lotD a_2.d a_2.L (cell a_2.R a_2.i 0 - (1 : Int)).toNat → Ob ((0 : Int) ≤ (↑a_2.i : Int) ∧ a_2.i < List.length
  a_2.R) ∧ Ob (a_2.i < List.length a_2.R) ∧ Ob (InR .i64 (paidTo a_2.R a_2.i + cell a_2.R a_2.i 2)) ∧ Ob (InR .i64 ((↑a_2.i : Int) + (1 : Int))) ∧ ∃ (a' : Tq), Ob ((a'.Okd ∧ a'.i ≤ List.length a'.R) ∧ List.length a'.R -
  a'.i < List.length a_2.R - a_2.i) ∧ Ob (List.length a_2.L = List.length a'.L) ∧ Ob (a_2.d = a'.d) ∧ Ob (a_2.p = a'.p) ∧ Ob (List.length a_2.L = List.length a'.L) ∧ Ob (List.length a_2.R = List.length a'.R) ∧ Ob (paidTo
  a_2.R a_2.i + cell a_2.R a_2.i 2 = paidTo a'.R a'.i) ∧ Ob ((↑a_2.i : Int) + (1 : Int) = (↑a'.i : Int)) ∧ Ob (List.length a_2.R = List.length a'.R ∧ ∀ (i : Nat), i < List.length a'.R → (El.fn (Rv.elemOf [.i64, .i64, .i64]
  a_2.R)).at i = (El.fn (Rv.elemOf [.i64, .i64, .i64] a'.R)).at i) ∧ Ob (List.length a_2.L = List.length a'.L ∧ ∀ (i : Nat), i < List.length a'.L → (El.fn fun (i : Nat) ↦ [SV.i .i64 (lotD a_2.d a_2.L i)]).at i = (El.fn fun
  (i : Nat) ↦ [SV.i .i64 (lotD a'.d a'.L i)]).at i) ∧ Ob (List.length a_2.L = List.length a'.L ∧ ∀ (i : Nat), i < List.length a'.L → (El.fn (Rv.elemOf [.i64, .i64] a_2.L)).at i = (El.fn (Rv.elemOf [.i64, .i64] a'.L)).at i)
  ∧ Ob (a_2.q = a'.q) ∧ Ob (PlainE (List.length a'.R) (El.fn (Rv.elemOf [.i64, .i64, .i64] a'.R))) ∧ Ob (PlainE (List.length a'.L) (El.fn fun (i : Nat) ↦ [SV.i .i64 (lotD a'.d a'.L i)])) ∧ Ob (PlainE (List.length a'.L)
  (El.fn (Rv.elemOf [.i64, .i64] a'.L))) ∧ True)) ∧ (¬cell a_2.R a_2.i 2 = lotD a_2.d a_2.L (cell a_2.R a_2.i 0 - (1 : Int)).toNat * a_2.p → False)) ∧ ((↑(List.length a_2.L) : Int) ≤ cell a_2.R a_2.i 0 - (1 : Int) →
  False)) ∧ (cell a_2.R a_2.i 0 - (1 : Int) < (0 : Int) → False)) ∧ (¬cell a_2.R a_2.i 1 = (0 : Int) → False)) ∧ (¬(↑a_2.i : Int) < (↑(List.length a_2.R) : Int) → Ob (InR .i64 (a_2.d * a_2.p)) ∧ (paidTo a_2.R a_2.i = a_2.d
  * a_2.p → Ob (hasTabs [] B) ∧ True) ∧ (¬paidTo a_2.R a_2.i = a_2.d * a_2.p → False)))))) ∧ (¬v_5 = (0 : Int) → False))

set_option linter.unusedSimpArgs false in
set_option maxRecDepth 4000 in
set_option maxHeartbeats 2000000 in
theorem v_law : V_law := by
  unfold V_law
  intro B htab xz N hz hoz hrz hN
  refine ⟨N, ⟨⟨hz, rfl, hrz, fun _ _ => rfl⟩⟩, ⟨hN⟩, ?_⟩
  obtain ⟨a, ha⟩ : ∃ a, tideK N N.length = a := ⟨_, rfl⟩
  rw [ha]
  clear ha
  refine ⟨⟨by show (0 : Int) ≤ 8 ∧ (8 : Int) ≤ 1000; omega⟩, ?_⟩
  intro v hv
  clear hv
  have hk : (belowV a ((8 : Int) + 1)).toNat ≤ 8 := by
    have h := belowV_in a ((8 : Int) + 1)
    obtain ⟨x, hx⟩ : ∃ x, x = belowV a ((8 : Int) + 1) := ⟨_, rfl⟩
    rw [← hx] at h ⊢
    clear hx
    omega
  obtain ⟨k, ek⟩ : ∃ k, (belowV a ((8 : Int) + 1)).toNat = k := ⟨_, rfl⟩
  rw [ek] at hk ⊢
  clear ek
  obtain ⟨q, eq⟩ : ∃ q, belowA a ((8 : Int) + 1) = q := ⟨_, rfl⟩
  rw [eq]
  clear eq
  have lL := it_len ltQ ltR q k
  have rL : ∀ r ∈ itR ltQ ltR q k, r.length = 2 := it_mem (p := fun r => r.length = 2) (fun b => by obtain ⟨x, y, h, _⟩ := lt_in b; rw [h]; rfl) _
  have cL : ∀ i, i < k → 0 ≤ cell (itR ltQ ltR q k) i 0 ∧ cell (itR ltQ ltR q k) i 0 < 300 ∧ 0 ≤ cell (itR ltQ ltR q k) i 1 ∧ cell (itR ltQ ltR q k) i 1 < 6 := fun i hi => by
    rw [it_cell _ _ _ hi, it_cell _ _ _ hi]
    obtain ⟨x, y, h, h1⟩ := lt_in (itQ ltQ q i)
    rw [h]
    exact h1
  obtain ⟨L, eL⟩ : ∃ L, itR ltQ ltR q k = L := ⟨_, rfl⟩
  rw [eL] at lL rL cL ⊢
  clear eL
  subst lL
  constructor
  · have h0 : Ob ((0 : Int) = lotS L 0 + lotW L 0) := ⟨rfl⟩
    refine ⟨⟨0, 0, 0, v, L⟩, ⟨⟨⟨hk, rL, cL⟩, Nat.zero_le _⟩⟩, ?_⟩
    dsimp only
    repeat' (first | assumption | exact ⟨plain_elemOf _ _ _⟩ | exact ⟨plain_fnD _ _⟩ | exact ⟨plain_fn1 _ _⟩ | exact ⟨rfl⟩ | exact ⟨⟨rfl, fun _ _ => rfl⟩⟩ | trivial | with_reducible apply And.intro)
  intro v ⟨ok, hi⟩
  intros
  have l8 : v.L.length ≤ 8 := ok.l
  refine ⟨fun h1 => ?_, fun h1 => ?_⟩
  · have hi' : v.i < v.L.length := by omega
    have hc := ok.c v.i hi'
    have c0 : 0 ≤ cell v.L v.i 0 := hc.1
    have c1 : cell v.L v.i 0 < 300 := hc.2.1
    have c2 : 0 ≤ cell v.L v.i 1 := hc.2.2.1
    have c3 : cell v.L v.i 1 < 6 := hc.2.2.2
    have hb := ok.bd (k := v.i) hi
    have b0 : 0 ≤ lotS v.L v.i := hb.1
    have b1 : lotS v.L v.i ≤ 2400 := hb.2.1
    have b2 : 0 ≤ lotW v.L v.i := hb.2.2.1
    have b3 : lotW v.L v.i ≤ 48 := hb.2.2.2
    have e : Ob (lotS v.L v.i + lotW v.L v.i + cell v.L v.i 0 + cell v.L v.i 1 = lotS v.L (v.i + 1) + lotW v.L (v.i + 1)) := ⟨by
      show lotS v.L v.i + lotW v.L v.i + cell v.L v.i 0 + cell v.L v.i 1 = (lotS v.L v.i + cell v.L v.i 0) + (lotW v.L v.i + cell v.L v.i 1)
      omega⟩
    have hx : Ob (0 ≤ (v.i : Int) ∧ v.i < v.L.length) := ⟨by omega, hi'⟩
    refine ⟨hx, ⟨hi'⟩, ⟨by simp only [InR]; omega⟩, hx, ⟨hi'⟩, ⟨by simp only [InR]; omega⟩, ⟨by simp only [InR]; omega⟩, ⟨v.i + 1, v.d, v.p, v.q, v.L⟩, ⟨⟨⟨⟨ok.l, ok.r, ok.c⟩, hi'⟩, by show v.L.length - (v.i + 1) < v.L.length - v.i; omega⟩⟩, ?_⟩
    repeat' (first | assumption | exact ⟨plain_elemOf _ _ _⟩ | exact ⟨plain_fnD _ _⟩ | exact ⟨plain_fn1 _ _⟩ | exact ⟨rfl⟩ | exact ⟨⟨rfl, fun _ _ => rfl⟩⟩ | trivial | with_reducible apply And.intro)
  have ei : v.i = v.L.length := by omega
  rw [ei]
  have hb := ok.bd (k := v.L.length) (Nat.le_refl _)
  have b0 : 0 ≤ lotS v.L v.L.length := hb.1
  have b1 : lotS v.L v.L.length ≤ 2400 := hb.2.1
  have b2 : 0 ≤ lotW v.L v.L.length := hb.2.2.1
  have b3 : lotW v.L v.L.length ≤ 48 := hb.2.2.2
  refine ⟨⟨by show (-1000000000000 : Int) ≤ 0 ∧ (0 : Int) ≤ 1000000000000 ∧ (-1000000000000 : Int) ≤ lotS v.L v.L.length + lotW v.L v.L.length ∧ lotS v.L v.L.length + lotW v.L v.L.length ≤ 1000000000000; omega⟩, ?_⟩
  intro q1 hq1 d hd
  clear hq1
  refine ⟨⟨by show (-1000000000000 : Int) ≤ 1 ∧ (1 : Int) ≤ 1000000000000 ∧ (-1000000000000 : Int) ≤ 900 ∧ (900 : Int) ≤ 1000000000000; omega⟩, ?_⟩
  intro q2 hq2 p hp
  clear hq2
  have hd : 0 ≤ d ∧ d ≤ lotS v.L v.L.length + lotW v.L v.L.length := by
    have h := belowV_in v.q (lotS v.L v.L.length + lotW v.L v.L.length - 0 + 1)
    obtain ⟨x, hx⟩ : ∃ x, x = belowV v.q (lotS v.L v.L.length + lotW v.L v.L.length - 0 + 1) := ⟨_, rfl⟩
    rw [← hx] at h hd
    clear hx
    omega
  have hp : 1 ≤ p ∧ p ≤ 900 := by
    have h := belowV_in q1 (900 - 1 + 1)
    obtain ⟨x, hx⟩ : ∃ x, x = belowV q1 (900 - 1 + 1) := ⟨_, rfl⟩
    rw [← hx] at h hp
    clear hx
    omega
  have hlo : LotOk d v.L := ⟨by omega, fun i hi => by
    have hc := ok.c i hi
    have c0 : 0 ≤ cell v.L i 0 := hc.1
    have c1 : cell v.L i 0 < 300 := hc.2.1
    have c2 : 0 ≤ cell v.L i 1 := hc.2.2.1
    have c3 : cell v.L i 1 < 6 := hc.2.2.2
    omega, hd⟩
  refine ⟨v.L, ⟨⟨rfl, rfl, ok.r, fun _ _ => rfl⟩⟩, ⟨hlo⟩, ?_⟩
  intro v5 h5
  subst h5
  refine ⟨fun _ => ⟨fun h => h rfl, fun _ => ?_⟩, fun h => h rfl⟩
  have okd : (Tq.mk 0 d p q2 v.L).Okd := ⟨⟨ok.l, ok.r, ok.c⟩, hd, hp⟩
  constructor
  · refine ⟨⟨0, d, p, q2, v.L⟩, ⟨⟨okd, Nat.zero_le _⟩⟩, ?_⟩
    repeat' (first | assumption | exact ⟨plain_elemOf _ _ _⟩ | exact ⟨plain_fnD _ _⟩ | exact ⟨plain_fn1 _ _⟩ | exact ⟨rfl⟩ | exact ⟨⟨rfl, fun _ _ => rfl⟩⟩ | trivial | with_reducible apply And.intro)
  clear okd hp hd hlo b0 b1 b2 b3 hb ei h1 hi l8
  intro v ⟨okd, hi⟩
  intros
  have l8 : v.L.length ≤ 8 := okd.b.l
  have hcl := clR_len (lotD v.d v.L) v.p v.i
  refine ⟨fun h1 => ?_, fun h1 => ?_⟩
  · have hi' : v.i < v.L.length := by omega
    have hx : Ob (0 ≤ (v.i : Int) ∧ v.i < v.L.length) := ⟨by omega, hi'⟩
    have rk : Ob (InR .i64 ((v.i : Int) + 1)) := ⟨by simp only [InR]; omega⟩
    have hm := okd.mul hi'
    have rm : Ob (InR .i64 (lotD v.d v.L v.i * v.p)) := ⟨by simp only [InR]; omega⟩
    have hmu : Ob (((Tq.mk (v.i + 1) v.d v.p v.q v.L).Okd ∧ v.i + 1 ≤ v.L.length) ∧ v.L.length - (v.i + 1) < v.L.length - v.i) := ⟨⟨⟨⟨okd.b.l, okd.b.r, okd.b.c⟩, okd.d, okd.p⟩, hi'⟩, by omega⟩
    refine ⟨hx, ⟨hi'⟩, fun h2 => ?_, fun h2 => ?_⟩
    · have e := clR_yes (D := lotD v.d v.L) (p := v.p) (k := v.i) h2
      have el : (clR (lotD v.d v.L) v.p (v.i + 1)).length = (clR (lotD v.d v.L) v.p v.i).length + 1 := by rw [e]; simp
      have hs := snoc3 (R := clR (lotD v.d v.L) v.p v.i) (x := (v.i : Int) + 1) (y := 0) (z := lotD v.d v.L v.i * v.p) rfl
      rw [← e, ← el] at hs
      have o1 : Ob ((clR (lotD v.d v.L) v.p v.i).length + 1 = (clR (lotD v.d v.L) v.p (v.i + 1)).length) := ⟨el.symm⟩
      refine ⟨rk, hx, ⟨hi'⟩, rm, ⟨⟨rfl, fun _ _ => rfl⟩⟩, ⟨by omega⟩, ⟨rfl⟩, rk, ⟨v.i + 1, v.d, v.p, v.q, v.L⟩, hmu, ?_⟩
      have o2 := Ob.mk (And.intro el.symm hs)
      dsimp only
      repeat' (first | assumption | exact ⟨plain_elemOf _ _ _⟩ | exact ⟨plain_fnD _ _⟩ | exact ⟨plain_fn1 _ _⟩ | exact ⟨rfl⟩ | exact ⟨⟨rfl, fun _ _ => rfl⟩⟩ | trivial | with_reducible apply And.intro)
    · have e := clR_no (D := lotD v.d v.L) (p := v.p) (k := v.i) h2
      refine ⟨rk, ⟨v.i + 1, v.d, v.p, v.q, v.L⟩, hmu, ?_⟩
      dsimp only
      rw [e]
      repeat' (first | assumption | exact ⟨plain_elemOf _ _ _⟩ | exact ⟨plain_fnD _ _⟩ | exact ⟨plain_fn1 _ _⟩ | exact ⟨rfl⟩ | exact ⟨⟨rfl, fun _ _ => rfl⟩⟩ | trivial | with_reducible apply And.intro)
  have ei : v.i = v.L.length := by omega
  rw [ei] at hcl ⊢
  have hpay := okd.pay
  refine ⟨⟨by simp only [InR]; omega⟩, clR (lotD v.d v.L) v.p v.L.length, ⟨⟨rfl, rfl, clR_row _ _ _, fun _ _ => rfl⟩⟩, ⟨by show (clR (lotD v.d v.L) v.p v.L.length).length ≤ 4000000; omega⟩, ?_⟩
  intro v6 h6
  rw [hpay.err] at h6
  subst h6
  refine ⟨fun h => h rfl, fun _ => ?_⟩
  constructor
  · refine ⟨⟨0, v.d, v.p, v.q, v.L⟩, ⟨⟨⟨⟨okd.b.l, okd.b.r, okd.b.c⟩, okd.d, okd.p⟩, Nat.zero_le _⟩⟩, ?_⟩
    repeat' (first | assumption | exact ⟨plain_elemOf _ _ _⟩ | exact ⟨plain_fnD _ _⟩ | exact ⟨plain_fn1 _ _⟩ | exact ⟨rfl⟩ | exact ⟨⟨rfl, fun _ _ => rfl⟩⟩ | trivial | with_reducible apply And.intro)
  clear hpay hcl ei h1 l8 hi okd
  intro v ⟨okd, hi⟩
  intros
  have l8 : v.L.length ≤ 8 := okd.b.l
  have hpay := okd.pay
  have lR := hpay.len
  refine ⟨fun h1 => ?_, fun h1 => ?_⟩
  rotate_left
  · have ei : v.i = v.R.length := by omega
    have hp := okd.paid (k := v.R.length) (Nat.le_refl _)
    rw [okd.due] at hp
    rw [ei, okd.due]
    exact ⟨⟨by simp only [InR]; omega⟩, fun _ => ⟨⟨htab⟩, trivial⟩, fun h => h rfl⟩
  have hi' : v.i < v.R.length := by omega
  obtain ⟨k, k1, k2, k3, k4⟩ := hpay.pay v.i hi'
  have hx : Ob (0 ≤ (v.i : Int) ∧ v.i < v.R.length) := ⟨by omega, hi'⟩
  have tk : (cell v.R v.i 0 - 1).toNat = k := by omega
  have ck : cell v.R v.i 0 - 1 = (k : Int) := by omega
  rw [tk, ck, k3, k4]
  have hm := okd.mul k1
  have hD := okd.D k1
  have hc := okd.b.c k k1
  have c0 : 0 ≤ cell v.L k 0 := hc.1
  have c1 : cell v.L k 0 < 300 := hc.2.1
  have c2 : 0 ≤ cell v.L k 1 := hc.2.2.1
  have c3 : cell v.L k 1 < 6 := hc.2.2.2
  have hp := okd.paid (k := v.i) hi
  have hy : Ob (0 ≤ (k : Int) ∧ k < v.L.length) := ⟨by omega, k1⟩
  have rm : Ob (InR .i64 (lotD v.d v.L k * v.p)) := ⟨by simp only [InR]; omega⟩
  have e2 : Ob (paidTo v.R v.i + lotD v.d v.L k * v.p = paidTo v.R (v.i + 1)) := ⟨by
    show _ = paidTo v.R v.i + cell v.R v.i 2
    rw [k4]⟩
  have hmu : Ob (((Tq.mk (v.i + 1) v.d v.p v.q v.L).Okd ∧ v.i + 1 ≤ v.R.length) ∧ v.R.length - (v.i + 1) < v.R.length - v.i) := ⟨⟨⟨⟨okd.b.l, okd.b.r, okd.b.c⟩, okd.d, okd.p⟩, hi'⟩, by omega⟩
  refine ⟨hx, ⟨hi'⟩, ⟨by simp only [InR]; omega⟩, hx, ⟨hi'⟩, fun _ => ⟨fun _ => ⟨fun _ => ⟨hx, ⟨hi'⟩, hy, ⟨k1⟩, rm, fun _ => ⟨hy, ⟨k1⟩, hy, ⟨k1⟩, hy, ⟨k1⟩, ⟨by simp only [InR]; omega⟩, fun h => by omega, fun _ => ⟨hx, ⟨hi'⟩, ⟨by simp only [InR]; omega⟩, ⟨by simp only [InR]; omega⟩, ⟨v.i + 1, v.d, v.p, v.q, v.L⟩, hmu, ?_⟩⟩, fun h => h rfl⟩, fun h => by omega⟩, fun h => by omega⟩, fun h => h rfl⟩
  repeat' (first | assumption | exact ⟨plain_elemOf _ _ _⟩ | exact ⟨plain_fnD _ _⟩ | exact ⟨plain_fn1 _ _⟩ | exact ⟨rfl⟩ | exact ⟨⟨rfl, fun _ _ => rfl⟩⟩ | trivial | with_reducible apply And.intro)

theorem e_law : V_law = needL P [] [F_TideOf.named, F_LotsOf.named, F_From.named, F_ShareU.named, F_Settle.named] 9 ([] : Tabs) A_law F_law := by kernel_rfl

theorem n_law : Ob (needL P [] [F_TideOf.named, F_LotsOf.named, F_From.named, F_ShareU.named, F_Settle.named] 9 ([] : Tabs) A_law F_law) := by
  rw [← e_law]
  exact ⟨v_law⟩

theorem l_law : (([] : List Fn0).all fun G => !Nat.beq G.g 9) = true := rfl
theorem le_law : ([F_TideOf.named, F_LotsOf.named, F_From.named, F_ShareU.named, F_Settle.named].all fun G => !Nat.beq G.g 9) = true := rfl
theorem c_law : ∀ F ∈ ([] : List Fn0), F.Ok P := by
  intro F h; simp at h
theorem ce_law : ∀ F ∈ [F_TideOf.named, F_LotsOf.named, F_From.named, F_ShareU.named, F_Settle.named], F.Ok P := by
  intro F h
  simp only [List.mem_cons, List.not_mem_nil, or_false] at h
  rcases h with rfl | rfl | rfl | rfl | rfl
  · exact TideOf_ok.named
  · exact LotsOf_ok.named
  · exact From_ok.named
  · exact ShareU_ok.named
  · exact Settle_ok.named

end Go.Proofs.Ythgpjpjflgeokaa.Sy
