/- The law TankShared. -/
import Derived.Test.YtlnldabgbfcdcaaSyP2
import Derived.Test.YtlnldabgbfcdcaaGrM
import Derived.Test.YtlnldabgbfcdcaaStM
import Derived.Test.YtlnldabgbfcdcaaLrM
import Derived.Test.YtlnldabgbfcdcaaDhM
import Derived.Test.YtlnldabgbfcdcaaKtT
import Derived.Test.YtlnldabgbfcdcaaKtA
import Derived.Test.YtlnldabgbfcdcaaKtB
import Derived.Test.YtlnldabgbfcdcaaKtD
import Derived.Test.YtlnldabgbfcdcaaKtW
import Derived.Test.YtlnldabgbfcdcaaKtY
import Derived.Test.YtlnldabgbfcdcaaKtX
import Derived.Test.YtlnldabgbfcdcaaKtP
import Derived.Test.YtlnldabgbfcdcaaKtQ
import Derived.Test.YtlnldabgbfcdcaaKtR
import Derived.Test.YtlnldabgbfcdcaaSyP2
import Derived.KernelRfl
import Derived.Test.YtlnldabgbfcdcaaProg
namespace Go.Proofs.Ytlnldabgbfcdcaa.Sy
open Go Go.Rv
set_option linter.unusedVariables false

noncomputable def F_ShareU : FnE := ⟨10, none, [.one (.l [.i64, .i64]), i64], fun l => match l with | [.l L, .z d] => LotOk d L | _ => False, fun l => match l with | [.l L, .z d] => [.gsl 0 L.length 1 false, .i .i64 0] | _ => [], fun l => match l with | [.l L, .z d] => [.gr L.length 1 (.fn fun i => [.i .i64 (lotD d L i)]) .ex false] | _ => [], fun l => [], false, none⟩
theorem LotOk.e {d : Int} {L : Rows} (h : LotOk d L) : lotErr d L = 0 := by
  have h1 := h.l
  have h2 := h.d
  exact lot_ok (by omega) h.c (by omega) (by omega)
theorem ShareU_ok : FnE.Ok P F_ShareU := by
  obtain ⟨h1, h2, h3⟩ := ShareT_ok
  have key : ∀ ds, F_ShareU.pre ds → F_ShareT.pre ds ∧ F_ShareT.resA ds = F_ShareU.resA ds ∧ F_ShareT.objA ds = F_ShareU.objA ds := by
    intro ds hp
    simp only [F_ShareU] at hp
    split at hp
    · rename_i L d
      have hp : LotOk d L := hp
      have e := hp.e
      have n : ¬ C_ShareT [.l L, .z d] := fun hc => absurd e (show lotErr d L ≠ 0 from hc)
      refine ⟨?_, ?_, ?_⟩
      · show L.length ≤ 4000000
        have := hp.l
        omega
      · unfold FnE.resA
        simp only [F_ShareT, F_ShareU]
        rw [if_neg n]
      · unfold FnE.objA
        simp only [F_ShareT, F_ShareU]
        rw [if_neg n]
    · exact hp.elim
  refine ⟨fun args W W' x h ids => h1 args W W' x ?_ ids, h2, fun ds hp o ho => ?_⟩
  · unfold FnE.run at h ⊢
    have hb1 : F_ShareU.blk = none := rfl
    have hb2 : F_ShareT.blk = none := rfl
    have hs : F_ShareT.sh = F_ShareU.sh := rfl
    rw [hb1] at h
    rw [hb2, hs]
    simp only at h ⊢
    split at h
    · rename_i ds hd
      split at h
      · rename_i hp
        obtain ⟨k1, k2, k3⟩ := key ds hp
        simp only [if_pos k1, k2, k3]
        exact h
      · simp at h
    · simp at h
  · obtain ⟨k1, k2, k3⟩ := key ds hp
    exact h3 ds k1 o (by rw [k3]; exact ho)
structure ShB (d N : Int) (A : Nat → Int) (n : Nat) : Prop where
  d0 : 0 ≤ d
  a : ∀ i, i < n → 0 ≤ A i
  s : sumF A n = N
  le : d ≤ N
theorem ShB.all {d N : Int} {A : Nat → Int} {n : Nat} (h : ShB d N A n) : 0 < N → ShA d N A n := fun hp => ⟨h.d0, h.a, h.s, hp⟩
theorem ShB.nn {d N : Int} {A : Nat → Int} {n : Nat} (h : ShB d N A n) : 0 ≤ N := by rw [← h.s]; exact sumF_nn h.a
theorem shr_zero {d N : Int} {A : Nat → Int} {n : Nat} (h : N = 0) (i : Nat) : shr d N A n i = 0 := by unfold shr; rw [if_pos h]
theorem ShB.sum {d N : Int} {A : Nat → Int} {n : Nat} (h : ShB d N A n) : sumF (shr d N A n) n = d := by
  have h0 := h.nn
  by_cases e : N = 0
  · have : sumF (shr d N A n) n = sumF (fun _ => 0) n := sumF_congr fun i _ => shr_zero e i
    rw [this, sumF_zero]
    have := h.d0
    have := h.le
    omega
  · exact (h.all (by omega)).sum
theorem ShB.is {d N : Int} {A : Nat → Int} {n i : Nat} (h : ShB d N A n) (hi : i < n) : (if N = 0 then 0 else d * A i / N) ≤ shr d N A n i ∧ shr d N A n i ≤ (if N = 0 then 0 else (d * A i + N - 1) / N) ∧ 0 ≤ shr d N A n i ∧ shr d N A n i ≤ A i := by
  have h0 := h.nn
  by_cases e : N = 0
  · rw [shr_zero e, if_pos e, if_pos e]
    exact ⟨Int.le_refl _, Int.le_refl _, Int.le_refl _, h.a i hi⟩
  · have h1 := h.all (by omega)
    rw [if_neg e, if_neg e]
    exact ⟨(h1.part hi).1, (h1.part hi).2, h1.nn hi, h1.le h.le hi⟩
theorem ShB.near {d N : Int} {A : Nat → Int} {n i k : Nat} (h : ShB d N A n) (hi : i < n) (hk : k < n) (e : A i = A k) : shr d N A n i ≤ shr d N A n k + 1 := by
  have h0 := h.nn
  by_cases e0 : N = 0
  · rw [shr_zero e0, shr_zero e0]; omega
  · exact (h.all (by omega)).near hi hk e
def listT (f : Nat → Int) (n : Nat) : Rows := (List.range n).map fun i => [f i]
theorem listT_len (f : Nat → Int) (n : Nat) : (listT f n).length = n := by simp [listT]
theorem listT_row (f : Nat → Int) (n : Nat) : ∀ r ∈ listT f n, r.length = 1 := by
  intro r hr
  obtain ⟨i, _, rfl⟩ := List.mem_map.1 hr
  rfl
theorem listT_cell (f : Nat → Int) {n i : Nat} (h : i < n) : cell (listT f n) i 0 = f i := by
  unfold cell listT
  simp [List.getD_eq_getElem?_getD, h]
theorem listT_at (f : Nat → Int) {n i : Nat} (h : i < n) : (El.fn fun i => [SV.i .i64 (f i)]).at i = Rv.elemOf [.i64] (listT f n) i := by
  show [SV.i .i64 (f i)] = [SV.i .i64 (cell (listT f n) i 0)]
  rw [listT_cell f h]
theorem listT_tot (f : Nat → Int) (n : Nat) : ∀ k, k ≤ n → totTo (listT f n) k = sumF f k
  | 0, _ => rfl
  | k + 1, h => by
    simp only [totTo, sumF]
    rw [listT_tot f n k (by omega), listT_cell f (by omega)]
theorem sumF_le2 {f : Nat → Int} {M : Int} : ∀ {n : Nat}, (∀ i, i < n → f i ≤ M) → sumF f n ≤ n * M
  | 0, _ => by simp [sumF]
  | n + 1, h => by
    have h1 := sumF_le2 (f := f) (M := M) (n := n) fun i hi => h i (by omega)
    have h2 := h n (by omega)
    have e : ((n + 1 : Nat) : Int) * M = n * M + M := by rw [Int.natCast_add, Int.add_mul]; simp
    rw [e]
    simp only [sumF]
    generalize (n : Int) * M = q at *
    omega
structure Ts where
  i : Nat
  d : Int
  q : Int
  L : Rows
structure Ts.Ok (v : Ts) : Prop where
  l : v.L.length ≤ 8
  r : ∀ r ∈ v.L, r.length = 2
  c : ∀ i, i < v.L.length → 0 ≤ cell v.L i 0 ∧ cell v.L i 0 < 300 ∧ 0 ≤ cell v.L i 1 ∧ cell v.L i 1 < 6
def Ts.Dd (v : Ts) : Prop := 0 ≤ v.d ∧ v.d ≤ lotS v.L v.L.length + lotW v.L v.L.length
theorem Ts.Ok.bd {v : Ts} (h : v.Ok) {k : Nat} (hk : k ≤ v.L.length) : 0 ≤ lotS v.L k ∧ lotS v.L k ≤ 2400 ∧ 0 ≤ lotW v.L k ∧ lotW v.L k ≤ 48 := by
  have hl := h.l
  have a0 : 0 ≤ lotS v.L k := sumF_nn fun i hi => (h.c i (by omega)).1
  have b0 : 0 ≤ lotW v.L k := sumF_nn fun i hi => (h.c i (by omega)).2.2.1
  have a1 : lotS v.L k ≤ k * 300 := sumF_le2 fun i hi => by have := (h.c i (by omega)).2.1; omega
  have b1 : lotW v.L k ≤ k * 6 := sumF_le2 fun i hi => by have := (h.c i (by omega)).2.2.2; omega
  have m1 : (k : Int) * 300 ≤ 8 * 300 := Int.mul_le_mul_of_nonneg_right (by omega) (by omega)
  have m2 : (k : Int) * 6 ≤ 8 * 6 := Int.mul_le_mul_of_nonneg_right (by omega) (by omega)
  omega
theorem Ts.Ok.w {v : Ts} (h : v.Ok) (hd : v.Dd) : ShB (min v.d (lotW v.L v.L.length)) (lotW v.L v.L.length) (fun i => cell v.L i 1) v.L.length := by
  have hb := h.bd (Nat.le_refl _)
  have h0 : 0 ≤ v.d := hd.1
  exact ⟨by omega, fun i hi => (h.c i hi).2.2.1, rfl, by omega⟩
theorem Ts.Ok.s {v : Ts} (h : v.Ok) (hd : v.Dd) : ShB (v.d - min v.d (lotW v.L v.L.length)) (lotS v.L v.L.length) (fun i => cell v.L i 0) v.L.length := by
  have hb := h.bd (Nat.le_refl _)
  have h0 : 0 ≤ v.d := hd.1
  have h1 : v.d ≤ lotS v.L v.L.length + lotW v.L v.L.length := hd.2
  exact ⟨by omega, fun i hi => (h.c i hi).1, rfl, by omega⟩
theorem Ts.Ok.sum {v : Ts} (h : v.Ok) (hd : v.Dd) : sumF (lotD v.d v.L) v.L.length = v.d := by
  have e : sumF (lotD v.d v.L) v.L.length = sumF (fun i => shr (min v.d (lotW v.L v.L.length)) (lotW v.L v.L.length) (fun i => cell v.L i 1) v.L.length i + shr (v.d - min v.d (lotW v.L v.L.length)) (lotS v.L v.L.length) (fun i => cell v.L i 0) v.L.length i) v.L.length := sumF_congr fun i _ => rfl
  rw [e, sumF_add, (h.w hd).sum, (h.s hd).sum]
  omega
theorem Ts.Ok.is {v : Ts} (h : v.Ok) (hd : v.Dd) {i : Nat} (hi : i < v.L.length) :
    (if lotW v.L v.L.length = 0 then 0 else min v.d (lotW v.L v.L.length) * cell v.L i 1 / lotW v.L v.L.length) + (if lotS v.L v.L.length = 0 then 0 else (v.d - min v.d (lotW v.L v.L.length)) * cell v.L i 0 / lotS v.L v.L.length) ≤ lotD v.d v.L i ∧
    lotD v.d v.L i ≤ (if lotW v.L v.L.length = 0 then 0 else (min v.d (lotW v.L v.L.length) * cell v.L i 1 + lotW v.L v.L.length - 1) / lotW v.L v.L.length) + (if lotS v.L v.L.length = 0 then 0 else ((v.d - min v.d (lotW v.L v.L.length)) * cell v.L i 0 + lotS v.L v.L.length - 1) / lotS v.L v.L.length) ∧
    0 ≤ lotD v.d v.L i ∧ lotD v.d v.L i ≤ cell v.L i 0 + cell v.L i 1 := by
  obtain ⟨a1, a2, a3, a4⟩ := (h.w hd).is hi
  obtain ⟨b1, b2, b3, b4⟩ := (h.s hd).is hi
  have e : lotD v.d v.L i = shr (min v.d (lotW v.L v.L.length)) (lotW v.L v.L.length) (fun i => cell v.L i 1) v.L.length i + shr (v.d - min v.d (lotW v.L v.L.length)) (lotS v.L v.L.length) (fun i => cell v.L i 0) v.L.length i := rfl
  rw [e]
  exact ⟨Int.add_le_add a1 b1, Int.add_le_add a2 b2, Int.add_nonneg a3 b3, by rw [Int.add_comm (cell v.L i 0)]; exact Int.add_le_add a4 b4⟩
theorem Ts.Ok.near {v : Ts} (h : v.Ok) (hd : v.Dd) {i k : Nat} (hi : i < v.L.length) (hk : k < v.L.length) (e0 : cell v.L i 0 = cell v.L k 0) (e1 : cell v.L i 1 = cell v.L k 1) : lotD v.d v.L i ≤ lotD v.d v.L k + 2 := by
  have a := (h.w hd).near hi hk e1
  have b := (h.s hd).near hi hk e0
  unfold lotD
  omega
theorem part_in {d n N : Int} (h1 : 0 ≤ d) (h2 : d ≤ 1000000) (h3 : 0 ≤ n) (h4 : n ≤ 1000000) (h5 : 0 ≤ N) (h6 : N ≤ 1000000) : 0 ≤ (if N = 0 then 0 else d * n / N) ∧ (if N = 0 then 0 else d * n / N) ≤ 1000000000000 ∧ 0 ≤ (if N = 0 then 0 else (d * n + N - 1) / N) ∧ (if N = 0 then 0 else (d * n + N - 1) / N) ≤ 2000000000000 := by
  have m0 : 0 ≤ d * n := Int.mul_nonneg h1 h3
  have m1 : d * n ≤ 1000000 * 1000000 := Int.mul_le_mul h2 h4 h3 (by omega)
  by_cases e : N = 0
  · rw [if_pos e, if_pos e]; omega
  · rw [if_neg e, if_neg e]
    have a0 : 0 ≤ d * n / N := Int.ediv_nonneg m0 (by omega)
    have a1 : d * n / N ≤ d * n := Int.ediv_le_self _ m0
    have b0 : 0 ≤ (d * n + N - 1) / N := Int.ediv_nonneg (by omega) (by omega)
    have b1 : (d * n + N - 1) / N ≤ d * n + N - 1 := Int.ediv_le_self _ (by omega)
    omega
theorem add_in {x y : Int} (h1 : 0 ≤ x) (h2 : x ≤ 2000000000000) (h3 : 0 ≤ y) (h4 : y ≤ 2000000000000) : InR .i64 (x + y) := by
  simp only [InR]
  omega
structure Tj where
  j : Nat
  i : Nat
  d : Int
  q : Int
  L : Rows
def Tj.b (v : Tj) : Ts := ⟨v.i, v.d, v.q, v.L⟩

noncomputable def F_law : LawF := ⟨4, [.one (.l [.i64])], fun l => match l with | [.l N] => N.length ≤ 9223372036854775807 | _ => False⟩
noncomputable def A_law : List SV → List Dat → Nat → List SV → Ann := fun xs ds n ts => match xs with
  | [.lst xz _ _ _] => match ds with
    | [.l N] => match n with
      | 5 => ⟨Ts, fun v => [none, none, some (SV.v (Value.bool false)), some (SV.ptr ((0 : Nat)) ((0 : Nat))), some (.gsl 1 v.L.length 2 true), some (.i .i64 (lotS v.L v.i)), some (.i .i64 (lotW v.L v.i)), some (.i .i64 v.i), none, none, none, none, none, none, none, none, none, none, none, none, none, none, none, none, none, none, none, none, none, none, none, none, none, none, none, none, none, none, none, none, none, none, none, none, none, none, none, none, none, none, none, none, none, none, none, none, none, none, none, none, none, none, none, none, none, none, none, none, none, none, none, none, none, none, none, none, none, none, none, none, none, none, none, none, none, none, none, none, none, none, none, none, none, none, none, none, none, none, none, none, none, none, none, none, none, none, none, none, none, none, none, none, none, none, none, none, none, none, none, none, none, none, none, none, none, none, none, none, none, none, none, none, none, none, none, none, none, none, none, none, none, none, none, none, none, none, none, none, none, none, none, none, none, none, none, none, none, none, none, none, none, none, none, none, none, none, none, none, none, none, none, none, none, none, none, none, none, none, none, none, none], fun v => [.gr v.L.length 2 (.fn (Rv.elemOf [.i64, .i64] v.L)) .gr true, .cells [.i .u64 v.q] .ex], fun v => v.Ok ∧ v.i ≤ v.L.length, fun v => v.L.length - v.i, 0⟩
      | 14 => ⟨Ts, fun v => [none, none, none, none, some (.gsl 1 v.L.length 2 true), some (.i .i64 (lotS v.L v.L.length)), some (.i .i64 (lotW v.L v.L.length)), none, some (.i .i64 v.d), some (.gsl 3 v.L.length 1 false), none, some (.i .i64 (min v.d (lotW v.L v.L.length))), some (.i .i64 v.i), none, none, none, none, none, none, none, none, none, none, none, none, none, none, none, none, none, none, none, none, none, none, none, none, none, none, none, none, none, none, none, none, none, none, none, none, none, none, none, none, none, none, none, none, none, none, none, none, none, none, none, none, none, none, none, none, none, none, none, none, none, none, none, none, none, none, none, none, none, none, none, none, none, none, none, none, none, none, none, none, none, none, none, none, none, none, none, none, none, none, none, none, none, none, none, none, none, none, none, none, none, none, none, none, none, none, none, none, none, none, none, none, none, none, none, none, none, none, none, none, none, none, none, none, none, none, none, none, none, none, none, none, none, none, none, none, none, none, none, none, none, none, none, none, none, none, none, none, none, none, none, none, none, none, none, none, none, none, none, none, none, none, none, none, none, none, none, none], fun v => [.gr v.L.length 1 (.fn fun i => [.i .i64 (lotD v.d v.L i)]) .ex false, .dead, .gr v.L.length 2 (.fn (Rv.elemOf [.i64, .i64] v.L)) .gr true, .cells [.i .u64 v.q] .ex], fun v => v.Ok ∧ v.i ≤ v.L.length ∧ v.Dd, fun v => v.L.length - v.i, 0⟩
      | 20 => (match lget ts 12 with | some (SV.i _ r12) => (match lget ts 4 with | some (SV.gsl _ n4 _ _) => ⟨Tj, fun v => [none, none, none, none, some (SV.gsl 1 n4 2 true), some (.i .i64 (lotS v.L v.L.length)), some (.i .i64 (lotW v.L v.L.length)), none, some (.i .i64 v.d), some (.gsl 3 v.L.length 1 false), none, some (.i .i64 (min v.d (lotW v.L v.L.length))), some (SV.i .i64 r12), none, none, some (.i .i64 v.j), none, none, none, none, none, none, none, none, none, none, none, none, none, none, none, none, none, none, none, none, none, none, none, none, none, none, none, none, none, none, none, none, none, none, none, none, none, none, none, none, none, none, none, none, none, none, none, none, none, none, none, none, none, none, none, none, none, none, none, none, none, none, none, none, none, none, none, none, none, none, none, none, none, none, none, none, none, none, none, none, none, none, none, none, none, none, none, none, none, none, none, none, none, none, none, none, none, none, none, none, none, none, none, none, none, none, none, none, none, none, none, none, none, none, none, none, none, none, none, none, none, none, none, none, none, none, none, none, none, none, none, none, none, none, none, none, none, none, none, none, none, none, none, none, none, none, none, none, none, none, none, none, none, none, none, none, none, none, none, none, none, none, none, none, none], fun v => [.dead, .dead, .gr v.L.length 1 (.fn fun i => [.i .i64 (lotD v.d v.L i)]) .ex false, .dead, .gr v.L.length 2 (.fn (Rv.elemOf [.i64, .i64] v.L)) .gr true, .cells [.i .u64 v.q] .ex], fun v => v.b.Ok ∧ v.L.length = n4 ∧ (v.i : Int) = r12 ∧ v.i < v.L.length ∧ v.j ≤ v.i ∧ v.b.Dd, fun v => v.i - v.j, 0⟩ | _ => noAnn) | _ => noAnn)
      | _ => noAnn
    | _ => noAnn
  | _ => noAnn

def V_law : Prop :=
  ∀ (B : RW), hasTabs [] B → ∀ (x : RV) (rows : List (List Int)), IsLst B x rows.length ((1 : Nat)) (Rv.elemOf [IntKind.i64] rows) → oneB x = true → (∀ (row : List Int), row ∈ rows → row.length = (1 : Nat)) → rows.length ≤
  (9223372036854775807 : Nat) → ∃ (rows_1 : List (List Int)), Ob (IsLst B x rows.length ((1 : Nat)) (Rv.elemOf [IntKind.i64] rows) ∧ rows_1.length = rows.length ∧ (∀ (r : List Int), r ∈ rows_1 → r.length = (1 : Nat)) ∧ ∀
  (i : Nat), i < rows.length → Rv.elemOf [IntKind.i64] rows i = Rv.elemOf [IntKind.i64] rows_1 i) ∧ Ob (F_TideOf.named.pre [Dat.l rows_1]) ∧ Ob (F_LotsOf.named.pre ([Dat.z (tideK rows_1 rows_1.length)] ++ [Dat.z (8 :
  Int)])) ∧ ∀ (v : Int), v = itQ ltQ (belowA (tideK rows_1 rows_1.length) ((8 : Int) + (1 : Int))) (belowV (tideK rows_1 rows_1.length) ((8 : Int) + (1 : Int))).toNat → (∃ (a : Ts), Ob (a.Ok ∧ a.i ≤ List.length a.L) ∧ Ob
  (SV.v (Value.bool false) = SV.v (Value.bool false)) ∧ Ob ((belowV (tideK rows_1 rows_1.length) ((8 : Int) + (1 : Int))).toNat = List.length a.L) ∧ Ob ((0 : Int) = lotS a.L a.i) ∧ Ob ((0 : Int) = lotW a.L a.i) ∧ Ob ((0 :
  Int) = (↑a.i : Int)) ∧ Ob ((belowV (tideK rows_1 rows_1.length) ((8 : Int) + (1 : Int))).toNat = List.length a.L ∧ ∀ (i : Nat), i < List.length a.L → (El.fn (Rv.elemOf [IntKind.i64, IntKind.i64] (itR ltQ ltR (belowA
  (tideK rows_1 rows_1.length) ((8 : Int) + (1 : Int))) (belowV (tideK rows_1 rows_1.length) ((8 : Int) + (1 : Int))).toNat))).at i = (El.fn (Rv.elemOf [IntKind.i64, IntKind.i64] a.L)).at i) ∧ Ob (v = a.q) ∧ Ob (PlainE
  (List.length a.L) (El.fn (Rv.elemOf [IntKind.i64, IntKind.i64] a.L))) ∧ True) ∧ ∀ (a : Ts), a.Ok ∧ a.i ≤ List.length a.L → ∀ (z z_1 z_2 z_3 z_4 z_5 z_6 z_7 z_8 z_9 z_10 z_11 z_12 z_13 z_14 z_15 z_16 z_17 z_18 z_19 z_20
  z_21 z_22 z_23 z_24 z_25 z_26 z_27 z_28 z_29 z_30 z_31 z_32 z_33 z_34 z_35 z_36 z_37 z_38 z_39 z_40 z_41 z_42 z_43 z_44 z_45 z_46 z_47 z_48 z_49 z_50 z_51 z_52 z_53 z_54 z_55 z_56 z_57 z_58 z_59 z_60 z_61 z_62 z_63 z_64
  z_65 z_66 z_67 z_68 z_69 z_70 z_71 z_72 z_73 z_74 z_75 z_76 z_77 z_78 z_79 z_80 z_81 z_82 z_83 z_84 z_85 z_86 z_87 z_88 z_89 z_90 z_91 z_92 z_93 z_94 z_95 z_96 z_97 z_98 z_99 z_100 z_101 z_102 z_103 z_104 z_105 z_106
  z_107 z_108 z_109 z_110 z_111 z_112 z_113 z_114 z_115 z_116 z_117 z_118 z_119 z_120 z_121 z_122 z_123 z_124 z_125 z_126 z_127 z_128 z_129 z_130 z_131 z_132 z_133 z_134 z_135 z_136 z_137 z_138 z_139 z_140 z_141 z_142
  z_143 z_144 z_145 z_146 z_147 z_148 z_149 z_150 z_151 z_152 z_153 z_154 z_155 z_156 z_157 z_158 z_159 z_160 z_161 z_162 z_163 z_164 z_165 z_166 z_167 z_168 z_169 z_170 z_171 z_172 z_173 z_174 : Value), ((↑a.i : Int) <
  (↑(List.length a.L) : Int) → Ob ((0 : Int) ≤ (↑a.i : Int) ∧ a.i < List.length a.L) ∧ Ob (a.i < List.length a.L) ∧ Ob (InR IntKind.i64 (lotS a.L a.i + cell a.L a.i ((0 : Nat)))) ∧ Ob ((0 : Int) ≤ (↑a.i : Int) ∧ a.i <
  List.length a.L) ∧ Ob (a.i < List.length a.L) ∧ Ob (InR IntKind.i64 (lotW a.L a.i + cell a.L a.i ((1 : Nat)))) ∧ Ob (InR IntKind.i64 ((↑a.i : Int) + (1 : Int))) ∧ ∃ (a' : Ts), Ob ((a'.Ok ∧ a'.i ≤ List.length a'.L) ∧
  List.length a'.L - a'.i < List.length a.L - a.i) ∧ Ob (SV.v (Value.bool false) = SV.v (Value.bool false)) ∧ Ob (List.length a.L = List.length a'.L) ∧ Ob (lotS a.L a.i + cell a.L a.i ((0 : Nat)) = lotS a'.L a'.i) ∧ Ob
  (lotW a.L a.i + cell a.L a.i ((1 : Nat)) = lotW a'.L a'.i) ∧ Ob ((↑a.i : Int) + (1 : Int) = (↑a'.i : Int)) ∧ Ob (List.length a.L = List.length a'.L ∧ ∀ (i : Nat), i < List.length a'.L → (El.fn (Rv.elemOf [IntKind.i64,
  IntKind.i64] a.L)).at i = (El.fn (Rv.elemOf [IntKind.i64, IntKind.i64] a'.L)).at i) ∧ Ob (a.q = a'.q) ∧ Ob (PlainE (List.length a'.L) (El.fn (Rv.elemOf [IntKind.i64, IntKind.i64] a'.L))) ∧ True) ∧ (¬(↑a.i : Int) <
  (↑(List.length a.L) : Int) → Ob (InR IntKind.i64 (lotS a.L a.i + lotW a.L a.i)) ∧ Ob (InR IntKind.i64 (lotS a.L a.i + lotW a.L a.i)) ∧ Ob (F_From.named.pre ([Dat.z a.q] ++ [Dat.z (0 : Int), Dat.z (lotS a.L a.i + lotW a.L
  a.i)])) ∧ ∀ (v_1 : Int), v_1 = belowA a.q (lotS a.L a.i + lotW a.L a.i - (0 : Int) + (1 : Int)) → ∀ (v_2 : Int), v_2 = (0 : Int) + belowV a.q (lotS a.L a.i + lotW a.L a.i - (0 : Int) + (1 : Int)) → Ob (F_From.named.pre
  ([Dat.z v_1] ++ [Dat.z (0 : Int), Dat.z (lotW a.L a.i)])) ∧ ∀ (v_3 : Int), v_3 = belowA v_1 (lotW a.L a.i - (0 : Int) + (1 : Int)) → ∀ (v_4 : Int), v_4 = (0 : Int) + belowV v_1 (lotW a.L a.i - (0 : Int) + (1 : Int)) → Ob
  (F_Of.named.pre ([Dat.z v_3] ++ [Dat.l [[lotS a.L a.i + lotW a.L a.i], [v_2], [v_4]]])) ∧ ∀ (v_5 : Int), v_5 = ofA v_3 [[lotS a.L a.i + lotW a.L a.i], [v_2], [v_4]] → ∀ (v_6 : Int), v_6 = ofV v_3 [[lotS a.L a.i + lotW
  a.L a.i], [v_2], [v_4]] → ∃ (rows_2 : List (List Int)), Ob (List.length a.L = List.length a.L ∧ rows_2.length = List.length a.L ∧ (∀ (r : List Int), r ∈ rows_2 → r.length = (2 : Nat)) ∧ ∀ (i : Nat), i < List.length a.L →
  (El.fn (Rv.elemOf [IntKind.i64, IntKind.i64] a.L)).at i = Rv.elemOf [IntKind.i64, IntKind.i64] rows_2 i) ∧ Ob (F_ShareU.named.pre [Dat.l rows_2, Dat.z v_6]) ∧ ∀ (v_7 : Int), v_7 = (0 : Int) → (¬¬v_7 = (0 : Int) →
  (¬¬(↑rows_2.length : Int) = (↑(List.length a.L) : Int) → ∃ (rows_3 : List (List Int)), Ob (rows_2.length = rows_2.length ∧ rows_3.length = rows_2.length ∧ (∀ (r : List Int), r ∈ rows_3 → r.length = (1 : Nat)) ∧ ∀ (i :
  Nat), i < rows_2.length → (El.fn fun (i : Nat) ↦ [SV.i IntKind.i64 (lotD v_6 rows_2 i)]).at i = Rv.elemOf [IntKind.i64] rows_3 i) ∧ Ob (rows_3.length ≤ (1000 : Nat) ∧ ∀ (i : Nat), i < rows_3.length → (0 : Int) ≤ cell
  rows_3 i ((0 : Nat)) ∧ cell rows_3 i ((0 : Nat)) ≤ (1000000000 : Int)) ∧ (¬totTo rows_3 rows_3.length = v_6 → False) ∧ (¬¬totTo rows_3 rows_3.length = v_6 → (∃ (a_1 : Ts), Ob (a_1.Ok ∧ a_1.i ≤ List.length a_1.L ∧ a_1.Dd)
  ∧ Ob (List.length a.L = List.length a_1.L) ∧ Ob (lotS a.L a.i = lotS a_1.L (List.length a_1.L)) ∧ Ob (lotW a.L a.i = lotW a_1.L (List.length a_1.L)) ∧ Ob (v_6 = a_1.d) ∧ Ob (rows_2.length = List.length a_1.L) ∧ Ob (min
  v_6 (lotW a.L a.i) = min a_1.d (lotW a_1.L (List.length a_1.L))) ∧ Ob ((0 : Int) = (↑a_1.i : Int)) ∧ Ob (rows_2.length = List.length a_1.L ∧ ∀ (i : Nat), i < List.length a_1.L → (El.fn fun (i : Nat) ↦ [SV.i IntKind.i64
  (lotD v_6 rows_2 i)]).at i = (El.fn fun (i : Nat) ↦ [SV.i IntKind.i64 (lotD a_1.d a_1.L i)]).at i) ∧ Ob (List.length a.L = List.length a_1.L ∧ ∀ (i : Nat), i < List.length a_1.L → (El.fn (Rv.elemOf [IntKind.i64,
  IntKind.i64] a.L)).at i = (El.fn (Rv.elemOf [IntKind.i64, IntKind.i64] a_1.L)).at i) ∧ Ob (v_5 = a_1.q) ∧ Ob (PlainE (List.length a_1.L) (El.fn fun (i : Nat) ↦ [SV.i IntKind.i64 (lotD a_1.d a_1.L i)])) ∧ Ob (PlainE
  (List.length a_1.L) (El.fn (Rv.elemOf [IntKind.i64, IntKind.i64] a_1.L))) ∧ True) ∧ ∀ (a_1 : Ts), a_1.Ok ∧ a_1.i ≤ List.length a_1.L ∧ a_1.Dd → ∀ (z_175 z_176 z_177 z_178 z_179 z_180 z_181 z_182 z_183 z_184 z_185 z_186
  z_187 z_188 z_189 z_190 z_191 z_192 z_193 z_194 z_195 z_196 z_197 z_198 z_199 z_200 z_201 z_202 z_203 z_204 z_205 z_206 z_207 z_208 z_209 z_210 z_211 z_212 z_213 z_214 z_215 z_216 z_217 z_218 z_219 z_220 z_221 z_222
  z_223 z_224 z_225 z_226 z_227 z_228 z_229 z_230 z_231 z_232 z_233 z_234 z_235 z_236 z_237 z_238 z_239 z_240 z_241 z_242 z_243 z_244 z_245 z_246 z_247 z_248 z_249 z_250 z_251 z_252 z_253 z_254 z_255 z_256 z_257 z_258
  z_259 z_260 z_261 z_262 z_263 z_264 z_265 z_266 z_267 z_268 z_269 z_270 z_271 z_272 z_273 z_274 z_275 z_276 z_277 z_278 z_279 z_280 z_281 z_282 z_283 z_284 z_285 z_286 z_287 z_288 z_289 z_290 z_291 z_292 z_293 z_294
  z_295 z_296 z_297 z_298 z_299 z_300 z_301 z_302 z_303 z_304 z_305 z_306 z_307 z_308 z_309 z_310 z_311 z_312 z_313 z_314 z_315 z_316 z_317 z_318 z_319 z_320 z_321 z_322 z_323 z_324 z_325 z_326 z_327 z_328 z_329 z_330
  z_331 z_332 z_333 z_334 z_335 z_336 z_337 z_338 z_339 z_340 z_341 z_342 z_343 z_344 z_345 z_346 z_347 z_348 : Value), ((↑a_1.i : Int) < (↑(List.length a_1.L) : Int) → Ob ((0 : Int) ≤ (↑a_1.i : Int) ∧ a_1.i < List.length
  a_1.L) ∧ Ob (a_1.i < List.length a_1.L) ∧ Ob ((0 : Int) ≤ min a_1.d (lotW a_1.L (List.length a_1.L)) ∧ min a_1.d (lotW a_1.L (List.length a_1.L)) ≤ (1000000 : Int) ∧ (0 : Int) ≤ cell a_1.L a_1.i ((1 : Nat)) ∧ cell a_1.L
  a_1.i ((1 : Nat)) ≤ (1000000 : Int) ∧ (0 : Int) ≤ lotW a_1.L (List.length a_1.L) ∧ lotW a_1.L (List.length a_1.L) ≤ (1000000 : Int)) ∧ Ob (InR IntKind.i64 (a_1.d - min a_1.d (lotW a_1.L (List.length a_1.L)))) ∧ Ob ((0 :
  Int) ≤ (↑a_1.i : Int) ∧ a_1.i < List.length a_1.L) ∧ Ob (a_1.i < List.length a_1.L) ∧ Ob ((0 : Int) ≤ a_1.d - min a_1.d (lotW a_1.L (List.length a_1.L)) ∧ a_1.d - min a_1.d (lotW a_1.L (List.length a_1.L)) ≤ (1000000 :
  Int) ∧ (0 : Int) ≤ cell a_1.L a_1.i ((0 : Nat)) ∧ cell a_1.L a_1.i ((0 : Nat)) ≤ (1000000 : Int) ∧ (0 : Int) ≤ lotS a_1.L (List.length a_1.L) ∧ lotS a_1.L (List.length a_1.L) ≤ (1000000 : Int)) ∧ Ob ((0 : Int) ≤ (↑a_1.i
  : Int) ∧ a_1.i < List.length a_1.L) ∧ Ob (a_1.i < List.length a_1.L) ∧ Ob (InR IntKind.i64 ((if lotW a_1.L (List.length a_1.L) = (0 : Int) then (0 : Int) else min a_1.d (lotW a_1.L (List.length a_1.L)) * cell a_1.L a_1.i
  ((1 : Nat)) / lotW a_1.L (List.length a_1.L)) + if lotS a_1.L (List.length a_1.L) = (0 : Int) then (0 : Int) else (a_1.d - min a_1.d (lotW a_1.L (List.length a_1.L))) * cell a_1.L a_1.i ((0 : Nat)) / lotS a_1.L
  (List.length a_1.L))) ∧ ((¬lotD a_1.d a_1.L a_1.i < (if lotW a_1.L (List.length a_1.L) = (0 : Int) then (0 : Int) else min a_1.d (lotW a_1.L (List.length a_1.L)) * cell a_1.L a_1.i ((1 : Nat)) / lotW a_1.L (List.length
  a_1.L)) + if lotS a_1.L (List.length a_1.L) = (0 : Int) then (0 : Int) else (a_1.d - min a_1.d (lotW a_1.L (List.length a_1.L))) * cell a_1.L a_1.i ((0 : Nat)) / lotS a_1.L (List.length a_1.L)) → Ob ((0 : Int) ≤ (↑a_1.i
  : Int) ∧ a_1.i < List.length a_1.L) ∧ Ob (a_1.i < List.length a_1.L) ∧ Ob (InR IntKind.i64 ((if lotW a_1.L (List.length a_1.L) = (0 : Int) then (0 : Int) else (min a_1.d (lotW a_1.L (List.length a_1.L)) * cell a_1.L
  a_1.i ((1 : Nat)) + lotW a_1.L (List.length a_1.L) - (1 : Int)) / lotW a_1.L (List.length a_1.L)) + if lotS a_1.L (List.length a_1.L) = (0 : Int) then (0 : Int) else ((a_1.d - min a_1.d (lotW a_1.L (List.length a_1.L)))
  * cell a_1.L a_1.i ((0 : Nat)) + lotS a_1.L (List.length a_1.L) - (1 : Int)) / lotS a_1.L (List.length a_1.L))) ∧ (¬((if lotW a_1.L (List.length a_1.L) = (0 : Int) then (0 : Int) else (min a_1.d (lotW a_1.L (List.length
  a_1.L)) * cell a_1.L a_1.i ((1 : Nat)) + lotW a_1.L (List.length a_1.L) - (1 : Int)) / lotW a_1.L (List.length a_1.L)) + if lotS a_1.L (List.length a_1.L) = (0 : Int) then (0 : Int) else ((a_1.d - min a_1.d (lotW a_1.L
  (List.length a_1.L))) * cell a_1.L a_1.i ((0 : Nat)) + lotS a_1.L (List.length a_1.L) - (1 : Int)) / lotS a_1.L (List.length a_1.L)) < lotD a_1.d a_1.L a_1.i → Ob ((0 : Int) ≤ (↑a_1.i : Int) ∧ a_1.i < List.length a_1.L)
  ∧ Ob (a_1.i < List.length a_1.L) ∧ Ob ((0 : Int) ≤ (↑a_1.i : Int) ∧ a_1.i < List.length a_1.L) ∧ Ob (a_1.i < List.length a_1.L) ∧ Ob ((0 : Int) ≤ (↑a_1.i : Int) ∧ a_1.i < List.length a_1.L) ∧ Ob (a_1.i < List.length
  a_1.L) ∧ Ob (InR IntKind.i64 (cell a_1.L a_1.i ((0 : Nat)) + cell a_1.L a_1.i ((1 : Nat)))) ∧ (cell a_1.L a_1.i ((0 : Nat)) + cell a_1.L a_1.i ((1 : Nat)) < lotD a_1.d a_1.L a_1.i → False) ∧ (¬cell a_1.L a_1.i ((0 :
  Nat)) + cell a_1.L a_1.i ((1 : Nat)) < lotD a_1.d a_1.L a_1.i → (∃ (a_2 : Tj), Ob (a_2.b.Ok ∧ List.length a_2.L = List.length a_1.L ∧ (↑a_2.i : Int) = (↑a_1.i : Int) ∧ a_2.i < List.length a_2.L ∧ a_2.j ≤ a_2.i ∧
  a_2.b.Dd) ∧ Ob (List.length a_1.L = List.length a_1.L) ∧ Ob (lotS a_1.L (List.length a_1.L) = lotS a_2.L (List.length a_2.L)) ∧ Ob (lotW a_1.L (List.length a_1.L) = lotW a_2.L (List.length a_2.L)) ∧ Ob (a_1.d = a_2.d) ∧
  Ob (List.length a_1.L = List.length a_2.L) ∧ Ob (min a_1.d (lotW a_1.L (List.length a_1.L)) = min a_2.d (lotW a_2.L (List.length a_2.L))) ∧ Ob ((↑a_1.i : Int) = (↑a_1.i : Int)) ∧ Ob ((0 : Int) = (↑a_2.j : Int)) ∧ Ob
  (List.length a_1.L = List.length a_2.L ∧ ∀ (i : Nat), i < List.length a_2.L → (El.fn fun (i : Nat) ↦ [SV.i IntKind.i64 (lotD a_1.d a_1.L i)]).at i = (El.fn fun (i : Nat) ↦ [SV.i IntKind.i64 (lotD a_2.d a_2.L i)]).at i) ∧
  Ob (List.length a_1.L = List.length a_2.L ∧ ∀ (i : Nat), i < List.length a_2.L → (El.fn (Rv.elemOf [IntKind.i64, IntKind.i64] a_1.L)).at i = (El.fn (Rv.elemOf [IntKind.i64, IntKind.i64] a_2.L)).at i) ∧ Ob (a_1.q = a_2.q)
  ∧ Ob (PlainE (List.length a_2.L) (El.fn fun (i : Nat) ↦ [SV.i IntKind.i64 (lotD a_2.d a_2.L i)])) ∧ Ob (PlainE (List.length a_2.L) (El.fn (Rv.elemOf [IntKind.i64, IntKind.i64] a_2.L))) ∧ True) ∧ ∀ (a_2 : Tj), a_2.b.Ok ∧
  List.length a_2.L = List.length a_1.L ∧ (↑a_2.i : Int) = (↑a_1.i : Int) ∧ a_2.i < List.length a_2.L ∧ a_2.j ≤ a_2.i ∧ a_2.b.Dd → ∀ (z_349 z_350 z_351 z_352 z_353 z_354 z_355 z_356 z_357 z_358 z_359 z_360 z_361 z_362
  z_363 z_364 z_365 z_366 z_367 z_368 z_369 z_370 z_371 z_372 z_373 z_374 z_375 z_376 z_377 z_378 z_379 z_380 z_381 z_382 z_383 z_384 z_385 z_386 z_387 z_388 z_389 z_390 z_391 z_392 z_393 z_394 z_395 z_396 z_397 z_398
  z_399 z_400 z_401 z_402 z_403 z_404 z_405 z_406 z_407 z_408 z_409 z_410 z_411 z_412 z_413 z_414 z_415 z_416 z_417 z_418 z_419 z_420 z_421 z_422 z_423 z_424 z_425 z_426 z_427 z_428 z_429 z_430 z_431 z_432 z_433 z_434
  z_435 z_436 z_437 z_438 z_439 z_440 z_441 z_442 z_443 z_444 z_445 z_446 z_447 z_448 z_449 z_450 z_451 z_452 z_453 z_454 z_455 z_456 z_457 z_458 z_459 z_460 z_461 z_462 z_463 z_464 z_465 z_466 z_467 z_468 z_469 z_470
  z_471 z_472 z_473 z_474 z_475 z_476 z_477 z_478 z_479 z_480 z_481 z_482 z_483 z_484 z_485 z_486 z_487 z_488 z_489 z_490 z_491 z_492 z_493 z_494 z_495 z_496 z_497 z_498 z_499 z_500 z_501 z_502 z_503 z_504 z_505 z_506
  z_507 z_508 z_509 z_510 z_511 z_512 z_513 z_514 z_515 z_516 z_517 z_518 z_519 z_520 z_521 : Value), ((↑a_2.j : Int) < (↑a_1.i : Int) → Ob ((0 : Int) ≤ (↑a_2.j : Int) ∧ a_2.j < List.length a_1.L) ∧ Ob (a_2.j < List.length
  a_2.L) ∧ Ob ((0 : Int) ≤ (↑a_1.i : Int) ∧ a_1.i < List.length a_1.L) ∧ Ob (a_1.i < List.length a_2.L) ∧ (cell a_2.L a_2.j ((0 : Nat)) = cell a_2.L a_1.i ((0 : Nat)) ∧ cell a_2.L a_2.j ((1 : Nat)) = cell a_2.L a_1.i ((1 :
  Nat)) ∧ True → Ob ((0 : Int) ≤ (↑a_2.j : Int) ∧ a_2.j < List.length a_2.L) ∧ Ob (a_2.j < List.length a_2.L) ∧ Ob ((0 : Int) ≤ (↑a_1.i : Int) ∧ a_1.i < List.length a_2.L) ∧ Ob (a_1.i < List.length a_2.L) ∧ Ob (InR
  IntKind.i64 (lotD a_2.d a_2.L a_1.i + (2 : Int))) ∧ (¬lotD a_2.d a_2.L a_1.i + (2 : Int) < lotD a_2.d a_2.L a_2.j → Ob ((0 : Int) ≤ (↑a_1.i : Int) ∧ a_1.i < List.length a_2.L) ∧ Ob (a_1.i < List.length a_2.L) ∧ Ob ((0 :
  Int) ≤ (↑a_2.j : Int) ∧ a_2.j < List.length a_2.L) ∧ Ob (a_2.j < List.length a_2.L) ∧ Ob (InR IntKind.i64 (lotD a_2.d a_2.L a_2.j + (2 : Int))) ∧ (lotD a_2.d a_2.L a_2.j + (2 : Int) < lotD a_2.d a_2.L a_1.i → False) ∧
  (¬lotD a_2.d a_2.L a_2.j + (2 : Int) < lotD a_2.d a_2.L a_1.i → Ob (InR IntKind.i64 ((↑a_2.j : Int) + (1 : Int))) ∧ ∃ (a' : Tj), Ob ((a'.b.Ok ∧ List.length a'.L = List.length a_1.L ∧ (↑a'.i : Int) = (↑a_1.i : Int) ∧ a'.i
  < List.length a'.L ∧ a'.j ≤ a'.i ∧ a'.b.Dd) ∧ a'.i - a'.j < a_2.i - a_2.j) ∧ Ob (List.length a_1.L = List.length a_1.L) ∧ Ob (lotS a_2.L (List.length a_2.L) = lotS a'.L (List.length a'.L)) ∧ Ob (lotW a_2.L (List.length
  a_2.L) = lotW a'.L (List.length a'.L)) ∧ Ob (a_2.d = a'.d) ∧ Ob (List.length a_2.L = List.length a'.L) ∧ Ob (min a_2.d (lotW a_2.L (List.length a_2.L)) = min a'.d (lotW a'.L (List.length a'.L))) ∧ Ob ((↑a_1.i : Int) =
  (↑a_1.i : Int)) ∧ Ob ((↑a_2.j : Int) + (1 : Int) = (↑a'.j : Int)) ∧ Ob (List.length a_2.L = List.length a'.L ∧ ∀ (i : Nat), i < List.length a'.L → (El.fn fun (i : Nat) ↦ [SV.i IntKind.i64 (lotD a_2.d a_2.L i)]).at i =
  (El.fn fun (i : Nat) ↦ [SV.i IntKind.i64 (lotD a'.d a'.L i)]).at i) ∧ Ob (List.length a_2.L = List.length a'.L ∧ ∀ (i : Nat), i < List.length a'.L → (El.fn (Rv.elemOf [IntKind.i64, IntKind.i64] a_2.L)).at i = (El.fn
  (Rv.elemOf [IntKind.i64, IntKind.i64] a'.L)).at i) ∧ Ob (a_2.q = a'.q) ∧ Ob (PlainE (List.length a'.L) (El.fn fun (i : Nat) ↦ [SV.i IntKind.i64 (lotD a'.d a'.L i)])) ∧ Ob (PlainE (List.length a'.L) (El.fn (Rv.elemOf
  [IntKind.i64, IntKind.i64] a'.L))) ∧ True)) ∧ (lotD a_2.d a_2.L a_1.i + (2 : Int) < lotD a_2.d a_2.L a_2.j → False)) ∧ (¬(cell a_2.L a_2.j ((0 : Nat)) = cell a_2.L a_1.i ((0 : Nat)) ∧ cell a_2.L a_2.j ((1 : Nat)) = cell
  a_2.L a_1.i ((1 : Nat)) ∧ True) → Ob (InR IntKind.i64 ((↑a_2.j : Int) + (1 : Int))) ∧ ∃ (a' : Tj), Ob ((a'.b.Ok ∧ List.length a'.L = List.length a_1.L ∧ (↑a'.i : Int) = (↑a_1.i : Int) ∧ a'.i < List.length a'.L ∧ a'.j ≤
  a'.i ∧ a'.b.Dd) ∧ a'.i - a'.j < a_2.i - a_2.j) ∧ Ob (List.length a_1.L = List.length a_1.L) ∧ Ob (lotS a_2.L (List.length a_2.L) = lotS a'.L (List.length a'.L)) ∧ Ob (lotW a_2.L (List.length a_2.L) = lotW a'.L
  (List.length a'.L)) ∧ Ob (a_2.d = a'.d) ∧ Ob (List.length a_2.L = List.length a'.L) ∧ Ob (min a_2.d (lotW a_2.L (List.length a_2.L)) = min a'.d (lotW a'.L (List.length a'.L))) ∧ Ob ((↑a_1.i : Int) = (↑a_1.i : Int)) ∧ Ob
  ((↑a_2.j : Int) + (1 : Int) = (↑a'.j : Int)) ∧ Ob (List.length a_2.L = List.length a'.L ∧ ∀ (i : Nat), i < List.length a'.L → (El.fn fun (i : Nat) ↦ [SV.i IntKind.i64 (lotD a_2.d a_2.L i)]).at i = (El.fn fun (i : Nat) ↦
  [SV.i IntKind.i64 (lotD a'.d a'.L i)]).at i) ∧ Ob (List.length a_2.L = List.length a'.L ∧ ∀ (i : Nat), i < List.length a'.L → (El.fn (Rv.elemOf [IntKind.i64, IntKind.i64] a_2.L)).at i = (El.fn (Rv.elemOf [IntKind.i64,
  IntKind.i64] a'.L)).at i) ∧ Ob (a_2.q = a'.q) ∧ Ob (PlainE (List.length a'.L) (El.fn fun (i : Nat) ↦ [SV.i IntKind.i64 (lotD a'.d a'.L i)])) ∧ Ob (PlainE (List.length a'.L) (El.fn (Rv.elemOf [IntKind.i64, IntKind.i64]
  a'.L))) ∧ True)) ∧ (¬(↑a_2.j : Int) < (↑a_1.i : Int) → Ob (InR IntKind.i64 ((↑a_1.i : Int) + (1 : Int))) ∧ ∃ (a' : Ts), Ob ((a'.Ok ∧ a'.i ≤ List.length a'.L ∧ a'.Dd) ∧ List.length a'.L - a'.i < List.length a_1.L - a_1.i)
  ∧ Ob (List.length a_1.L = List.length a'.L) ∧ Ob (lotS a_2.L (List.length a_2.L) = lotS a'.L (List.length a'.L)) ∧ Ob (lotW a_2.L (List.length a_2.L) = lotW a'.L (List.length a'.L)) ∧ Ob (a_2.d = a'.d) ∧ Ob (List.length
  a_2.L = List.length a'.L) ∧ Ob (min a_2.d (lotW a_2.L (List.length a_2.L)) = min a'.d (lotW a'.L (List.length a'.L))) ∧ Ob ((↑a_1.i : Int) + (1 : Int) = (↑a'.i : Int)) ∧ Ob (List.length a_2.L = List.length a'.L ∧ ∀ (i :
  Nat), i < List.length a'.L → (El.fn fun (i : Nat) ↦ [SV.i IntKind.i64 (lotD a_2.d a_2.L i)]).at i = (El.fn fun (i : Nat) ↦ [SV.i IntKind.i64 (lotD a'.d a'.L i)]).at i) ∧ Ob (List.length a_2.L = List.length a'.L ∧ ∀ (i :
  Nat), i < List.length a'.L → (El.fn (Rv.elemOf [IntKind.i64, IntKind.i64] a_2.L)).at i = (El.fn (Rv.elemOf [IntKind.i64, IntKind.i64] a'.L)).at i) ∧ Ob (a_2.q = a'.q) ∧ Ob (PlainE (List.length a'.L) (El.fn fun (i : Nat)
  ↦ [SV.i IntKind.i64 (lotD a'.d a'.L i)])) ∧ Ob (PlainE (List.length a'.L) (El.fn (Rv.elemOf [IntKind.i64, IntKind.i64] a'.L))) ∧ True))) ∧ (((if lotW a_1.L (List.length a_1.L) = (0 : Int) then (0 : Int) else (min a_1.d
  (lotW a_1.L (List.length a_1.L)) * cell a_1.L a_1.i ((1 : Nat)) + lotW a_1.L (List.length a_1.L) - (1 : Int)) / lotW a_1.L (List.length a_1.L)) + if lotS a_1.L (List.length a_1.L) = (0 : Int) then (0 : Int) else ((a_1.d
  - min a_1.d (lotW a_1.L (List.length a_1.L))) * cell a_1.L a_1.i ((0 : Nat)) + lotS a_1.L (List.length a_1.L) - (1 : Int)) / lotS a_1.L (List.length a_1.L)) < lotD a_1.d a_1.L a_1.i → False)) ∧ ((lotD a_1.d a_1.L a_1.i <
  (if lotW a_1.L (List.length a_1.L) = (0 : Int) then (0 : Int) else min a_1.d (lotW a_1.L (List.length a_1.L)) * cell a_1.L a_1.i ((1 : Nat)) / lotW a_1.L (List.length a_1.L)) + if lotS a_1.L (List.length a_1.L) = (0 :
  Int) then (0 : Int) else (a_1.d - min a_1.d (lotW a_1.L (List.length a_1.L))) * cell a_1.L a_1.i ((0 : Nat)) / lotS a_1.L (List.length a_1.L)) → False)) ∧ (¬(↑a_1.i : Int) < (↑(List.length a_1.L) : Int) → Ob (hasTabs []
  B) ∧ True))) ∧ (¬(↑rows_2.length : Int) = (↑(List.length a.L) : Int) → False)) ∧ (¬v_7 = (0 : Int) → False))

set_option linter.unusedSimpArgs false in
set_option maxRecDepth 4000 in
set_option maxHeartbeats 2000000 in
theorem v_law : V_law := by
  unfold V_law
  intro B htab xz N hz hoz hrz hN
  refine ⟨N, ⟨⟨hz, rfl, hrz, fun _ _ => rfl⟩⟩, ⟨hN⟩, ?_⟩
  obtain ⟨a, ha⟩ : ∃ a, tideK N N.length = a := ⟨_, rfl⟩
  rw [ha]
  clear ha
  refine ⟨⟨by show (0 : Int) ≤ 8 ∧ (8 : Int) ≤ 1000; omega⟩, ?_⟩
  intro v hv
  clear hv
  have hk : (belowV a ((8 : Int) + 1)).toNat ≤ 8 := by
    have h := belowV_in a ((8 : Int) + 1)
    obtain ⟨x, hx⟩ : ∃ x, x = belowV a ((8 : Int) + 1) := ⟨_, rfl⟩
    rw [← hx] at h ⊢
    clear hx
    omega
  obtain ⟨k, ek⟩ : ∃ k, (belowV a ((8 : Int) + 1)).toNat = k := ⟨_, rfl⟩
  rw [ek] at hk ⊢
  clear ek
  obtain ⟨q, eq⟩ : ∃ q, belowA a ((8 : Int) + 1) = q := ⟨_, rfl⟩
  rw [eq]
  clear eq
  have lL := it_len ltQ ltR q k
  have rL : ∀ r ∈ itR ltQ ltR q k, r.length = 2 := it_mem (p := fun r => r.length = 2) (fun b => by obtain ⟨x, y, h, _⟩ := lt_in b; rw [h]; rfl) _
  have cL : ∀ i, i < k → 0 ≤ cell (itR ltQ ltR q k) i 0 ∧ cell (itR ltQ ltR q k) i 0 < 300 ∧ 0 ≤ cell (itR ltQ ltR q k) i 1 ∧ cell (itR ltQ ltR q k) i 1 < 6 := fun i hi => by
    rw [it_cell _ _ _ hi, it_cell _ _ _ hi]
    obtain ⟨x, y, h, h1⟩ := lt_in (itQ ltQ q i)
    rw [h]
    exact h1
  obtain ⟨L, eL⟩ : ∃ L, itR ltQ ltR q k = L := ⟨_, rfl⟩
  rw [eL] at lL rL cL ⊢
  clear eL
  subst lL
  constructor
  · refine ⟨⟨0, 0, v, L⟩, ⟨⟨⟨hk, rL, cL⟩, Nat.zero_le _⟩⟩, ?_⟩
    dsimp only
    repeat' (with_reducible apply And.intro)
    all_goals first | exact ⟨rfl⟩ | exact ⟨plain_elemOf _ _ _⟩ | exact ⟨⟨rfl, fun _ _ => rfl⟩⟩ | trivial
  intro v hv
  obtain ⟨hv, hi⟩ := hv
  intros
  have l1 := hv.l
  constructor
  · intro h1
    have hi' : v.i < v.L.length := by omega
    have hb := hv.bd (k := v.i) (by omega)
    have hc := hv.c v.i hi'
    have q0 : (0 : Int) ≤ (v.i : Int) ∧ v.i < v.L.length := ⟨by omega, hi'⟩
    refine ⟨⟨q0⟩, ⟨hi'⟩, ⟨by simp only [InR]; omega⟩, ⟨q0⟩, ⟨hi'⟩, ⟨by simp only [InR]; omega⟩, ⟨by simp only [InR]; omega⟩, ⟨v.i + 1, v.d, v.q, v.L⟩, ⟨⟨⟨hv.l, hv.r, hv.c⟩, by show v.i + 1 ≤ v.L.length; omega⟩, by show v.L.length - (v.i + 1) < v.L.length - v.i; omega⟩, ?_⟩
    dsimp only
    repeat' (with_reducible apply And.intro)
    all_goals first | exact ⟨rfl⟩ | exact ⟨plain_elemOf _ _ _⟩ | exact ⟨⟨rfl, fun _ _ => rfl⟩⟩ | trivial
  intro h1
  have ei : v.i = v.L.length := by omega
  rw [ei]
  have hb := hv.bd (Nat.le_refl _)
  obtain ⟨S, hS⟩ : ∃ S, lotS v.L v.L.length = S := ⟨_, rfl⟩
  obtain ⟨W, hW⟩ : ∃ W, lotW v.L v.L.length = W := ⟨_, rfl⟩
  rw [hS, hW] at hb
  rw [hS, hW]
  refine ⟨⟨by simp only [InR]; omega⟩, ⟨by simp only [InR]; omega⟩, ⟨by show (-1000000000000 : Int) ≤ 0 ∧ (0 : Int) ≤ 1000000000000 ∧ -1000000000000 ≤ S + W ∧ S + W ≤ 1000000000000; omega⟩, ?_⟩
  intro v1 hv1 v2 hv2
  have b2 : 0 ≤ v2 ∧ v2 ≤ S + W := by
    have h := belowV_in v.q (S + W - 0 + 1)
    obtain ⟨x, hx⟩ : ∃ x, x = belowV v.q (S + W - 0 + 1) := ⟨_, rfl⟩
    rw [← hx] at h hv2
    clear hx hv1
    omega
  clear hv1 hv2
  refine ⟨⟨by show (-1000000000000 : Int) ≤ 0 ∧ (0 : Int) ≤ 1000000000000 ∧ -1000000000000 ≤ W ∧ W ≤ 1000000000000; omega⟩, ?_⟩
  intro v3 hv3 v4 hv4
  have b4 : 0 ≤ v4 ∧ v4 ≤ W := by
    have h := belowV_in v1 (W - 0 + 1)
    obtain ⟨x, hx⟩ : ∃ x, x = belowV v1 (W - 0 + 1) := ⟨_, rfl⟩
    rw [← hx] at h hv4
    clear hx hv3
    omega
  clear hv3 hv4
  refine ⟨⟨by show 3 ≤ 1000; omega⟩, ?_⟩
  intro v5 hv5 v6 hv6
  have b6 : 0 ≤ v6 ∧ v6 ≤ S + W := by
    have h : v6 = S + W ∨ v6 = v2 ∨ v6 = v4 := by rw [hv6]; exact ofV_three' _ _ _ _
    clear hv5 hv6
    omega
  clear hv5 hv6
  have hok : (Ts.mk 0 v6 v5 v.L).Ok := ⟨hv.l, hv.r, hv.c⟩
  have hdd : (Ts.mk 0 v6 v5 v.L).Dd := ⟨b6.1, by show v6 ≤ lotS v.L v.L.length + lotW v.L v.L.length; rw [hS, hW]; exact b6.2⟩
  have hsum : sumF (lotD v6 v.L) v.L.length = v6 := hok.sum hdd
  refine ⟨v.L, ⟨⟨rfl, rfl, hv.r, fun _ _ => rfl⟩⟩, ⟨⟨by omega, fun i hi => by have := hv.c i hi; omega, b6.1, by rw [hS, hW]; exact b6.2⟩⟩, ?_⟩
  intro v7 hv7
  subst hv7
  refine ⟨fun _ => ⟨fun _ => ?_, fun h => h rfl⟩, fun h => h rfl⟩
  have htot : totTo (listT (lotD v6 v.L) v.L.length) (listT (lotD v6 v.L) v.L.length).length = v6 := by rw [listT_len, listT_tot _ _ _ (Nat.le_refl _), hsum]
  refine ⟨listT (lotD v6 v.L) v.L.length, ⟨⟨rfl, listT_len _ _, listT_row _ _, fun i hi => listT_at _ hi⟩⟩, ⟨⟨by rw [listT_len]; omega, fun i hi => ?_⟩⟩, fun h => h htot, fun _ => ?_⟩
  · rw [listT_len] at hi
    rw [listT_cell _ hi]
    have h1 := (hok.is hdd (i := i) hi).2.2
    have h2 : 0 ≤ lotD v6 v.L i := h1.1
    have h3 : lotD v6 v.L i ≤ cell v.L i 0 + cell v.L i 1 := h1.2
    have h4 := hv.c i hi
    omega
  constructor
  · refine ⟨⟨0, v6, v5, v.L⟩, ⟨⟨hok, Nat.zero_le _, hdd⟩⟩, ?_⟩
    dsimp only
    rw [hS, hW]
    repeat' (with_reducible apply And.intro)
    all_goals first | exact ⟨rfl⟩ | exact ⟨plain_elemOf _ _ _⟩ | exact ⟨plain_fnD _ _⟩ | exact ⟨⟨rfl, fun _ _ => rfl⟩⟩ | trivial
  clear htot hsum hdd hok b6 b4 b2 hS hW hb h1 ei hi l1
  intro v hv
  obtain ⟨hv, hi, hd⟩ := hv
  intros
  have l1 := hv.l
  have hb := hv.bd (Nat.le_refl _)
  have hd0 : 0 ≤ v.d := hd.1
  have hd1 : v.d ≤ lotS v.L v.L.length + lotW v.L v.L.length := hd.2
  constructor
  · intro h1
    have hi' : v.i < v.L.length := by omega
    have q0 : (0 : Int) ≤ (v.i : Int) ∧ v.i < v.L.length := ⟨by omega, hi'⟩
    have hc := hv.c v.i hi'
    have hx := hv.is hd hi'
    have pw : 0 ≤ min v.d (lotW v.L v.L.length) ∧ min v.d (lotW v.L v.L.length) ≤ 1000000 ∧ 0 ≤ cell v.L v.i 1 ∧ cell v.L v.i 1 ≤ 1000000 ∧ 0 ≤ lotW v.L v.L.length ∧ lotW v.L v.L.length ≤ 1000000 := by omega
    have ps : 0 ≤ v.d - min v.d (lotW v.L v.L.length) ∧ v.d - min v.d (lotW v.L v.L.length) ≤ 1000000 ∧ 0 ≤ cell v.L v.i 0 ∧ cell v.L v.i 0 ≤ 1000000 ∧ 0 ≤ lotS v.L v.L.length ∧ lotS v.L v.L.length ≤ 1000000 := by omega
    have iw := part_in pw.1 pw.2.1 pw.2.2.1 pw.2.2.2.1 pw.2.2.2.2.1 pw.2.2.2.2.2
    have is := part_in ps.1 ps.2.1 ps.2.2.1 ps.2.2.2.1 ps.2.2.2.2.1 ps.2.2.2.2.2
    have r0 : InR .i64 (v.d - min v.d (lotW v.L v.L.length)) := by simp only [InR]; omega
    have r1 := add_in iw.1 (Int.le_trans iw.2.1 (by decide)) is.1 (Int.le_trans is.2.1 (by decide))
    have r2 := add_in iw.2.2.1 iw.2.2.2 is.2.2.1 is.2.2.2
    have r3 : InR .i64 (cell v.L v.i 0 + cell v.L v.i 1) := by simp only [InR]; omega
    refine ⟨⟨q0⟩, ⟨hi'⟩, ⟨pw⟩, ⟨r0⟩, ⟨q0⟩, ⟨hi'⟩, ⟨ps⟩, ⟨q0⟩, ⟨hi'⟩, ⟨r1⟩, fun _ => ⟨⟨q0⟩, ⟨hi'⟩, ⟨r2⟩, fun _ => ⟨⟨q0⟩, ⟨hi'⟩, ⟨q0⟩, ⟨hi'⟩, ⟨q0⟩, ⟨hi'⟩, ⟨r3⟩, fun h => absurd h (Int.not_lt.2 hx.2.2.2), fun _ => ?_⟩, fun h => absurd h (Int.not_lt.2 hx.2.1)⟩, fun h => absurd h (Int.not_lt.2 hx.1)⟩
    clear r0 r1 r2 r3 iw is pw ps hx hc
    constructor
    · refine ⟨⟨0, v.i, v.d, v.q, v.L⟩, ⟨⟨⟨hv.l, hv.r, hv.c⟩, rfl, rfl, hi', Nat.zero_le _, hd⟩⟩, ?_⟩
      dsimp only
      repeat' (with_reducible apply And.intro)
      all_goals first | exact ⟨rfl⟩ | exact ⟨plain_elemOf _ _ _⟩ | exact ⟨plain_fnD _ _⟩ | exact ⟨⟨rfl, fun _ _ => rfl⟩⟩ | trivial
    intro w hw
    obtain ⟨hw, hwl, hwi, hiw0, hj, hwd⟩ := hw
    intros
    have hwi : w.i = v.i := by omega
    have hok : w.b.Ok := hw
    have hdw : w.b.Dd := hwd
    have hiw : v.i < w.L.length := by omega
    constructor
    · intro h2
      have hj1 : w.j < v.i := by omega
      have hjw : w.j < w.L.length := by omega
      have n1 : cell w.L w.j 0 = cell w.L v.i 0 ∧ cell w.L w.j 1 = cell w.L v.i 1 ∧ True → lotD w.d w.L w.j ≤ lotD w.d w.L v.i + 2 := fun h => hok.near hdw (i := w.j) (k := v.i) hjw hiw h.1 h.2.1
      have n2 : cell w.L w.j 0 = cell w.L v.i 0 ∧ cell w.L w.j 1 = cell w.L v.i 1 ∧ True → lotD w.d w.L v.i ≤ lotD w.d w.L w.j + 2 := fun h => hok.near hdw (i := v.i) (k := w.j) hiw hjw h.1.symm h.2.1.symm
      have x1 : 0 ≤ lotD w.d w.L v.i ∧ lotD w.d w.L v.i ≤ cell w.L v.i 0 + cell w.L v.i 1 := (hok.is hdw (i := v.i) hiw).2.2
      have x2 : 0 ≤ lotD w.d w.L w.j ∧ lotD w.d w.L w.j ≤ cell w.L w.j 0 + cell w.L w.j 1 := (hok.is hdw (i := w.j) hjw).2.2
      have c1 : 0 ≤ cell w.L v.i 0 ∧ cell w.L v.i 0 < 300 ∧ 0 ≤ cell w.L v.i 1 ∧ cell w.L v.i 1 < 6 := hok.c v.i hiw
      have c2 : 0 ≤ cell w.L w.j 0 ∧ cell w.L w.j 0 < 300 ∧ 0 ≤ cell w.L w.j 1 ∧ cell w.L w.j 1 < 6 := hok.c w.j hjw
      have s1 : InR .i64 (lotD w.d w.L v.i + 2) := by simp only [InR]; omega
      have s2 : InR .i64 (lotD w.d w.L w.j + 2) := by simp only [InR]; omega
      have rj : InR .i64 ((w.j : Int) + 1) := by simp only [InR]; omega
      have nx : ((Tj.mk (w.j + 1) w.i w.d w.q w.L).b.Ok ∧ w.L.length = v.L.length ∧ (w.i : Int) = (v.i : Int) ∧ w.i < w.L.length ∧ w.j + 1 ≤ w.i ∧ (Tj.mk (w.j + 1) w.i w.d w.q w.L).b.Dd) ∧ w.i - (w.j + 1) < w.i - w.j := ⟨⟨hok, hwl, by omega, hiw0, by omega, hdw⟩, by omega⟩
      have p1 : (0 : Int) ≤ (w.j : Int) ∧ w.j < v.L.length := ⟨by omega, by omega⟩
      have p2 : (0 : Int) ≤ (w.j : Int) ∧ w.j < w.L.length := ⟨by omega, by omega⟩
      have p3 : (0 : Int) ≤ (v.i : Int) ∧ v.i < v.L.length := ⟨by omega, by omega⟩
      have p4 : (0 : Int) ≤ (v.i : Int) ∧ v.i < w.L.length := ⟨by omega, by omega⟩
      refine ⟨⟨p1⟩, ⟨hjw⟩, ⟨p3⟩, ⟨hiw⟩, fun h3 => ?_, fun h3 => ?_⟩
      · have m1 := n1 h3
        have m2 := n2 h3
        refine ⟨⟨p2⟩, ⟨hjw⟩, ⟨p4⟩, ⟨hiw⟩, ⟨s1⟩, fun _ => ⟨⟨p4⟩, ⟨hiw⟩, ⟨p2⟩, ⟨hjw⟩, ⟨s2⟩, fun h => absurd h (Int.not_lt.2 m2), fun _ => ?_⟩, fun h => absurd h (Int.not_lt.2 m1)⟩
        exact ⟨⟨rj⟩, ⟨w.j + 1, w.i, w.d, w.q, w.L⟩, ⟨nx⟩, ⟨rfl⟩, ⟨rfl⟩, ⟨rfl⟩, ⟨rfl⟩, ⟨rfl⟩, ⟨rfl⟩, ⟨rfl⟩, ⟨rfl⟩, ⟨⟨rfl, fun _ _ => rfl⟩⟩, ⟨⟨rfl, fun _ _ => rfl⟩⟩, ⟨rfl⟩, ⟨plain_fnD _ _⟩, ⟨plain_elemOf _ _ _⟩, trivial⟩
      · exact ⟨⟨rj⟩, ⟨w.j + 1, w.i, w.d, w.q, w.L⟩, ⟨nx⟩, ⟨rfl⟩, ⟨rfl⟩, ⟨rfl⟩, ⟨rfl⟩, ⟨rfl⟩, ⟨rfl⟩, ⟨rfl⟩, ⟨rfl⟩, ⟨⟨rfl, fun _ _ => rfl⟩⟩, ⟨⟨rfl, fun _ _ => rfl⟩⟩, ⟨rfl⟩, ⟨plain_fnD _ _⟩, ⟨plain_elemOf _ _ _⟩, trivial⟩
    intro h2
    have ri : InR .i64 ((v.i : Int) + 1) := by simp only [InR]; omega
    have hb2 : (Ts.mk (v.i + 1) w.d w.q w.L).Ok := ⟨hok.l, hok.r, hok.c⟩
    refine ⟨⟨ri⟩, ⟨v.i + 1, w.d, w.q, w.L⟩, ⟨⟨hb2, by show v.i + 1 ≤ w.L.length; omega, hdw⟩, by show w.L.length - (v.i + 1) < v.L.length - v.i; omega⟩, ?_⟩
    dsimp only
    repeat' (with_reducible apply And.intro)
    all_goals first | exact ⟨rfl⟩ | exact ⟨plain_elemOf _ _ _⟩ | exact ⟨plain_fnD _ _⟩ | exact ⟨⟨rfl, fun _ _ => rfl⟩⟩ | exact ⟨hwl.symm⟩ | trivial
  intro h1
  exact ⟨⟨htab⟩, trivial⟩

theorem e_law : V_law = needL P [F_Total, F_part] [F_TideOf.named, F_LotsOf.named, F_From.named, F_Of.named, F_ShareU.named] 5 ([] : Tabs) A_law F_law := by kernel_rfl

theorem n_law : Ob (needL P [F_Total, F_part] [F_TideOf.named, F_LotsOf.named, F_From.named, F_Of.named, F_ShareU.named] 5 ([] : Tabs) A_law F_law) := by
  rw [← e_law]
  exact ⟨v_law⟩

theorem l_law : (([F_Total, F_part] : List Fn0).all fun G => !Nat.beq G.g 5) = true := rfl
theorem le_law : ([F_TideOf.named, F_LotsOf.named, F_From.named, F_Of.named, F_ShareU.named].all fun G => !Nat.beq G.g 5) = true := rfl
theorem c_law : ∀ F ∈ ([F_Total, F_part] : List Fn0), F.Ok P := by
  intro F h
  simp only [List.mem_cons, List.not_mem_nil, or_false] at h
  rcases h with rfl | rfl
  · exact Total_ok
  · exact part_ok

theorem ce_law : ∀ F ∈ [F_TideOf.named, F_LotsOf.named, F_From.named, F_Of.named, F_ShareU.named], F.Ok P := by
  intro F h
  simp only [List.mem_cons, List.not_mem_nil, or_false] at h
  rcases h with rfl | rfl | rfl | rfl | rfl
  · exact TideOf_ok.named
  · exact LotsOf_ok.named
  · exact From_ok.named
  · exact Of_ok.named
  · exact ShareU_ok.named

end Go.Proofs.Ytlnldabgbfcdcaa.Sy
