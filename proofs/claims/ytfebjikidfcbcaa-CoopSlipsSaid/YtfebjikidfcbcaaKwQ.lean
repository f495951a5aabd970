import Derived.Test.YtfebjikidfcbcaaKwH
import Derived.Test.YtfebjikidfcbcaaKwN
import Derived.Test.YtfebjikidfcbcaaKwO
import Derived.Test.YtfebjikidfcbcaaProg
namespace Go.Proofs.Ytfebjikidfcbcaa.Sy
open Go Go.Rv
set_option linter.unusedVariables false
theorem ofV_thr (a x y z:Int):ofV a [[x],[y],[z]]=x∨ofV a [[x],[y],[z]]=y∨ofV a [[x],[y],[z]]=z:=by
 have h:=belowV_in a 3
 have e:ofV a [[x],[y],[z]]=cell [[x],[y],[z]] (belowV a 3).toNat 0:=by simp [ofV]
 rw [e]
 have:(belowV a 3).toNat=0∨(belowV a 3).toNat=1∨(belowV a 3).toNat=2:=by
  generalize belowV a 3=q at *
  omega
 rcases this with h0 | h0 | h0<;>rw [h0]
 ·exact .inl rfl
 ·exact .inr (.inl rfl)
 ·exact .inr (.inr rfl)
theorem acS_in (b:Int):0≤acS b∧acS b≤5000:=by
 have h:=belowV_in (acB4 b) 5000
 have h1:0≤acV3 b∧acV3 b≤5000:=by
  unfold acV3
  omega
 unfold acS
 rcases ofV_thr (acB5 b) 0 0 (acV3 b)with e | e | e<;>rw [e]<;>omega
theorem co_len (a most:Int) (k:Nat):(coR a most k).length=k:=it_len _ _ _ _
theorem co_row (a most:Int) (k:Nat):∀r∈coR a most k,r.length=3:=by
 induction k with
 | zero=>intro r hr; simp [coR,itR]at hr
 | succ k ih =>
  intro r hr
  rw [coR_succ]at hr
  rcases List.mem_append.1 hr with h | h
  ·exact ih r h
  ·rw [List.mem_singleton.1 h]; rfl
theorem owed_gen {o f g:Nat→Int} (h0:o 0=0) (hs:∀k,o (k+1)=o k+f k-g k):∀k,sumF f k-sumF g k=o k
 | 0=>by rw [h0]; rfl
 | k+1=>by
  have ih:=owed_gen h0 hs k
  have e0:sumF f (k+1)=sumF f k+f k:=rfl
  have e1:sumF g (k+1)=sumF g k+g k:=rfl
  rw [hs k,e0,e1]
  omega
theorem co_c0 (a most:Int) {k j:Nat} (h:j < k):cell (coR a most k) j 0=acB (itQ acQ (coA7 a most) j):=(it_cell acQ acR (coA7 a most) h 0).trans l3_0
theorem co_c1 (a most:Int) {k j:Nat} (h:j < k):cell (coR a most k) j 1=acD (itQ acQ (coA7 a most) j):=(it_cell acQ acR (coA7 a most) h 1).trans l3_1
theorem co_c2 (a most:Int) {k j:Nat} (h:j < k):cell (coR a most k) j 2=acS (itQ acQ (coA7 a most) j):=(it_cell acQ acR (coA7 a most) h 2).trans l3_2
theorem co_owed (a most:Int) (n:Nat):colS 0 (coR a most n) n-colS 1 (coR a most n) n=coO a most n:=by
 have h0:colS 0 (coR a most n) n=sumF (fun k=>acB (itQ acQ (coA7 a most) k)) n:=sumF_congr fun i hi=>co_c0 a most hi
 have h1:colS 1 (coR a most n) n=sumF (fun k=>acD (itQ acQ (coA7 a most) k)) n:=sumF_congr fun i hi=>co_c1 a most hi
 rw [h0,h1]
 exact owed_gen (o:=coO a most) rfl (coO_succ a most) n
theorem coF_in (a:Int):0≤coF a∧coF a≤1000000:=by
 have h3:=belowV_in a 300000
 have h4:0≤coV1 a∧coV1 a≤300000:=by unfold coV1; omega
 unfold coF
 rcases ofV_thr (coA1 a) 0 20000 (coV1 a)with e | e | e<;>rw [e]<;>omega
theorem coI_in (a:Int):0≤coI a∧coI a≤1000000:=by
 have h3:=belowV_in (coA2 a) 200000
 have h4:0≤coV2 a∧coV2 a≤200000:=by unfold coV2; omega
 unfold coI
 rcases ofV_two (coA3 a) 0 (coV2 a)with e | e<;>rw [e]<;>omega
theorem coP_in (a:Int):0≤coP a∧coP a≤1000:=by
 have h3:=belowV_in (coA4 a) 30
 unfold coP
 omega
theorem coC_in (a:Int):mny (coC a):=by
 unfold coC mny
 rcases ofV_thr (coA5 a) 0 1000 50000 with e | e | e<;>rw [e]<;>omega
theorem co_acc (a most:Int) {n i:Nat} (hi:i < n):accAt (coR a most n) i:=by
 have b0:=acB_in (itQ acQ (coA7 a most) i)
 have b1:=acD_in (itQ acQ (coA7 a most) i)
 have b2:=acS_in (itQ acQ (coA7 a most) i)
 unfold accAt mny
 rw [co_c0 a most hi,co_c1 a most hi,co_c2 a most hi]
 generalize acB (itQ acQ (coA7 a most) i)=x at *
 generalize acD (itQ acQ (coA7 a most) i)=y at *
 generalize acS (itQ acQ (coA7 a most) i)=z at *
 omega
theorem co_gen {fee itr pri cre o w t:Int} {A:Rows} {n:Nat} (hr:(0≤fee∧fee≤1000000)∧(0≤itr∧itr≤1000000)∧(0≤pri∧pri≤1000)∧mny cre) (hl:A.length=n) (hn:1≤n∧n≤12) (ha:∀i,i < n→accAt A i) (ho:colS 0 A n-colS 1 A n=o) (hb:o≤3000*(n:Int)) (ht:t=max 0 o+w) (hw:0≤w∧w≤2000):CoopOk fee itr pri cre A t:=by
 refine⟨hr,by rw [hl]; exact hn,fun i hi=>ha i (by omega),?_,?_⟩
 ·unfold mny
  omega
 ·unfold surp
  rw [hl]
  omega
theorem co_ok (a:Int) {most:Int} (h1:1≤most) (h2:most≤12):CoopOk (coF a) (coI a) (coP a) (coC a) (coR a most (coN a most).toNat) (coT a most):=by
 have hn:=coN_in (a:=a) h1
 refine co_gen ⟨coF_in a,coI_in a,coP_in a,coC_in a⟩ (co_len a most _) ?_ (fun i hi=>co_acc a most hi) (co_owed a most _) (coO_in a most _).2 (w:=ofV (coA9 a most) [[0],[coV3 a most]]) rfl (coT_in a)
 generalize coN a most=x at *
 omega
end Go.Proofs.Ytfebjikidfcbcaa.Sy
