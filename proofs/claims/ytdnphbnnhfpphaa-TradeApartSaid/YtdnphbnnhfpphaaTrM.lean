import Derived.Test.YtdnphbnnhfpphaaTrE
namespace Go.Proofs.Ytdnphbnnhfpphaa.Sy
open Go Go.Rv
noncomputable def mrRow (a:Int) (k:Nat):List Int:=[codeOf (gnm k),mrLo (mkQ a k),mrHi (mkQ a k),mrS (mkQ a k),mrW (mkQ a k),mrP (mkQ a k)]
theorem mk_get (a:Int):∀ {k i:Nat},i < k→(mkR a k).getD i []=mrRow a i
 | 0,i,h=>by omega
 | k+1,i,h=>by
  have e:mkR a (k+1)=mkR a k++[mrRow a k]:=rfl
  have hl:=mk_len a k
  rw [e,List.getD_eq_getElem?_getD]
  by_cases h2:i < k
  ·rw [List.getElem?_append_left (by omega),← List.getD_eq_getElem?_getD]
   exact mk_get a h2
  ·have:i=(mkR a k).length:=by omega
   rw [this]
   simp [hl]
theorem mk_mem (a:Int):∀ {k:Nat} {r:List Int},r∈mkR a k→∃i,r=mrRow a i
 | 0,r,h=>by simp [mkR]at h
 | k+1,r,h=>by
  have e:mkR a (k+1)=mkR a k++[mrRow a k]:=rfl
  rw [e,List.mem_append]at h
  rcases h with h | h
  ·exact mk_mem a h
  ·exact⟨k,by simpa using h⟩
theorem ofV_three' (a x y z:Int):ofV a [[x],[y],[z]]=x∨ofV a [[x],[y],[z]]=y∨ofV a [[x],[y],[z]]=z:=by
 have h:=belowV_in a 3
 have e:ofV a [[x],[y],[z]]=cell [[x],[y],[z]] (belowV a 3).toNat 0:=by simp [ofV]
 rw [e]
 have:(belowV a 3).toNat=0∨(belowV a 3).toNat=1∨(belowV a 3).toNat=2:=by
  generalize belowV a 3=q at *
  omega
 rcases this with h0 | h0 | h0<;>rw [h0]
 ·exact .inl rfl
 ·exact .inr (.inl rfl)
 ·exact .inr (.inr rfl)
theorem mr_bd (b:Int):(1≤mrLo b∧mrLo b≤mrHi b∧mrHi b≤20000)∧0≤mrP b∧mrP b≤100000:=by
 have h1:440≤mrLo b∧mrLo b≤620:=by
  have:=belowV_in b (620-440+1)
  unfold mrLo
  generalize belowV b (620-440+1)=q at *
  omega
 have h2:mrO b=mrLo b+20∨mrO b=900:=ofV_two' _ _ _
 have h3:=belowV_in (mrA2 b) (mrO b-mrLo b+1)
 have h4:mrHi b=mrLo b+belowV (mrA2 b) (mrO b-mrLo b+1):=rfl
 have h5:mrP b=0∨mrP b=mrX b∨mrP b=mrY b:=ofV_three' _ _ _ _
 have h6:0≤mrX b∧(mrX b < 2500∨mrX b=0):=belowV_in _ _
 have h7:0≤mrY b∧(mrY b < 100001∨mrY b=0):=belowV_in _ _
 rw [h4]
 generalize belowV (mrA2 b) (mrO b-mrLo b+1)=q at *
 generalize mrP b=p at *
 generalize mrX b=x at *
 generalize mrY b=y at *
 clear h4
 omega
theorem can_tx (s:ByteArray):canC .u16 (codeOf s):=by
 show codeOf (strOf (codeOf s))=codeOf s
 rw [strOf_code]
theorem can_p01 (b:Prop):canC .i8 (p01 b):=(p01_iff b).2
theorem mk_ok (a:Int) {k:Nat} (h:1≤k∧k≤4):MkOk (mkR a k):=by
 have hl:=mk_len a k
 have hc:∀i j,i < k→cell (mkR a k) i j=(mrRow a i).getD j 0:=fun i j hi=>by
  unfold cell
  rw [mk_get a hi]
 refine⟨by omega,fun r hr=>?_,fun r hr=>?_,fun i hi=>?_,fun i hi=>?_⟩
 ·obtain⟨i,rfl⟩:=mk_mem a hr
  rfl
 ·obtain⟨i,rfl⟩:=mk_mem a hr
  exact⟨can_tx (gnm i),trivial,trivial,can_p01 _,can_p01 _,trivial,trivial⟩
 ·rw [hc i 0 (by omega)]
  simp only [mrRow,List.getD_cons_zero]
 ·rw [hc i 1 (by omega),hc i 2 (by omega),hc i 5 (by omega)]
  simp only [mrRow,List.getD_cons_succ,List.getD_cons_zero]
  exact mr_bd (mkQ a i)
end Go.Proofs.Ytdnphbnnhfpphaa.Sy
