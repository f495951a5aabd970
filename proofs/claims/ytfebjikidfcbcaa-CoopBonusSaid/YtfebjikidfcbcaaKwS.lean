import Derived.Test.YtfebjikidfcbcaaSyP2
import Derived.Test.YtfebjikidfcbcaaGrM
import Derived.Test.YtfebjikidfcbcaaStM
import Derived.Test.YtfebjikidfcbcaaLrM
import Derived.Test.YtfebjikidfcbcaaDhM
import Derived.Test.YtfebjikidfcbcaaKtT
import Derived.Test.YtfebjikidfcbcaaKtA
import Derived.Test.YtfebjikidfcbcaaKtB
import Derived.Test.YtfebjikidfcbcaaKwA
import Derived.Test.YtfebjikidfcbcaaKwB
import Derived.Test.YtfebjikidfcbcaaKwC
import Derived.Test.YtfebjikidfcbcaaKwD
import Derived.Test.YtfebjikidfcbcaaKwE
import Derived.Test.YtfebjikidfcbcaaKwF
import Derived.Test.YtfebjikidfcbcaaKwG
import Derived.Test.YtfebjikidfcbcaaKwH
import Derived.Test.YtfebjikidfcbcaaKwI
import Derived.Test.YtfebjikidfcbcaaKwJ
import Derived.Test.YtfebjikidfcbcaaKwK
import Derived.Test.YtfebjikidfcbcaaKwM
import Derived.Test.YtfebjikidfcbcaaKwN
import Derived.Test.YtfebjikidfcbcaaKwO
import Derived.Test.YtfebjikidfcbcaaKwQ
import Derived.Test.YtfebjikidfcbcaaSyP2
import Derived.KernelRfl
import Derived.Test.YtfebjikidfcbcaaProg
namespace Go.Proofs.Ytfebjikidfcbcaa.Sy
open Go Go.Rv
set_option linter.unusedVariables false
structure Bst where
 q:Int
 fee:Int
 itr:Int
 pri:Int
 cre:Int
 till:Int
 d:Int
 A:Rows
structure Bst.Ok (v:Bst):Prop where
 c:CoopOk v.fee v.itr v.pri v.cre v.A v.till
 a:∀r∈v.A,r.length=3
 d:0≤v.d∧v.d≤5000
 b:∀i,i < v.A.length→cell v.A i 0≤100000
structure Blt where
 m:Bst
 k:Nat
noncomputable def bnR (v:Bst):Rows:=dA v.fee v.itr v.pri v.cre v.A v.till 7 0 0 v.d
theorem ShA.mono {d N:Int} {A:Nat→Int} {n i k:Nat} (h:ShA d N A n) (hi:i < n) (hk:k < n) (e:A k < A i):shr d N A n k≤shr d N A n i:=by
 have hp:=h.p
 have hd:=h.d
 have f:flo d N A k≤flo d N A i:=Int.ediv_le_ediv hp (Int.mul_le_mul_of_nonneg_left (by omega) hd)
 have e1:N*flo d N A i+rst d N A i=d*A i:=Int.mul_ediv_add_emod (d*A i) N
 have e2:N*flo d N A k+rst d N A k=d*A k:=Int.mul_ediv_add_emod (d*A k) N
 unfold shr
 simp only [if_neg (show ¬ N=0 by omega)]
 by_cases g:flo d N A k=flo d N A i
 ·rw [g]
  by_cases hx:((rk (rst d N A) n k:Nat):Int) < lef d N A n
  ·have hr:rst d N A k≠0:=fun h0=>h.none hk h0 hx
   have hd0:0 < d:=by
    rcases Int.lt_or_eq_of_le hd with h1 | h1
    ·exact h1
    ·exfalso
     apply hr
     show d*A k % N=0
     rw [← h1,Int.zero_mul,Int.zero_emod]
   have hm:d*A k < d*A i:=Int.mul_lt_mul_of_pos_left e hd0
   have hb:bfr (rst d N A) i k:=by
    refine .inl ?_
    rw [← g]at e1
    omega
   have:=rk_lt (n:=n) hi hb
   rw [if_pos hx,if_pos (by omega)]
   omega
  ·rw [if_neg hx]
   split<;>omega
 ·split<;>split<;>omega
theorem cS_mono {d:Int} {A:Rows} (h:ShOk d A) {i k:Nat} (hi:i < A.length) (hk:k < A.length) (e:cell A k 2 < cell A i 2):cS d A k≤cS d A i:=h.sh.mono hi hk e
theorem cS_near {d:Int} {A:Rows} (h:ShOk d A) {i k:Nat} (hi:i < A.length) (hk:k < A.length) (e:cell A i 2=cell A k 2):cS d A i≤cS d A k+1:=h.sh.near hi hk e
theorem cS_part {d:Int} {A:Rows} (h:ShOk d A) {i:Nat} (hi:i < A.length):d*cell A i 2-colS 2 A A.length < cS d A i*colS 2 A A.length∧cS d A i*colS 2 A A.length < d*cell A i 2+colS 2 A A.length:=by
 have hp:=h.sh.part hi
 have hN:=h.n
 have eN:cN A=colS 2 A A.length:=rfl
 have eA:cA A i=cell A i 2:=rfl
 rw [eA]at hp
 rw [← eN]
 have hs:shr d (cN A) (cA A) A.length i=cS d A i:=rfl
 rw [hs]at hp
 generalize cN A=N at *
 generalize cS d A i=s at *
 generalize d*cell A i 2=p at *
 have h1:=Int.mul_ediv_add_emod p N
 have h2:=Int.emod_nonneg p (show N≠0 by omega)
 have h3:=Int.emod_lt_of_pos p (show 0 < N by omega)
 have h4:=Int.mul_ediv_add_emod (p+N-1) N
 have h5:=Int.emod_nonneg (p+N-1) (show N≠0 by omega)
 have h6:(p / N)*N≤s*N:=Int.mul_le_mul_of_nonneg_right hp.1 (by omega)
 have h7:s*N≤((p+N-1) / N)*N:=Int.mul_le_mul_of_nonneg_right hp.2 (by omega)
 rw [Int.mul_comm N]at h1 h4
 omega
noncomputable def csT (d:Int) (X:Rows):Rows:=(List.range X.length).map fun i=>[cS d X i]
theorem csT_len (d:Int) (X:Rows):(csT d X).length=X.length:=by simp [csT]
theorem csT_row (d:Int) (X:Rows):∀r∈csT d X,r.length=1:=by
 intro r hr
 simp only [csT,List.mem_map]at hr
 obtain⟨_,_,rfl⟩:=hr
 rfl
theorem csT_cell (d:Int) (X:Rows) {i:Nat} (h:i < X.length):cell (csT d X) i 0=cS d X i:=by
 show((csT d X).getD i []).getD 0 0=_
 unfold csT
 simp [List.getD_eq_getElem?_getD,h]
theorem csT_at (d:Int) (X:Rows) (i:Nat) (h:i < X.length):(El.fn fun i=>[SV.i .i64 (cS d X i)]).at i=Rv.elemOf [.i64] (csT d X) i:=by
 show [SV.i .i64 (cS d X i)]=[SV.i .i64 (cell (csT d X) i 0)]
 rw [csT_cell d X h]
theorem csT_tot {d:Int} {X:Rows} (h:ShOk d X):totTo (csT d X) (csT d X).length=d:=by
 have e:∀k,k≤X.length→totTo (csT d X) k=sumF (cS d X) k:=by
  intro k
  induction k with
  | zero=>intro _; rfl
  | succ k ih =>
   intro hk
   show totTo (csT d X) k+cell (csT d X) k 0=sumF (cS d X) k+cS d X k
   rw [ih (by omega),csT_cell d X (by omega)]
 rw [csT_len,e _ (Nat.le_refl _)]
 exact h.sh.sum
theorem Bst.Ok.sh {v:Bst} (h:v.Ok) (hi:¬ idl v.A):ShOk v.d v.A:=h.c.shr (by have:=h.d; unfold mny; omega) hi
theorem bn_len (v:Bst):(bnR v).length=v.A.length:=rows3_len _ _ _ _
theorem bn_cell (v:Bst) {i:Nat} (h:i < v.A.length):cell (bnR v) i 0=cell v.A i 0+cS v.d v.A i∧cell (bnR v) i 1=cell v.A i 1∧cell (bnR v) i 2=0:=by
 unfold bnR dA
 rw [rows3_0 _ _ _ h,rows3_1 _ _ _ h,rows3_2 _ _ _ h]
 simp [dB,dD,dS]
theorem bn_err {v:Bst} (h:v.Ok) (hi:¬ idl v.A):doE v.fee v.itr v.pri v.cre v.A v.till 7 0 0 v.d=0∨doE v.fee v.itr v.pri v.cre v.A v.till 7 0 0 v.d=12∨(doE v.fee v.itr v.pri v.cre v.A v.till 7 0 0 v.d=1∧v.d=0):=by
 have h0:=coop_zero h.c
 have e:doE v.fee v.itr v.pri v.cre v.A v.till 7 0 0 v.d=afE v.fee v.itr v.pri v.cre v.A v.till 7 0 0 v.d:=by
  unfold doE
  rw [if_neg fun hh=>hh h0]
 rw [e]
 have hd:=h.d
 have hl:=h.c.l
 by_cases d0:v.d=0
 ·have hc:dchk v.A.length 7 0 0 v.d=1:=by
   unfold dchk dpar
   rw [d0]
   simp
  rw [afE_chk (by omega),hc]
  exact .inr (.inr ⟨rfl,d0⟩)
 ·have hc:dchk v.A.length 7 0 0 v.d=0:=by
   unfold dchk dpar
   simp
   omega
  by_cases hs:surp v.A v.till < v.d
  ·have he:dE v.fee v.itr v.pri v.cre v.A v.till 7 0 0 v.d=12:=by simp [dE,hs]
   rw [afE_do hc (by omega),he]
   exact .inr (.inl rfl)
  ·have he:dE v.fee v.itr v.pri v.cre v.A v.till 7 0 0 v.d=0:=by simp [dE,hs,hi]
   have sh:=h.sh hi
   have hf:¬ fullC (bnR v) (dT v.till 7 v.d):=by
    rintro(hf | ⟨k,hk,hf⟩)
    ·have ht:=h.c.t
     unfold mny at ht
     simp [dT]at hf
     omega
    ·rw [bn_len]at hk
     obtain⟨c0,_,c2⟩:=bn_cell v hk
     have:=cS_in sh hk
     have:=h.b k hk
     rw [c0,c2]at hf
     omega
   have hf:¬ fullC (dA v.fee v.itr v.pri v.cre v.A v.till 7 0 0 v.d) (dT v.till 7 v.d):=hf
   rw [afE_ful hc he,if_neg hf]
   exact .inl rfl
noncomputable def F_TotalK:Fn0:=⟨29,[.one (.l [.i64])],fun l=>match l with | [.l L]=>L.length≤100∧∀i,i < L.length→-1000000000000000≤cell L i 0∧cell L i 0≤1000000000000000 | _=>False,fun l=>match l with | [.l L]=>.i .i64 (totTo L L.length) | _=>.v undef⟩
noncomputable def A_TotalK:List SV→List Dat→Nat→List SV→Ann:=fun xs ds n ts=>match xs with
 | [.lst x _ _ _]=>match ds with
  | [.l L]=>match n with
   | 3=>⟨Nat,fun k=>[some (SV.lst x L.length ((1:Nat)) (Rv.elemOf [IntKind.i64] L)),none,some (SV.v (Value.int IntKind.i64 (0:Int))),some (.i .i64 (totTo L k)),some (.i .i64 k),none,none,none,none,none,none,none,none,none,none,none,none,none],fun k=>[],fun k=>k≤L.length,fun k=>L.length-k,0⟩
   | _=>noAnn
  | _=>noAnn
 | _=>noAnn
def V_TotalK:Prop:=∀(B:RW) (x:RV) (rows:List (List Int)),IsLst B x rows.length 1 (Rv.elemOf [.i64] rows)→oneB x=true→(∀row∈rows,row.length=1)→(rows.length≤100∧∀(i:Nat),i < rows.length→(-1000000000000000:Int)≤cell rows i 0∧cell rows i 0≤(1000000000000000:Int))→(∃(a:Nat),Ob (a≤rows.length)∧Ob (SV.lst x rows.length 1 (Rv.elemOf [.i64] rows)=SV.lst x rows.length 1 (Rv.elemOf [.i64] rows))∧Ob (Value.int .i64 (0:Int)=Value.int .i64 (0:Int))∧Ob ((0:Int)=totTo rows a)∧Ob ((0:Int)=(↑a:Int))∧Ob (IsLst B x rows.length 1 (Rv.elemOf [.i64] rows))∧True)∧∀(a:Nat),a≤rows.length→∀(_ _ _ _ _ _ _ _ _ _ _ _ _ _:Value),Ob (IsLst B x rows.length 1 (Rv.elemOf [.i64] rows))∧((↑a:Int) < (↑rows.length:Int)→Ob ((0:Int)≤(↑a:Int)∧a < rows.length∧IsLst B x rows.length 1 (Rv.elemOf [.i64] rows))∧Ob (IsLst B x rows.length 1 (Rv.elemOf [.i64] rows)∧a < rows.length)∧Ob (InR .i64 (totTo rows a+cell rows a 0))∧Ob (InR .i64 ((↑a:Int)+(1:Int)))∧∃(a':Nat),Ob (a'≤rows.length∧rows.length-a' < rows.length-a)∧Ob (SV.lst x rows.length 1 (Rv.elemOf [.i64] rows)=SV.lst x rows.length 1 (Rv.elemOf [.i64] rows))∧Ob (Value.int .i64 (0:Int)=Value.int .i64 (0:Int))∧Ob (totTo rows a+cell rows a 0=totTo rows a')∧Ob ((↑a:Int)+(1:Int)=(↑a':Int))∧Ob (IsLst B x rows.length 1 (Rv.elemOf [.i64] rows))∧True)∧(¬(↑a:Int) < (↑rows.length:Int)→Ob (totTo rows a=totTo rows rows.length)∧True)
set_option linter.unusedSimpArgs false in
set_option maxRecDepth 4000 in
set_option maxHeartbeats 400000 in
theorem v_TotalK:V_TotalK:=by
 unfold V_TotalK
 intro B x L hx hox hrx ⟨h1,h2⟩
 simp only [Ob_iff,and_true,true_and,InR]
 have bd:∀k,k≤L.length→-(1000000000000000*(k:Int))≤totTo L k∧totTo L k≤1000000000000000*k:=by
  intro k
  induction k with
  | zero=>intro _; exact⟨Int.le_refl _,Int.le_refl _⟩
  | succ k ih =>
   intro hk
   have h3:=ih (by omega)
   have h4:=h2 k (by omega)
   have e:totTo L (k+1)=totTo L k+cell L k 0:=rfl
   rw [e]
   omega
 refine⟨⟨0,Nat.zero_le _,rfl,rfl,hx⟩,?_⟩
 intro k hk
 intros
 refine⟨hx,fun h3=>?_,fun h3=>?_⟩
 ·have hk':k < L.length:=by omega
  have b0:=bd (k+1) hk'
  have e:totTo L (k+1)=totTo L k+cell L k 0:=rfl
  rw [e]at b0
  exact⟨⟨by omega,hk',hx⟩,⟨hx,hk'⟩,by omega,by omega,k+1,⟨hk',by omega⟩,e.symm,by omega,hx⟩
 ·have e:k=L.length:=by omega
  rw [e]
theorem e_TotalK:V_TotalK=needF P [] A_TotalK F_TotalK:=by kernel_rfl
theorem n_TotalK:Ob (needF P [] A_TotalK F_TotalK):=by
 rw [← e_TotalK]
 exact⟨v_TotalK⟩
theorem b_TotalK:((P.funcs[29]?).any fun fn=>fn.body.isSome)=true:=by kernel_rfl
theorem TotalK_ok:Fn0.Ok P F_TotalK:=Fn0.ok named (l:=[]) (A:=A_TotalK) (by rfl) (by
 intro F h; simp at h) b_TotalK (by
 intro ds N
 simp only [F_TotalK]
 split<;>rfl) n_TotalK
noncomputable def C_SharesV:List Dat→Prop:=fun l=>match l with | [.z fee,.z itr,.z pri,.z cre,.l A,.z till,.z d]=>idl A | _=>False
noncomputable def F_SharesV:FnE:=⟨28,none,[.agg [.i .i64,.i .i64,.i .i64,.i .i64,.l [.i64,.i64,.i64],.i .i64],i64],fun l=>match l with | [.z fee,.z itr,.z pri,.z cre,.l A,.z till,.z d]=>coopErr fee itr pri cre A till=0∧mny d | _=>False,fun l=>match l with | [.z fee,.z itr,.z pri,.z cre,.l A,.z till,.z d]=>[.gsl 0 A.length 1 false,.v (.int .i64 0)] | _=>[],fun l=>match l with | [.z fee,.z itr,.z pri,.z cre,.l A,.z till,.z d]=>[.gr A.length 1 (.fn fun i=>[.i .i64 (cS d A i)]) .ex false] | _=>[],fun l=>match l with | [.z fee,.z itr,.z pri,.z cre,.l A,.z till,.z d]=>[] | _=>[],false,some ⟨C_SharesV,isNil,fun l=>match l with | [.z fee,.z itr,.z pri,.z cre,.l A,.z till,.z d]=>[.v (.slice none 0 0),.v (.int .i64 6)] | _=>[],fun l=>match l with | [.z fee,.z itr,.z pri,.z cre,.l A,.z till,.z d]=>[] | _=>[],fun l=>match l with | [.z fee,.z itr,.z pri,.z cre,.l A,.z till,.z d]=>[] | _=>[]⟩,none⟩
noncomputable def A_SharesV:List SV→List Dat→Nat→List SV→Ann:=fun _ _ _ _=>noAnn
def V_SharesV:Prop:=∀(B:RW) (n n_1 n_2 n_3:Int) (x:RV) (rows:List (List Int)),IsLst B x rows.length 3 (Rv.elemOf [.i64,.i64,.i64] rows)→oneB x=true→(∀row∈rows,row.length=3)→∀(n_4 n_5:Int),F_SharesV.pre ([Dat.z n,Dat.z n_1,Dat.z n_2,Dat.z n_3,Dat.l rows,Dat.z n_4]++([Dat.z n_5]++[]))→∃(l1:List (List Int)),Ob (IsLst B x rows.length 3 (Rv.elemOf [.i64,.i64,.i64] rows)∧l1.length=rows.length∧(∀r∈l1,r.length=3)∧∀(i:Nat),i < rows.length→Rv.elemOf [.i64,.i64,.i64] rows i=Rv.elemOf [.i64,.i64,.i64] l1 i)∧Ob (F_CheckC.pre ([Dat.z n,Dat.z n_1,Dat.z n_2,Dat.z n_3,Dat.l l1,Dat.z n_4]++[]))∧(¬coopErr n n_1 n_2 n_3 l1 n_4=(0:Int)→Ob (C_SharesV ([Dat.z n,Dat.z n_1,Dat.z n_2,Dat.z n_3,Dat.l rows,Dat.z n_4]++([Dat.z n_5]++[])))∧Ob (SV.v (Value.slice none 0 0)=SV.v (Value.slice none 0 0))∧Ob (coopErr n n_1 n_2 n_3 l1 n_4=(6:Int))∧True)∧(¬¬coopErr n n_1 n_2 n_3 l1 n_4=(0:Int)→Ob True∧(¬mny n_5→Ob (C_SharesV ([Dat.z n,Dat.z n_1,Dat.z n_2,Dat.z n_3,Dat.l rows,Dat.z n_4]++([Dat.z n_5]++[])))∧Ob (SV.v (Value.slice none 0 0)=SV.v (Value.slice none 0 0))∧Ob (Value.int .i64 (1:Int)=Value.int .i64 (6:Int))∧True)∧(¬¬mny n_5→∃(l2:List (List Int)),Ob (IsLst B x rows.length 3 (Rv.elemOf [.i64,.i64,.i64] rows)∧l2.length=rows.length∧(∀r∈l2,r.length=3)∧∀(i:Nat),i < rows.length→Rv.elemOf [.i64,.i64,.i64] rows i=Rv.elemOf [.i64,.i64,.i64] l2 i)∧Ob (F_sharesC.pre ([Dat.z n,Dat.z n_1,Dat.z n_2,Dat.z n_3,Dat.l l2,Dat.z n_4]++[Dat.z n_5]))∧(C_sharesC ([Dat.z n,Dat.z n_1,Dat.z n_2,Dat.z n_3,Dat.l l2,Dat.z n_4]++[Dat.z n_5])→Ob (C_SharesV ([Dat.z n,Dat.z n_1,Dat.z n_2,Dat.z n_3,Dat.l rows,Dat.z n_4]++([Dat.z n_5]++[])))∧Ob (SV.v (Value.slice none 0 0)=SV.v (Value.slice none 0 0))∧Ob (Value.int .i64 (6:Int)=Value.int .i64 (6:Int))∧True)∧(¬C_sharesC ([Dat.z n,Dat.z n_1,Dat.z n_2,Dat.z n_3,Dat.l l2,Dat.z n_4]++[Dat.z n_5])→Ob ¬C_SharesV ([Dat.z n,Dat.z n_1,Dat.z n_2,Dat.z n_3,Dat.l rows,Dat.z n_4]++([Dat.z n_5]++[]))∧Ob (l2.length=rows.length)∧Ob (Value.int .i64 (0:Int)=Value.int .i64 (0:Int))∧Ob (l2.length=rows.length∧∀(i:Nat),i < rows.length→(El.fn fun(i:Nat)↦[SV.i .i64 (cS n_5 l2 i)]).at i=(El.fn fun(i:Nat)↦[SV.i .i64 (cS n_5 rows i)]).at i)∧Ob (PlainE rows.length (El.fn fun(i:Nat)↦[SV.i .i64 (cS n_5 rows i)]))∧True)))
set_option linter.unusedSimpArgs false in
set_option maxRecDepth 4000 in
set_option maxHeartbeats 2000000 in
theorem v_SharesV:V_SharesV:=by
 unfold V_SharesV
 intro B fee itr pri cre x A hx hox hrx till d hpre
 obtain⟨h1,h2⟩:coopErr fee itr pri cre A till=0∧mny d:=hpre
 have hl:=(coop_ok h1).l
 simp only [Ob_iff,and_true,true_and,Classical.not_not]
 refine⟨A,⟨hx,rfl,hrx,fun _ _=>rfl⟩,(by omega:A.length≤4000000),fun h=>absurd h1 h,fun _=>⟨fun h=>absurd h2 h,fun _=>⟨A,⟨hx,rfl,hrx,fun _ _=>rfl⟩,⟨h1,h2⟩,fun h3=>h3,fun h3=>⟨h3,rfl,⟨rfl,fun _ _=>rfl⟩,plain_fnD _ _⟩⟩⟩⟩
theorem e_SharesV:V_SharesV=needE P [F_isMoney] [F_CheckC,F_sharesC] A_SharesV F_SharesV:=by kernel_rfl
theorem n_SharesV:Ob (needE P [F_isMoney] [F_CheckC,F_sharesC] A_SharesV F_SharesV):=by
 rw [← e_SharesV]
 exact⟨v_SharesV⟩
theorem b_SharesV:((P.funcs[28]?).any fun fn=>fn.body.isSome)=true:=by kernel_rfl
theorem SharesV_ok:FnE.Ok P F_SharesV:=FnE.ok named (l:=[F_isMoney]) (es:=[F_CheckC,F_sharesC]) (A:=A_SharesV) (by rfl) (by rfl) (by rfl) (by
 intro F h
 simp only [List.mem_cons,List.not_mem_nil,or_false]at h
 rcases h with rfl
 ·exact isMoney_ok
) (by
 intro F h
 simp only [List.mem_cons,List.not_mem_nil,or_false]at h
 rcases h with rfl | rfl
 ·exact CheckC_ok
 ·exact sharesC_ok
) b_SharesV (by
 intro ds h o ho n sz e k z he
 subst he
 simp only [F_SharesV]at ho
 split at ho
 ·simp only [List.mem_cons,List.not_mem_nil,or_false,SObj.gr.injEq]at ho
  obtain⟨rfl,rfl,rfl,rfl,rfl⟩:=ho
  exact plain_fnD _ _
 ·simp at ho) n_SharesV (by
 intro a ha ds h hc o ho n sz e k z he
 have ha:some _=some a:=ha
 simp only [Option.some.injEq]at ha
 subst ha
 simp only at ho
 split at ho<;>simp at ho)
noncomputable def F_law:LawF:=⟨7,[.one (.l [.i64])],fun l=>match l with | [.l N]=>N.length≤9223372036854775807 | _=>False⟩
noncomputable def A_law:List SV→List Dat→Nat→List SV→Ann:=fun xs ds n ts=>match xs with
 | [.lst xz _ _ _]=>match ds with
  | [.l N]=>match n with
   | 4=>⟨Bst,fun v=>[none,none,none,none,some (.ptr 0 0),some (.i .i64 v.d),some (.v (.int .i64 0)),none,none,none,none,none,none,none,none,none,none,none,none,none,none,none,none,none,none,none,none,none,none,none,none,none,none,none,none,none,none,none,none,none,none,none,none,none,none,none,none,none,none,none,none,none,none,none,none,none,none,none,none,none,none,none,none,none,none,none,none,none,none,none,none,none,none,none,none,none,none,none,none,none,none,none,none,none,none,none,none,none,none,none,none,none,none,none,none,none,none,none,none,none,none,none,none,none,none,none,none,none,none,none,none,none,none,none,none,none,none,none,none,none,none,none,none,none,none,none,none,none,none,none,none,none,none,none,none,none,none,none,none,none,none,none,none,none,none,none,none,none,none,none,none,none,none,none,none,none,none,none,none,none,none,none,none,none,none,none,none,none,none,none,none,none,none,none,none,none,none,none,none,none,none,none,none,none,none,none,none,none,none,none,none,none,none,none,none,none,none,none,none,none,none,none,none,none,none,none,none,none,none,none,none,none,none,none,none,none,none],fun v=>[.gr v.A.length 3 (.fn (Rv.elemOf [.i64,.i64,.i64] v.A)) .gr true,.cells [.i .i64 v.fee,.i .i64 v.itr,.i .i64 v.pri,.i .i64 v.cre,.gsl 1 v.A.length 3 true,.i .i64 v.till] .ex],fun v=>v.Ok,fun _=>0,1000000⟩
   | 5=>⟨Blt,fun v=>[none,none,none,none,some (.ptr 0 0),some (.i .i64 v.m.d),some (.i .i64 (colS 2 v.m.A v.k)),some (.i .i64 v.k),none,none,none,none,none,none,none,none,none,none,none,none,none,none,none,none,none,none,none,none,none,none,none,none,none,none,none,none,none,none,none,none,none,none,none,none,none,none,none,none,none,none,none,none,none,none,none,none,none,none,none,none,none,none,none,none,none,none,none,none,none,none,none,none,none,none,none,none,none,none,none,none,none,none,none,none,none,none,none,none,none,none,none,none,none,none,none,none,none,none,none,none,none,none,none,none,none,none,none,none,none,none,none,none,none,none,none,none,none,none,none,none,none,none,none,none,none,none,none,none,none,none,none,none,none,none,none,none,none,none,none,none,none,none,none,none,none,none,none,none,none,none,none,none,none,none,none,none,none,none,none,none,none,none,none,none,none,none,none,none,none,none,none,none,none,none,none,none,none,none,none,none,none,none,none,none,none,none,none,none,none,none,none,none,none,none,none,none,none,none,none,none,none,none,none,none,none,none,none,none,none,none,none,none,none,none,none,none,none],fun v=>[.gr v.m.A.length 3 (.fn (Rv.elemOf [.i64,.i64,.i64] v.m.A)) .gr true,.cells [.i .i64 v.m.fee,.i .i64 v.m.itr,.i .i64 v.m.pri,.i .i64 v.m.cre,.gsl 1 v.m.A.length 3 true,.i .i64 v.m.till] .ex],fun v=>v.m.Ok∧v.k≤v.m.A.length,fun v=>v.m.A.length-v.k,0⟩
   | 14=>⟨Blt,fun v=>[none,none,none,none,some (.ptr 0 0),some (.i .i64 v.m.d),some (.i .i64 (colS 2 v.m.A v.m.A.length)),none,some (.gsl 2 v.m.A.length 1 false),none,some (.i .i64 v.k),none,none,none,none,none,none,none,none,none,none,none,none,none,none,none,none,none,none,none,none,none,none,none,none,none,none,none,none,none,none,none,none,none,none,none,none,none,none,none,none,none,none,none,none,none,none,none,none,none,none,none,none,none,none,none,none,none,none,none,none,none,none,none,none,none,none,none,none,none,none,none,none,none,none,none,none,none,none,none,none,none,none,none,none,none,none,none,none,none,none,none,none,none,none,none,none,none,none,none,none,none,none,none,none,none,none,none,none,none,none,none,none,none,none,none,none,none,none,none,none,none,none,none,none,none,none,none,none,none,none,none,none,none,none,none,none,none,none,none,none,none,none,none,none,none,none,none,none,none,none,none,none,none,none,none,none,none,none,none,none,none,none,none,none,none,none,none,none,none,none,none,none,none,none,none,none,none,none,none,none,none,none,none,none,none,none,none,none,none,none,none,none,none,none,none,none,none,none,none,none,none,none,none,none,none,none],fun v=>[.gr v.m.A.length 1 (.fn fun i=>[.i .i64 (cS v.m.d v.m.A i)]) .ex false,.gr v.m.A.length 3 (.fn (Rv.elemOf [.i64,.i64,.i64] v.m.A)) .gr true,.cells [.i .i64 v.m.fee,.i .i64 v.m.itr,.i .i64 v.m.pri,.i .i64 v.m.cre,.gsl 1 v.m.A.length 3 true,.i .i64 v.m.till] .ex],fun v=>v.m.Ok∧¬ idl v.m.A∧v.k≤v.m.A.length,fun v=>v.m.A.length-v.k,0⟩
   | 20=>(match lget ts 8 with | some (SV.gsl _ n8 _ _)=>(match lget ts 10 with | some (SV.i _ i0)=>⟨Blt,fun v=>[none,none,none,none,some (.ptr 0 0),some (.i .i64 v.m.d),some (.i .i64 (colS 2 v.m.A v.m.A.length)),none,some (SV.gsl 2 n8 1 false),none,some (SV.i IntKind.i64 i0),none,some (.i .i64 v.k),none,none,none,none,none,none,none,none,none,none,none,none,none,none,none,none,none,none,none,none,none,none,none,none,none,none,none,none,none,none,none,none,none,none,none,none,none,none,none,none,none,none,none,none,none,none,none,none,none,none,none,none,none,none,none,none,none,none,none,none,none,none,none,none,none,none,none,none,none,none,none,none,none,none,none,none,none,none,none,none,none,none,none,none,none,none,none,none,none,none,none,none,none,none,none,none,none,none,none,none,none,none,none,none,none,none,none,none,none,none,none,none,none,none,none,none,none,none,none,none,none,none,none,none,none,none,none,none,none,none,none,none,none,none,none,none,none,none,none,none,none,none,none,none,none,none,none,none,none,none,none,none,none,none,none,none,none,none,none,none,none,none,none,none,none,none,none,none,none,none,none,none,none,none,none,none,none,none,none,none,none,none,none,none,none,none,none,none,none,none,none,none,none,none,none,none,none,none,none,none,none,none,none,none],fun v=>[.gr v.m.A.length 1 (.fn fun i=>[.i .i64 (cS v.m.d v.m.A i)]) .ex false,.gr v.m.A.length 3 (.fn (Rv.elemOf [.i64,.i64,.i64] v.m.A)) .gr true,.cells [.i .i64 v.m.fee,.i .i64 v.m.itr,.i .i64 v.m.pri,.i .i64 v.m.cre,.gsl 1 v.m.A.length 3 true,.i .i64 v.m.till] .ex],fun v=>v.m.Ok∧¬ idl v.m.A∧v.k≤v.m.A.length∧0≤i0∧i0 < v.m.A.length∧n8=v.m.A.length,fun v=>v.m.A.length-v.k,0⟩ | _=>noAnn) | _=>noAnn)
   | 31=>⟨Blt,fun v=>[none,none,none,none,some (.ptr 0 0),none,none,none,some (.gsl 2 v.m.A.length 1 false),none,none,none,none,none,none,some (.ptr 4 0),none,some (.i .i64 v.k),none,none,none,none,none,none,none,none,none,none,none,none,none,none,none,none,none,none,none,none,none,none,none,none,none,none,none,none,none,none,none,none,none,none,none,none,none,none,none,none,none,none,none,none,none,none,none,none,none,none,none,none,none,none,none,none,none,none,none,none,none,none,none,none,none,none,none,none,none,none,none,none,none,none,none,none,none,none,none,none,none,none,none,none,none,none,none,none,none,none,none,none,none,none,none,none,none,none,none,none,none,none,none,none,none,none,none,none,none,none,none,none,none,none,none,none,none,none,none,none,none,none,none,none,none,none,none,none,none,none,none,none,none,none,none,none,none,none,none,none,none,none,none,none,none,none,none,none,none,none,none,none,none,none,none,none,none,none,none,none,none,none,none,none,none,none,none,none,none,none,none,none,none,none,none,none,none,none,none,none,none,none,none,none,none,none,none,none,none,none,none,none,none,none,none,none,none,none,none],fun v=>[.cells [.i .i64 v.m.fee,.i .i64 v.m.itr,.i .i64 v.m.pri,.i .i64 v.m.cre,.gsl 3 v.m.A.length 3 false,.i .i64 v.m.till] .ex,.gr v.m.A.length 3 (.fn (Rv.elemOf [.i64,.i64,.i64] (bnR v.m))) .gr false,.gr v.m.A.length 1 (.fn fun i=>[.i .i64 (cS v.m.d v.m.A i)]) .ex false,.gr v.m.A.length 3 (.fn (Rv.elemOf [.i64,.i64,.i64] v.m.A)) .gr true,.cells [.i .i64 v.m.fee,.i .i64 v.m.itr,.i .i64 v.m.pri,.i .i64 v.m.cre,.gsl 1 v.m.A.length 3 true,.i .i64 v.m.till] .ex],fun v=>v.m.Ok∧¬ idl v.m.A∧v.k≤v.m.A.length,fun v=>v.m.A.length-v.k,0⟩
   | _=>noAnn
  | _=>noAnn
 | _=>noAnn
set_option maxRecDepth 10000 in
def V_law:Prop:=∀(B:RW),hasTabs [] B→∀(x:RV) (rows:List (List Int)),IsLst B x rows.length 1 (Rv.elemOf [.i64] rows)→oneB x=true→(∀row∈rows,row.length=1)→rows.length≤9223372036854775807→∃(l1:List (List Int)),Ob (IsLst B x rows.length 1 (Rv.elemOf [.i64] rows)∧l1.length=rows.length∧(∀r∈l1,r.length=1)∧∀(i:Nat),i < rows.length→Rv.elemOf [.i64] rows i=Rv.elemOf [.i64] l1 i)∧Ob (F_TideOf.named.pre [Dat.l l1])∧Ob (F_CoopOf.named.pre ([Dat.z (tideK l1 l1.length)]++[Dat.z (6:Int)]))∧∀(v:Int),v=coAE (tideK l1 l1.length) (6:Int)→∀(v_1:Int),v_1=coF (tideK l1 l1.length)→∀(v_2:Int),v_2=coI (tideK l1 l1.length)→∀(v_3:Int),v_3=coP (tideK l1 l1.length)→∀(v_4:Int),v_4=coC (tideK l1 l1.length)→∀(v_5:Int),v_5=coT (tideK l1 l1.length) (6:Int)→(Ob (F_Below.named.pre ([Dat.z v]++[Dat.z (30:Int)]))∧∀(v_6:Int),v_6=belowA v (30:Int)→∀(v_7:Int),v_7=belowV v (30:Int)→Ob (F_Below.named.pre ([Dat.z v_6]++[Dat.z (5000:Int)]))∧∀(v_8:Int),v_8=belowA v_6 (5000:Int)→∀(v_9:Int),v_9=belowV v_6 (5000:Int)→Ob (F_Of.named.pre ([Dat.z v_8]++[Dat.l [[(0:Int)],[v_7],[v_9]]]))∧∀(v_10:Int),v_10=ofA v_8 [[(0:Int)],[v_7],[v_9]]→∀(v_11:Int),v_11=ofV v_8 [[(0:Int)],[v_7],[v_9]]→∃(a:Bst),Ob a.Ok∧Ob (v_11=a.d)∧Ob (Value.int .i64 (0:Int)=Value.int .i64 (0:Int))∧Ob ((coN (tideK l1 l1.length) (6:Int)).toNat=a.A.length∧∀(i:Nat),i < a.A.length→(El.fn (Rv.elemOf [.i64,.i64,.i64] (coR (tideK l1 l1.length) (6:Int) (coN (tideK l1 l1.length) (6:Int)).toNat))).at i=(El.fn (Rv.elemOf [.i64,.i64,.i64] a.A)).at i)∧Ob (v_1=a.fee)∧Ob (v_2=a.itr)∧Ob (v_3=a.pri)∧Ob (v_4=a.cre)∧Ob ((coN (tideK l1 l1.length) (6:Int)).toNat=a.A.length)∧Ob (v_5=a.till)∧Ob (PlainE (a.A.length) (El.fn (Rv.elemOf [.i64,.i64,.i64] a.A)))∧True)∧∀(a:Bst),a.Ok→∀(_ _ _ _ _ _ _ _ _ _ _ _ _ _ _ _ _ _ _ _ _ _ _ _ _ _ _ _ _ _ _ _ _ _ _ _ _ _ _ _ _ _ _ _ _ _ _ _ _ _ _ _ _ _ _ _ _ _ _ _ _ _ _ _ _ _ _ _ _ _ _ _ _ _ _ _ _ _ _ _ _ _ _ _ _ _ _ _ _ _ _ _ _ _ _ _ _ _ _ _ _ _ _ _ _ _ _ _ _ _ _ _ _ _ _ _ _ _ _ _ _ _ _ _ _ _ _ _ _ _ _ _ _ _ _ _ _ _ _ _ _ _ _ _ _ _ _ _ _ _ _ _ _ _ _ _ _ _ _ _ _ _ _ _ _ _ _ _ _ _ _ _ _ _ _ _ _ _ _ _ _ _ _ _ _ _ _ _ _ _ _ _ _ _ _ _ _ _ _ _ _ _ _ _ _ _ _ _ _ _ _ _ _ _:Value),(∃(a_1:Blt),Ob (a_1.m.Ok∧a_1.k≤List.length a_1.m.A)∧Ob (a.d=a_1.m.d)∧Ob ((0:Int)=colS 2 a_1.m.A a_1.k)∧Ob ((0:Int)=(↑a_1.k:Int))∧Ob (a.A.length=List.length a_1.m.A∧∀(i:Nat),i < List.length a_1.m.A→(El.fn (Rv.elemOf [.i64,.i64,.i64] a.A)).at i=(El.fn (Rv.elemOf [.i64,.i64,.i64] a_1.m.A)).at i)∧Ob (a.fee=a_1.m.fee)∧Ob (a.itr=a_1.m.itr)∧Ob (a.pri=a_1.m.pri)∧Ob (a.cre=a_1.m.cre)∧Ob (a.A.length=List.length a_1.m.A)∧Ob (a.till=a_1.m.till)∧Ob (PlainE (List.length a_1.m.A) (El.fn (Rv.elemOf [.i64,.i64,.i64] a_1.m.A)))∧True)∧∀(a_1:Blt),a_1.m.Ok∧a_1.k≤List.length a_1.m.A→∀(_ _ _ _ _ _ _ _ _ _ _ _ _ _ _ _ _ _ _ _ _ _ _ _ _ _ _ _ _ _ _ _ _ _ _ _ _ _ _ _ _ _ _ _ _ _ _ _ _ _ _ _ _ _ _ _ _ _ _ _ _ _ _ _ _ _ _ _ _ _ _ _ _ _ _ _ _ _ _ _ _ _ _ _ _ _ _ _ _ _ _ _ _ _ _ _ _ _ _ _ _ _ _ _ _ _ _ _ _ _ _ _ _ _ _ _ _ _ _ _ _ _ _ _ _ _ _ _ _ _ _ _ _ _ _ _ _ _ _ _ _ _ _ _ _ _ _ _ _ _ _ _ _ _ _ _ _ _ _ _ _ _ _ _ _ _ _ _ _ _ _ _ _ _ _ _ _ _ _ _ _ _ _ _ _ _ _ _ _ _ _ _ _ _ _ _ _ _ _ _ _ _ _ _ _ _ _ _ _ _ _ _ _:Value),((↑a_1.k:Int) < (↑(List.length a_1.m.A):Int)→Ob ((0:Int)≤(↑a_1.k:Int)∧a_1.k < List.length a_1.m.A)∧Ob (a_1.k < List.length a_1.m.A)∧Ob (InR .i64 (colS 2 a_1.m.A a_1.k+cell a_1.m.A a_1.k 2))∧Ob (InR .i64 ((↑a_1.k:Int)+(1:Int)))∧∃(a':Blt),Ob ((a'.m.Ok∧a'.k≤List.length a'.m.A)∧List.length a'.m.A-a'.k < List.length a_1.m.A-a_1.k)∧Ob (a_1.m.d=a'.m.d)∧Ob (colS 2 a_1.m.A a_1.k+cell a_1.m.A a_1.k 2=colS 2 a'.m.A a'.k)∧Ob ((↑a_1.k:Int)+(1:Int)=(↑a'.k:Int))∧Ob (List.length a_1.m.A=List.length a'.m.A∧∀(i:Nat),i < List.length a'.m.A→(El.fn (Rv.elemOf [.i64,.i64,.i64] a_1.m.A)).at i=(El.fn (Rv.elemOf [.i64,.i64,.i64] a'.m.A)).at i)∧Ob (a_1.m.fee=a'.m.fee)∧Ob (a_1.m.itr=a'.m.itr)∧Ob (a_1.m.pri=a'.m.pri)∧Ob (a_1.m.cre=a'.m.cre)∧Ob (List.length a_1.m.A=List.length a'.m.A)∧Ob (a_1.m.till=a'.m.till)∧Ob (PlainE (List.length a'.m.A) (El.fn (Rv.elemOf [.i64,.i64,.i64] a'.m.A)))∧True)∧(¬(↑a_1.k:Int) < (↑(List.length a_1.m.A):Int)→∃(l2:List (List Int)),Ob (List.length a_1.m.A=List.length a_1.m.A∧l2.length=List.length a_1.m.A∧(∀r∈l2,r.length=3)∧∀(i:Nat),i < List.length a_1.m.A→(El.fn (Rv.elemOf [.i64,.i64,.i64] a_1.m.A)).at i=Rv.elemOf [.i64,.i64,.i64] l2 i)∧Ob (F_SharesV.named.pre ([Dat.z a_1.m.fee,Dat.z a_1.m.itr,Dat.z a_1.m.pri,Dat.z a_1.m.cre,Dat.l l2,Dat.z a_1.m.till]++[Dat.z a_1.m.d]))∧(C_SharesV ([Dat.z a_1.m.fee,Dat.z a_1.m.itr,Dat.z a_1.m.pri,Dat.z a_1.m.cre,Dat.l l2,Dat.z a_1.m.till]++[Dat.z a_1.m.d])→(colS 2 a_1.m.A a_1.k=(0:Int)→Ob (hasTabs [] B)∧True)∧(¬colS 2 a_1.m.A a_1.k=(0:Int)→False))∧(¬C_SharesV ([Dat.z a_1.m.fee,Dat.z a_1.m.itr,Dat.z a_1.m.pri,Dat.z a_1.m.cre,Dat.l l2,Dat.z a_1.m.till]++[Dat.z a_1.m.d])→(colS 2 a_1.m.A a_1.k=(0:Int)→False)∧(¬colS 2 a_1.m.A a_1.k=(0:Int)→(¬¬(↑l2.length:Int)=(↑(List.length a_1.m.A):Int)→∃(l3:List (List Int)),Ob (l2.length=l2.length∧l3.length=l2.length∧(∀r∈l3,r.length=1)∧∀(i:Nat),i < l2.length→(El.fn fun(i:Nat)↦[SV.i .i64 (cS a_1.m.d l2 i)]).at i=Rv.elemOf [.i64] l3 i)∧Ob (l3.length≤100∧∀(i:Nat),i < l3.length→(-1000000000000000:Int)≤cell l3 i 0∧cell l3 i 0≤(1000000000000000:Int))∧(¬totTo l3 l3.length=a_1.m.d→False)∧(¬¬totTo l3 l3.length=a_1.m.d→(∃(a_2:Blt),Ob (a_2.m.Ok∧¬idl a_2.m.A∧a_2.k≤List.length a_2.m.A)∧Ob (a_1.m.d=a_2.m.d)∧Ob (colS 2 a_1.m.A a_1.k=colS 2 a_2.m.A (List.length a_2.m.A))∧Ob (l2.length=List.length a_2.m.A)∧Ob ((0:Int)=(↑a_2.k:Int))∧Ob (l2.length=List.length a_2.m.A∧∀(i:Nat),i < List.length a_2.m.A→(El.fn fun(i:Nat)↦[SV.i .i64 (cS a_1.m.d l2 i)]).at i=(El.fn fun(i:Nat)↦[SV.i .i64 (cS a_2.m.d a_2.m.A i)]).at i)∧Ob (List.length a_1.m.A=List.length a_2.m.A∧∀(i:Nat),i < List.length a_2.m.A→(El.fn (Rv.elemOf [.i64,.i64,.i64] a_1.m.A)).at i=(El.fn (Rv.elemOf [.i64,.i64,.i64] a_2.m.A)).at i)∧Ob (a_1.m.fee=a_2.m.fee)∧Ob (a_1.m.itr=a_2.m.itr)∧Ob (a_1.m.pri=a_2.m.pri)∧Ob (a_1.m.cre=a_2.m.cre)∧Ob (List.length a_1.m.A=List.length a_2.m.A)∧Ob (a_1.m.till=a_2.m.till)∧Ob (PlainE (List.length a_2.m.A) (El.fn fun(i:Nat)↦[SV.i .i64 (cS a_2.m.d a_2.m.A i)]))∧Ob (PlainE (List.length a_2.m.A) (El.fn (Rv.elemOf [.i64,.i64,.i64] a_2.m.A)))∧True)∧∀(a_2:Blt),a_2.m.Ok∧¬idl a_2.m.A∧a_2.k≤List.length a_2.m.A→∀(_ _ _ _ _ _ _ _ _ _ _ _ _ _ _ _ _ _ _ _ _ _ _ _ _ _ _ _ _ _ _ _ _ _ _ _ _ _ _ _ _ _ _ _ _ _ _ _ _ _ _ _ _ _ _ _ _ _ _ _ _ _ _ _ _ _ _ _ _ _ _ _ _ _ _ _ _ _ _ _ _ _ _ _ _ _ _ _ _ _ _ _ _ _ _ _ _ _ _ _ _ _ _ _ _ _ _ _ _ _ _ _ _ _ _ _ _ _ _ _ _ _ _ _ _ _ _ _ _ _ _ _ _ _ _ _ _ _ _ _ _ _ _ _ _ _ _ _ _ _ _ _ _ _ _ _ _ _ _ _ _ _ _ _ _ _ _ _ _ _ _ _ _ _ _ _ _ _ _ _ _ _ _ _ _ _ _ _ _ _ _ _ _ _ _ _ _ _ _ _ _ _ _ _ _ _ _ _ _ _ _ _:Value),((↑a_2.k:Int) < (↑(List.length a_2.m.A):Int)→Ob ((0:Int)≤(↑a_2.k:Int)∧a_2.k < List.length a_2.m.A)∧Ob (a_2.k < List.length a_2.m.A)∧Ob (InR .i64 (a_2.m.d*cell a_2.m.A a_2.k 2))∧Ob ((0:Int)≤(↑a_2.k:Int)∧a_2.k < List.length a_2.m.A)∧Ob (a_2.k < List.length a_2.m.A)∧Ob (InR .i64 (cS a_2.m.d a_2.m.A a_2.k*colS 2 a_2.m.A (List.length a_2.m.A)))∧Ob (InR .i64 (a_2.m.d*cell a_2.m.A a_2.k 2-colS 2 a_2.m.A (List.length a_2.m.A)))∧(¬cS a_2.m.d a_2.m.A a_2.k*colS 2 a_2.m.A (List.length a_2.m.A)≤a_2.m.d*cell a_2.m.A a_2.k 2-colS 2 a_2.m.A (List.length a_2.m.A)→Ob ((0:Int)≤(↑a_2.k:Int)∧a_2.k < List.length a_2.m.A)∧Ob (a_2.k < List.length a_2.m.A)∧Ob (InR .i64 (cS a_2.m.d a_2.m.A a_2.k*colS 2 a_2.m.A (List.length a_2.m.A)))∧Ob (InR .i64 (a_2.m.d*cell a_2.m.A a_2.k 2+colS 2 a_2.m.A (List.length a_2.m.A)))∧(a_2.m.d*cell a_2.m.A a_2.k 2+colS 2 a_2.m.A (List.length a_2.m.A)≤cS a_2.m.d a_2.m.A a_2.k*colS 2 a_2.m.A (List.length a_2.m.A)→False)∧(¬a_2.m.d*cell a_2.m.A a_2.k 2+colS 2 a_2.m.A (List.length a_2.m.A)≤cS a_2.m.d a_2.m.A a_2.k*colS 2 a_2.m.A (List.length a_2.m.A)→(∃(a_3:Blt),Ob (a_3.m.Ok∧¬idl a_3.m.A∧a_3.k≤List.length a_3.m.A∧(0:Int)≤(↑a_2.k:Int)∧(↑a_2.k:Int) < (↑(List.length a_3.m.A):Int)∧List.length a_2.m.A=List.length a_3.m.A)∧Ob (a_2.m.d=a_3.m.d)∧Ob (colS 2 a_2.m.A (List.length a_2.m.A)=colS 2 a_3.m.A (List.length a_3.m.A))∧Ob (List.length a_2.m.A=List.length a_2.m.A)∧Ob ((↑a_2.k:Int)=(↑a_2.k:Int))∧Ob ((0:Int)=(↑a_3.k:Int))∧Ob (List.length a_2.m.A=List.length a_3.m.A∧∀(i:Nat),i < List.length a_3.m.A→(El.fn fun(i:Nat)↦[SV.i .i64 (cS a_2.m.d a_2.m.A i)]).at i=(El.fn fun(i:Nat)↦[SV.i .i64 (cS a_3.m.d a_3.m.A i)]).at i)∧Ob (List.length a_2.m.A=List.length a_3.m.A∧∀(i:Nat),i < List.length a_3.m.A→(El.fn (Rv.elemOf [.i64,.i64,.i64] a_2.m.A)).at i=(El.fn (Rv.elemOf [.i64,.i64,.i64] a_3.m.A)).at i)∧Ob (a_2.m.fee=a_3.m.fee)∧Ob (a_2.m.itr=a_3.m.itr)∧Ob (a_2.m.pri=a_3.m.pri)∧Ob (a_2.m.cre=a_3.m.cre)∧Ob (List.length a_2.m.A=List.length a_3.m.A)∧Ob (a_2.m.till=a_3.m.till)∧Ob (PlainE (List.length a_3.m.A) (El.fn fun(i:Nat)↦[SV.i .i64 (cS a_3.m.d a_3.m.A i)]))∧Ob (PlainE (List.length a_3.m.A) (El.fn (Rv.elemOf [.i64,.i64,.i64] a_3.m.A)))∧True)∧∀(a_3:Blt),a_3.m.Ok∧¬idl a_3.m.A∧a_3.k≤List.length a_3.m.A∧(0:Int)≤(↑a_2.k:Int)∧(↑a_2.k:Int) < (↑(List.length a_3.m.A):Int)∧List.length a_2.m.A=List.length a_3.m.A→∀(_ _ _ _ _ _ _ _ _ _ _ _ _ _ _ _ _ _ _ _ _ _ _ _ _ _ _ _ _ _ _ _ _ _ _ _ _ _ _ _ _ _ _ _ _ _ _ _ _ _ _ _ _ _ _ _ _ _ _ _ _ _ _ _ _ _ _ _ _ _ _ _ _ _ _ _ _ _ _ _ _ _ _ _ _ _ _ _ _ _ _ _ _ _ _ _ _ _ _ _ _ _ _ _ _ _ _ _ _ _ _ _ _ _ _ _ _ _ _ _ _ _ _ _ _ _ _ _ _ _ _ _ _ _ _ _ _ _ _ _ _ _ _ _ _ _ _ _ _ _ _ _ _ _ _ _ _ _ _ _ _ _ _ _ _ _ _ _ _ _ _ _ _ _ _ _ _ _ _ _ _ _ _ _ _ _ _ _ _ _ _ _ _ _ _ _ _ _ _ _ _ _ _ _ _ _ _ _ _ _ _:Value),((↑a_3.k:Int) < (↑(List.length a_2.m.A):Int)→Ob ((0:Int)≤(↑a_2.k:Int)∧a_2.k < List.length a_3.m.A)∧Ob (a_2.k < List.length a_3.m.A)∧Ob ((0:Int)≤(↑a_3.k:Int)∧a_3.k < List.length a_3.m.A)∧Ob (a_3.k < List.length a_3.m.A)∧(cell a_3.m.A a_2.k 2=cell a_3.m.A a_3.k 2→Ob ((0:Int)≤(↑a_2.k:Int)∧a_2.k < List.length a_2.m.A)∧Ob (a_2.k < List.length a_3.m.A)∧Ob ((0:Int)≤(↑a_3.k:Int)∧a_3.k < List.length a_2.m.A)∧Ob (a_3.k < List.length a_3.m.A)∧Ob (InR .i64 (cS a_3.m.d a_3.m.A a_3.k+(1:Int)))∧(¬cS a_3.m.d a_3.m.A a_3.k+(1:Int) < cS a_3.m.d a_3.m.A a_2.k→(cell a_3.m.A a_3.k 2 < cell a_3.m.A a_2.k 2→Ob ((0:Int)≤(↑a_2.k:Int)∧a_2.k < List.length a_2.m.A)∧Ob (a_2.k < List.length a_3.m.A)∧Ob ((0:Int)≤(↑a_3.k:Int)∧a_3.k < List.length a_2.m.A)∧Ob (a_3.k < List.length a_3.m.A)∧(cS a_3.m.d a_3.m.A a_2.k < cS a_3.m.d a_3.m.A a_3.k→False)∧(¬cS a_3.m.d a_3.m.A a_2.k < cS a_3.m.d a_3.m.A a_3.k→Ob (InR .i64 ((↑a_3.k:Int)+(1:Int)))∧∃(a':Blt),Ob ((a'.m.Ok∧¬idl a'.m.A∧a'.k≤List.length a'.m.A∧(0:Int)≤(↑a_2.k:Int)∧(↑a_2.k:Int) < (↑(List.length a'.m.A):Int)∧List.length a_2.m.A=List.length a'.m.A)∧List.length a'.m.A-a'.k < List.length a_3.m.A-a_3.k)∧Ob (a_3.m.d=a'.m.d)∧Ob (colS 2 a_3.m.A (List.length a_3.m.A)=colS 2 a'.m.A (List.length a'.m.A))∧Ob (List.length a_2.m.A=List.length a_2.m.A)∧Ob ((↑a_2.k:Int)=(↑a_2.k:Int))∧Ob ((↑a_3.k:Int)+(1:Int)=(↑a'.k:Int))∧Ob (List.length a_3.m.A=List.length a'.m.A∧∀(i:Nat),i < List.length a'.m.A→(El.fn fun(i:Nat)↦[SV.i .i64 (cS a_3.m.d a_3.m.A i)]).at i=(El.fn fun(i:Nat)↦[SV.i .i64 (cS a'.m.d a'.m.A i)]).at i)∧Ob (List.length a_3.m.A=List.length a'.m.A∧∀(i:Nat),i < List.length a'.m.A→(El.fn (Rv.elemOf [.i64,.i64,.i64] a_3.m.A)).at i=(El.fn (Rv.elemOf [.i64,.i64,.i64] a'.m.A)).at i)∧Ob (a_3.m.fee=a'.m.fee)∧Ob (a_3.m.itr=a'.m.itr)∧Ob (a_3.m.pri=a'.m.pri)∧Ob (a_3.m.cre=a'.m.cre)∧Ob (List.length a_3.m.A=List.length a'.m.A)∧Ob (a_3.m.till=a'.m.till)∧Ob (PlainE (List.length a'.m.A) (El.fn fun(i:Nat)↦[SV.i .i64 (cS a'.m.d a'.m.A i)]))∧Ob (PlainE (List.length a'.m.A) (El.fn (Rv.elemOf [.i64,.i64,.i64] a'.m.A)))∧True))∧(¬cell a_3.m.A a_3.k 2 < cell a_3.m.A a_2.k 2→Ob (InR .i64 ((↑a_3.k:Int)+(1:Int)))∧∃(a':Blt),Ob ((a'.m.Ok∧¬idl a'.m.A∧a'.k≤List.length a'.m.A∧(0:Int)≤(↑a_2.k:Int)∧(↑a_2.k:Int) < (↑(List.length a'.m.A):Int)∧List.length a_2.m.A=List.length a'.m.A)∧List.length a'.m.A-a'.k < List.length a_3.m.A-a_3.k)∧Ob (a_3.m.d=a'.m.d)∧Ob (colS 2 a_3.m.A (List.length a_3.m.A)=colS 2 a'.m.A (List.length a'.m.A))∧Ob (List.length a_2.m.A=List.length a_2.m.A)∧Ob ((↑a_2.k:Int)=(↑a_2.k:Int))∧Ob ((↑a_3.k:Int)+(1:Int)=(↑a'.k:Int))∧Ob (List.length a_3.m.A=List.length a'.m.A∧∀(i:Nat),i < List.length a'.m.A→(El.fn fun(i:Nat)↦[SV.i .i64 (cS a_3.m.d a_3.m.A i)]).at i=(El.fn fun(i:Nat)↦[SV.i .i64 (cS a'.m.d a'.m.A i)]).at i)∧Ob (List.length a_3.m.A=List.length a'.m.A∧∀(i:Nat),i < List.length a'.m.A→(El.fn (Rv.elemOf [.i64,.i64,.i64] a_3.m.A)).at i=(El.fn (Rv.elemOf [.i64,.i64,.i64] a'.m.A)).at i)∧Ob (a_3.m.fee=a'.m.fee)∧Ob (a_3.m.itr=a'.m.itr)∧Ob (a_3.m.pri=a'.m.pri)∧Ob (a_3.m.cre=a'.m.cre)∧Ob (List.length a_3.m.A=List.length a'.m.A)∧Ob (a_3.m.till=a'.m.till)∧Ob (PlainE (List.length a'.m.A) (El.fn fun(i:Nat)↦[SV.i .i64 (cS a'.m.d a'.m.A i)]))∧Ob (PlainE (List.length a'.m.A) (El.fn (Rv.elemOf [.i64,.i64,.i64] a'.m.A)))∧True))∧(cS a_3.m.d a_3.m.A a_3.k+(1:Int) < cS a_3.m.d a_3.m.A a_2.k→False))∧(¬cell a_3.m.A a_2.k 2=cell a_3.m.A a_3.k 2→(cell a_3.m.A a_3.k 2 < cell a_3.m.A a_2.k 2→Ob ((0:Int)≤(↑a_2.k:Int)∧a_2.k < List.length a_2.m.A)∧Ob (a_2.k < List.length a_3.m.A)∧Ob ((0:Int)≤(↑a_3.k:Int)∧a_3.k < List.length a_2.m.A)∧Ob (a_3.k < List.length a_3.m.A)∧(cS a_3.m.d a_3.m.A a_2.k < cS a_3.m.d a_3.m.A a_3.k→False)∧(¬cS a_3.m.d a_3.m.A a_2.k < cS a_3.m.d a_3.m.A a_3.k→Ob (InR .i64 ((↑a_3.k:Int)+(1:Int)))∧∃(a':Blt),Ob ((a'.m.Ok∧¬idl a'.m.A∧a'.k≤List.length a'.m.A∧(0:Int)≤(↑a_2.k:Int)∧(↑a_2.k:Int) < (↑(List.length a'.m.A):Int)∧List.length a_2.m.A=List.length a'.m.A)∧List.length a'.m.A-a'.k < List.length a_3.m.A-a_3.k)∧Ob (a_3.m.d=a'.m.d)∧Ob (colS 2 a_3.m.A (List.length a_3.m.A)=colS 2 a'.m.A (List.length a'.m.A))∧Ob (List.length a_2.m.A=List.length a_2.m.A)∧Ob ((↑a_2.k:Int)=(↑a_2.k:Int))∧Ob ((↑a_3.k:Int)+(1:Int)=(↑a'.k:Int))∧Ob (List.length a_3.m.A=List.length a'.m.A∧∀(i:Nat),i < List.length a'.m.A→(El.fn fun(i:Nat)↦[SV.i .i64 (cS a_3.m.d a_3.m.A i)]).at i=(El.fn fun(i:Nat)↦[SV.i .i64 (cS a'.m.d a'.m.A i)]).at i)∧Ob (List.length a_3.m.A=List.length a'.m.A∧∀(i:Nat),i < List.length a'.m.A→(El.fn (Rv.elemOf [.i64,.i64,.i64] a_3.m.A)).at i=(El.fn (Rv.elemOf [.i64,.i64,.i64] a'.m.A)).at i)∧Ob (a_3.m.fee=a'.m.fee)∧Ob (a_3.m.itr=a'.m.itr)∧Ob (a_3.m.pri=a'.m.pri)∧Ob (a_3.m.cre=a'.m.cre)∧Ob (List.length a_3.m.A=List.length a'.m.A)∧Ob (a_3.m.till=a'.m.till)∧Ob (PlainE (List.length a'.m.A) (El.fn fun(i:Nat)↦[SV.i .i64 (cS a'.m.d a'.m.A i)]))∧Ob (PlainE (List.length a'.m.A) (El.fn (Rv.elemOf [.i64,.i64,.i64] a'.m.A)))∧True))∧(¬cell a_3.m.A a_3.k 2 < cell a_3.m.A a_2.k 2→Ob (InR .i64 ((↑a_3.k:Int)+(1:Int)))∧∃(a':Blt),Ob ((a'.m.Ok∧¬idl a'.m.A∧a'.k≤List.length a'.m.A∧(0:Int)≤(↑a_2.k:Int)∧(↑a_2.k:Int) < (↑(List.length a'.m.A):Int)∧List.length a_2.m.A=List.length a'.m.A)∧List.length a'.m.A-a'.k < List.length a_3.m.A-a_3.k)∧Ob (a_3.m.d=a'.m.d)∧Ob (colS 2 a_3.m.A (List.length a_3.m.A)=colS 2 a'.m.A (List.length a'.m.A))∧Ob (List.length a_2.m.A=List.length a_2.m.A)∧Ob ((↑a_2.k:Int)=(↑a_2.k:Int))∧Ob ((↑a_3.k:Int)+(1:Int)=(↑a'.k:Int))∧Ob (List.length a_3.m.A=List.length a'.m.A∧∀(i:Nat),i < List.length a'.m.A→(El.fn fun(i:Nat)↦[SV.i .i64 (cS a_3.m.d a_3.m.A i)]).at i=(El.fn fun(i:Nat)↦[SV.i .i64 (cS a'.m.d a'.m.A i)]).at i)∧Ob (List.length a_3.m.A=List.length a'.m.A∧∀(i:Nat),i < List.length a'.m.A→(El.fn (Rv.elemOf [.i64,.i64,.i64] a_3.m.A)).at i=(El.fn (Rv.elemOf [.i64,.i64,.i64] a'.m.A)).at i)∧Ob (a_3.m.fee=a'.m.fee)∧Ob (a_3.m.itr=a'.m.itr)∧Ob (a_3.m.pri=a'.m.pri)∧Ob (a_3.m.cre=a'.m.cre)∧Ob (List.length a_3.m.A=List.length a'.m.A)∧Ob (a_3.m.till=a'.m.till)∧Ob (PlainE (List.length a'.m.A) (El.fn fun(i:Nat)↦[SV.i .i64 (cS a'.m.d a'.m.A i)]))∧Ob (PlainE (List.length a'.m.A) (El.fn (Rv.elemOf [.i64,.i64,.i64] a'.m.A)))∧True)))∧(¬(↑a_3.k:Int) < (↑(List.length a_2.m.A):Int)→Ob (InR .i64 ((↑a_2.k:Int)+(1:Int)))∧∃(a':Blt),Ob ((a'.m.Ok∧¬idl a'.m.A∧a'.k≤List.length a'.m.A)∧List.length a'.m.A-a'.k < List.length a_2.m.A-a_2.k)∧Ob (a_3.m.d=a'.m.d)∧Ob (colS 2 a_3.m.A (List.length a_3.m.A)=colS 2 a'.m.A (List.length a'.m.A))∧Ob (List.length a_2.m.A=List.length a'.m.A)∧Ob ((↑a_2.k:Int)+(1:Int)=(↑a'.k:Int))∧Ob (List.length a_3.m.A=List.length a'.m.A∧∀(i:Nat),i < List.length a'.m.A→(El.fn fun(i:Nat)↦[SV.i .i64 (cS a_3.m.d a_3.m.A i)]).at i=(El.fn fun(i:Nat)↦[SV.i .i64 (cS a'.m.d a'.m.A i)]).at i)∧Ob (List.length a_3.m.A=List.length a'.m.A∧∀(i:Nat),i < List.length a'.m.A→(El.fn (Rv.elemOf [.i64,.i64,.i64] a_3.m.A)).at i=(El.fn (Rv.elemOf [.i64,.i64,.i64] a'.m.A)).at i)∧Ob (a_3.m.fee=a'.m.fee)∧Ob (a_3.m.itr=a'.m.itr)∧Ob (a_3.m.pri=a'.m.pri)∧Ob (a_3.m.cre=a'.m.cre)∧Ob (List.length a_3.m.A=List.length a'.m.A)∧Ob (a_3.m.till=a'.m.till)∧Ob (PlainE (List.length a'.m.A) (El.fn fun(i:Nat)↦[SV.i .i64 (cS a'.m.d a'.m.A i)]))∧Ob (PlainE (List.length a'.m.A) (El.fn (Rv.elemOf [.i64,.i64,.i64] a'.m.A)))∧True)))∧(cS a_2.m.d a_2.m.A a_2.k*colS 2 a_2.m.A (List.length a_2.m.A)≤a_2.m.d*cell a_2.m.A a_2.k 2-colS 2 a_2.m.A (List.length a_2.m.A)→False))∧(¬(↑a_2.k:Int) < (↑(List.length a_2.m.A):Int)→∃(l4:List (List Int)),Ob (List.length a_2.m.A=List.length a_2.m.A∧l4.length=List.length a_2.m.A∧(∀r∈l4,r.length=3)∧∀(i:Nat),i < List.length a_2.m.A→(El.fn (Rv.elemOf [.i64,.i64,.i64] a_2.m.A)).at i=Rv.elemOf [.i64,.i64,.i64] l4 i)∧Ob (F_Do.named.pre ([Dat.z a_2.m.fee,Dat.z a_2.m.itr,Dat.z a_2.m.pri,Dat.z a_2.m.cre,Dat.l l4,Dat.z a_2.m.till]++([Dat.z (7:Int),Dat.z (0:Int),Dat.z (0:Int),Dat.z a_2.m.d]++[])))∧(C_Do ([Dat.z a_2.m.fee,Dat.z a_2.m.itr,Dat.z a_2.m.pri,Dat.z a_2.m.cre,Dat.l l4,Dat.z a_2.m.till]++([Dat.z (7:Int),Dat.z (0:Int),Dat.z (0:Int),Dat.z a_2.m.d]++[]))→∀(v_6:Int),v_6=doE a_2.m.fee a_2.m.itr a_2.m.pri a_2.m.cre l4 a_2.m.till (7:Int) (0:Int) (0:Int) a_2.m.d→(¬v_6=(0:Int)→(¬v_6=(12:Int)→(v_6=(1:Int)→(a_2.m.d=(0:Int)→Ob (hasTabs [] B)∧True)∧(¬a_2.m.d=(0:Int)→False))∧(¬v_6=(1:Int)→False))∧(v_6=(12:Int)→Ob (hasTabs [] B)∧True))∧(¬¬v_6=(0:Int)→(¬(0:Int)=(↑(List.length a_2.m.A):Int)→False)∧(¬¬(0:Int)=(↑(List.length a_2.m.A):Int)→(∃(a_3:Blt),Ob (a_3.m.Ok∧¬idl a_3.m.A∧a_3.k≤List.length a_3.m.A)∧Ob (List.length a_2.m.A=List.length a_3.m.A)∧Ob ((0:Int)=(↑a_3.k:Int))∧Ob ((0:Int)=a_3.m.fee)∧Ob ((0:Int)=a_3.m.itr)∧Ob ((0:Int)=a_3.m.pri)∧Ob ((0:Int)=a_3.m.cre)∧False)∧∀(a_3:Blt),a_3.m.Ok∧¬idl a_3.m.A∧a_3.k≤List.length a_3.m.A→∀(_ _ _ _ _ _ _ _ _ _ _ _ _ _ _ _ _ _ _ _ _ _ _ _ _ _ _ _ _ _ _ _ _ _ _ _ _ _ _ _ _ _ _ _ _ _ _ _ _ _ _ _ _ _ _ _ _ _ _ _ _ _ _ _ _ _ _ _ _ _ _ _ _ _ _ _ _ _ _ _ _ _ _ _ _ _ _ _ _ _ _ _ _ _ _ _ _ _ _ _ _ _ _ _ _ _ _ _ _ _ _ _ _ _ _ _ _ _ _ _ _ _ _ _ _ _ _ _ _ _ _ _ _ _ _ _ _ _ _ _ _ _ _ _ _ _ _ _ _ _ _ _ _ _ _ _ _ _ _ _ _ _ _ _ _ _ _ _ _ _ _ _ _ _ _ _ _ _ _ _ _ _ _ _ _ _ _ _ _ _ _ _ _ _ _ _ _ _ _ _ _ _ _ _ _ _ _ _ _ _ _ _ _:Value),((↑a_3.k:Int) < (↑(List.length a_3.m.A):Int)→Ob ((0:Int)≤(↑a_3.k:Int)∧a_3.k < List.length a_3.m.A)∧Ob (a_3.k < List.length a_3.m.A)∧Ob ((0:Int)≤(↑a_3.k:Int)∧a_3.k < List.length a_3.m.A)∧Ob (a_3.k < List.length a_3.m.A)∧Ob ((0:Int)≤(↑a_3.k:Int)∧a_3.k < List.length a_3.m.A)∧Ob (a_3.k < List.length a_3.m.A)∧Ob (InR .i64 (cell a_3.m.A a_3.k 0+cS a_3.m.d a_3.m.A a_3.k))∧Ob ((0:Int)≤(↑a_3.k:Int)∧a_3.k < List.length a_3.m.A)∧Ob (a_3.k < List.length a_3.m.A)∧(¬(cell (bnR a_3.m) a_3.k 0=cell a_3.m.A a_3.k 0+cS a_3.m.d a_3.m.A a_3.k∧cell (bnR a_3.m) a_3.k 1=cell a_3.m.A a_3.k 1∧cell (bnR a_3.m) a_3.k 2=(0:Int)∧True)→False)∧(¬¬(cell (bnR a_3.m) a_3.k 0=cell a_3.m.A a_3.k 0+cS a_3.m.d a_3.m.A a_3.k∧cell (bnR a_3.m) a_3.k 1=cell a_3.m.A a_3.k 1∧cell (bnR a_3.m) a_3.k 2=(0:Int)∧True)→Ob (InR .i64 ((↑a_3.k:Int)+(1:Int)))∧∃(a':Blt),Ob ((a'.m.Ok∧¬idl a'.m.A∧a'.k≤List.length a'.m.A)∧List.length a'.m.A-a'.k < List.length a_3.m.A-a_3.k)∧Ob (List.length a_3.m.A=List.length a'.m.A)∧Ob ((↑a_3.k:Int)+(1:Int)=(↑a'.k:Int))∧Ob (a_3.m.fee=a'.m.fee)∧Ob (a_3.m.itr=a'.m.itr)∧Ob (a_3.m.pri=a'.m.pri)∧Ob (a_3.m.cre=a'.m.cre)∧Ob (List.length a_3.m.A=List.length a'.m.A)∧Ob (a_3.m.till=a'.m.till)∧Ob (List.length a_3.m.A=List.length a'.m.A∧∀(i:Nat),i < List.length a'.m.A→(El.fn (Rv.elemOf [.i64,.i64,.i64] (bnR a_3.m))).at i=(El.fn (Rv.elemOf [.i64,.i64,.i64] (bnR a'.m))).at i)∧Ob (List.length a_3.m.A=List.length a'.m.A∧∀(i:Nat),i < List.length a'.m.A→(El.fn fun(i:Nat)↦[SV.i .i64 (cS a_3.m.d a_3.m.A i)]).at i=(El.fn fun(i:Nat)↦[SV.i .i64 (cS a'.m.d a'.m.A i)]).at i)∧Ob (List.length a_3.m.A=List.length a'.m.A∧∀(i:Nat),i < List.length a'.m.A→(El.fn (Rv.elemOf [.i64,.i64,.i64] a_3.m.A)).at i=(El.fn (Rv.elemOf [.i64,.i64,.i64] a'.m.A)).at i)∧Ob (a_3.m.fee=a'.m.fee)∧Ob (a_3.m.itr=a'.m.itr)∧Ob (a_3.m.pri=a'.m.pri)∧Ob (a_3.m.cre=a'.m.cre)∧Ob (List.length a_3.m.A=List.length a'.m.A)∧Ob (a_3.m.till=a'.m.till)∧Ob (PlainE (List.length a'.m.A) (El.fn (Rv.elemOf [.i64,.i64,.i64] (bnR a'.m))))∧Ob (PlainE (List.length a'.m.A) (El.fn fun(i:Nat)↦[SV.i .i64 (cS a'.m.d a'.m.A i)]))∧Ob (PlainE (List.length a'.m.A) (El.fn (Rv.elemOf [.i64,.i64,.i64] a'.m.A)))∧True))∧(¬(↑a_3.k:Int) < (↑(List.length a_3.m.A):Int)→Ob (hasTabs [] B)∧True))))∧(¬C_Do ([Dat.z a_2.m.fee,Dat.z a_2.m.itr,Dat.z a_2.m.pri,Dat.z a_2.m.cre,Dat.l l4,Dat.z a_2.m.till]++([Dat.z (7:Int),Dat.z (0:Int),Dat.z (0:Int),Dat.z a_2.m.d]++[]))→∀(v_6:Int),v_6=a_2.m.fee→∀(v_7:Int),v_7=a_2.m.itr→∀(v_8:Int),v_8=a_2.m.pri→∀(v_9:Int),v_9=a_2.m.cre→∀(v_10:Int),v_10=dT a_2.m.till (7:Int) a_2.m.d→∀(v_11:Int),v_11=(0:Int)→(¬v_11=(0:Int)→(¬v_11=(12:Int)→(v_11=(1:Int)→(a_2.m.d=(0:Int)→Ob (hasTabs [] B)∧True)∧(¬a_2.m.d=(0:Int)→False))∧(¬v_11=(1:Int)→False))∧(v_11=(12:Int)→Ob (hasTabs [] B)∧True))∧(¬¬v_11=(0:Int)→(¬(↑l4.length:Int)=(↑(List.length a_2.m.A):Int)→False)∧(¬¬(↑l4.length:Int)=(↑(List.length a_2.m.A):Int)→(∃(a_3:Blt),Ob (a_3.m.Ok∧¬idl a_3.m.A∧a_3.k≤List.length a_3.m.A)∧Ob (List.length a_2.m.A=List.length a_3.m.A)∧Ob ((0:Int)=(↑a_3.k:Int))∧Ob (v_6=a_3.m.fee)∧Ob (v_7=a_3.m.itr)∧Ob (v_8=a_3.m.pri)∧Ob (v_9=a_3.m.cre)∧Ob (l4.length=List.length a_3.m.A)∧Ob (v_10=a_3.m.till)∧Ob (l4.length=List.length a_3.m.A∧∀(i:Nat),i < List.length a_3.m.A→(El.fn (Rv.elemOf [.i64,.i64,.i64] (dA a_2.m.fee a_2.m.itr a_2.m.pri a_2.m.cre l4 a_2.m.till (7:Int) (0:Int) (0:Int) a_2.m.d))).at i=(El.fn (Rv.elemOf [.i64,.i64,.i64] (bnR a_3.m))).at i)∧Ob (List.length a_2.m.A=List.length a_3.m.A∧∀(i:Nat),i < List.length a_3.m.A→(El.fn fun(i:Nat)↦[SV.i .i64 (cS a_2.m.d a_2.m.A i)]).at i=(El.fn fun(i:Nat)↦[SV.i .i64 (cS a_3.m.d a_3.m.A i)]).at i)∧Ob (List.length a_2.m.A=List.length a_3.m.A∧∀(i:Nat),i < List.length a_3.m.A→(El.fn (Rv.elemOf [.i64,.i64,.i64] a_2.m.A)).at i=(El.fn (Rv.elemOf [.i64,.i64,.i64] a_3.m.A)).at i)∧Ob (a_2.m.fee=a_3.m.fee)∧Ob (a_2.m.itr=a_3.m.itr)∧Ob (a_2.m.pri=a_3.m.pri)∧Ob (a_2.m.cre=a_3.m.cre)∧Ob (List.length a_2.m.A=List.length a_3.m.A)∧Ob (a_2.m.till=a_3.m.till)∧Ob (PlainE (List.length a_3.m.A) (El.fn (Rv.elemOf [.i64,.i64,.i64] (bnR a_3.m))))∧Ob (PlainE (List.length a_3.m.A) (El.fn fun(i:Nat)↦[SV.i .i64 (cS a_3.m.d a_3.m.A i)]))∧Ob (PlainE (List.length a_3.m.A) (El.fn (Rv.elemOf [.i64,.i64,.i64] a_3.m.A)))∧True)∧∀(a_3:Blt),a_3.m.Ok∧¬idl a_3.m.A∧a_3.k≤List.length a_3.m.A→∀(_ _ _ _ _ _ _ _ _ _ _ _ _ _ _ _ _ _ _ _ _ _ _ _ _ _ _ _ _ _ _ _ _ _ _ _ _ _ _ _ _ _ _ _ _ _ _ _ _ _ _ _ _ _ _ _ _ _ _ _ _ _ _ _ _ _ _ _ _ _ _ _ _ _ _ _ _ _ _ _ _ _ _ _ _ _ _ _ _ _ _ _ _ _ _ _ _ _ _ _ _ _ _ _ _ _ _ _ _ _ _ _ _ _ _ _ _ _ _ _ _ _ _ _ _ _ _ _ _ _ _ _ _ _ _ _ _ _ _ _ _ _ _ _ _ _ _ _ _ _ _ _ _ _ _ _ _ _ _ _ _ _ _ _ _ _ _ _ _ _ _ _ _ _ _ _ _ _ _ _ _ _ _ _ _ _ _ _ _ _ _ _ _ _ _ _ _ _ _ _ _ _ _ _ _ _ _ _ _ _ _ _ _:Value),((↑a_3.k:Int) < (↑(List.length a_3.m.A):Int)→Ob ((0:Int)≤(↑a_3.k:Int)∧a_3.k < List.length a_3.m.A)∧Ob (a_3.k < List.length a_3.m.A)∧Ob ((0:Int)≤(↑a_3.k:Int)∧a_3.k < List.length a_3.m.A)∧Ob (a_3.k < List.length a_3.m.A)∧Ob ((0:Int)≤(↑a_3.k:Int)∧a_3.k < List.length a_3.m.A)∧Ob (a_3.k < List.length a_3.m.A)∧Ob (InR .i64 (cell a_3.m.A a_3.k 0+cS a_3.m.d a_3.m.A a_3.k))∧Ob ((0:Int)≤(↑a_3.k:Int)∧a_3.k < List.length a_3.m.A)∧Ob (a_3.k < List.length a_3.m.A)∧(¬(cell (bnR a_3.m) a_3.k 0=cell a_3.m.A a_3.k 0+cS a_3.m.d a_3.m.A a_3.k∧cell (bnR a_3.m) a_3.k 1=cell a_3.m.A a_3.k 1∧cell (bnR a_3.m) a_3.k 2=(0:Int)∧True)→False)∧(¬¬(cell (bnR a_3.m) a_3.k 0=cell a_3.m.A a_3.k 0+cS a_3.m.d a_3.m.A a_3.k∧cell (bnR a_3.m) a_3.k 1=cell a_3.m.A a_3.k 1∧cell (bnR a_3.m) a_3.k 2=(0:Int)∧True)→Ob (InR .i64 ((↑a_3.k:Int)+(1:Int)))∧∃(a':Blt),Ob ((a'.m.Ok∧¬idl a'.m.A∧a'.k≤List.length a'.m.A)∧List.length a'.m.A-a'.k < List.length a_3.m.A-a_3.k)∧Ob (List.length a_3.m.A=List.length a'.m.A)∧Ob ((↑a_3.k:Int)+(1:Int)=(↑a'.k:Int))∧Ob (a_3.m.fee=a'.m.fee)∧Ob (a_3.m.itr=a'.m.itr)∧Ob (a_3.m.pri=a'.m.pri)∧Ob (a_3.m.cre=a'.m.cre)∧Ob (List.length a_3.m.A=List.length a'.m.A)∧Ob (a_3.m.till=a'.m.till)∧Ob (List.length a_3.m.A=List.length a'.m.A∧∀(i:Nat),i < List.length a'.m.A→(El.fn (Rv.elemOf [.i64,.i64,.i64] (bnR a_3.m))).at i=(El.fn (Rv.elemOf [.i64,.i64,.i64] (bnR a'.m))).at i)∧Ob (List.length a_3.m.A=List.length a'.m.A∧∀(i:Nat),i < List.length a'.m.A→(El.fn fun(i:Nat)↦[SV.i .i64 (cS a_3.m.d a_3.m.A i)]).at i=(El.fn fun(i:Nat)↦[SV.i .i64 (cS a'.m.d a'.m.A i)]).at i)∧Ob (List.length a_3.m.A=List.length a'.m.A∧∀(i:Nat),i < List.length a'.m.A→(El.fn (Rv.elemOf [.i64,.i64,.i64] a_3.m.A)).at i=(El.fn (Rv.elemOf [.i64,.i64,.i64] a'.m.A)).at i)∧Ob (a_3.m.fee=a'.m.fee)∧Ob (a_3.m.itr=a'.m.itr)∧Ob (a_3.m.pri=a'.m.pri)∧Ob (a_3.m.cre=a'.m.cre)∧Ob (List.length a_3.m.A=List.length a'.m.A)∧Ob (a_3.m.till=a'.m.till)∧Ob (PlainE (List.length a'.m.A) (El.fn (Rv.elemOf [.i64,.i64,.i64] (bnR a'.m))))∧Ob (PlainE (List.length a'.m.A) (El.fn fun(i:Nat)↦[SV.i .i64 (cS a'.m.d a'.m.A i)]))∧Ob (PlainE (List.length a'.m.A) (El.fn (Rv.elemOf [.i64,.i64,.i64] a'.m.A)))∧True))∧(¬(↑a_3.k:Int) < (↑(List.length a_3.m.A):Int)→Ob (hasTabs [] B)∧True)))))))∧(¬(↑l2.length:Int)=(↑(List.length a_1.m.A):Int)→False))))
set_option linter.unusedSimpArgs false in
set_option maxRecDepth 4000 in
set_option maxHeartbeats 2000000 in
theorem v_law:V_law:=by
 unfold V_law
 intro B htab xz N hz hoz hrz hN
 simp only [F_Below,F_Of,FnE.named,List.cons_append,List.nil_append,Ob_iff,and_true,true_and,Classical.not_not]
 refine⟨N,⟨hz,rfl,hrz,fun _ _=>rfl⟩,hN,⟨by omega,by omega⟩,?_⟩
 obtain⟨a0,ha0⟩:∃a0,tideK N N.length=a0:=⟨_,rfl⟩
 rw [ha0]
 intro q hq f hf i hi p hp c hc t ht
 have hc0:=co_ok a0 (most:=6) (by omega) (by omega)
 have hl0:=co_len a0 6 (coN a0 6).toNat
 have hr0:=co_row a0 6 (coN a0 6).toNat
 have hb0:∀j,j < (coN a0 6).toNat→cell (coR a0 6 (coN a0 6).toNat) j 0≤100000:=fun j hj=>by
  rw [co_c0 a0 6 hj]
  have:=(acB_in (itQ acQ (coA7 a0 6) j)).2
  exact Int.le_trans this (by omega)
 rw [← hf,← hi,← hp,← hc,← ht]at hc0
 clear hf hi hp hc ht
 obtain⟨A,hA⟩:∃A,coR a0 6 (coN a0 6).toNat=A:=⟨_,rfl⟩
 obtain⟨n,hn⟩:∃n,(coN a0 6).toNat=n:=⟨_,rfl⟩
 rw [hA]at hc0 hl0 hr0 hb0
 rw [hn]at hl0 hb0
 rw [hA,hn]
 clear hA hn
 subst hl0
 refine⟨?_,?_⟩
 ·refine⟨by omega,?_⟩
  intro v6 h6 v7 h7
  have b7:=belowV_in q 30
  rw [← h7]at b7
  clear h7 h6
  refine⟨by omega,?_⟩
  intro v8 h8 v9 h9
  have b9:=belowV_in v6 5000
  rw [← h9]at b9
  clear h9 h8
  refine⟨by simp,?_⟩
  intro v10 h10 v11 h11
  have b11:v11=0∨v11=v7∨v11=v9:=by rw [h11]; exact ofV_thr _ _ _ _
  clear h10 h11
  exact⟨⟨q,f,i,p,c,t,v11,A⟩,⟨hc0,hr0,by show 0≤v11∧v11≤5000; omega,hb0⟩,rfl,⟨rfl,fun _ _=>rfl⟩,rfl,rfl,rfl,rfl,rfl,rfl,plain_elemOf _ _ _⟩
 clear hc0 hr0 hb0
 intro v hv
 intros
 refine⟨⟨⟨v,0⟩,⟨hv,Nat.zero_le _⟩,?_⟩,?_⟩
 ·repeat' (with_reducible apply And.intro)
  all_goals first | rfl | exact plain_elemOf _ _ _ | exact fun _ _=>rfl
 clear hv
 intro u hu
 obtain⟨hu,hk⟩:=hu
 intros
 have hl:=hu.c.l
 have sm:=hu.c.small
 have h0:=coop_zero hu.c
 refine⟨fun h1=>?_,fun h1=>?_⟩
 ·have hk':u.k < u.m.A.length:=by omega
  have b0:=sm.sum (c:=2) (by omega) (k:=u.k+1) hk'
  have e:colS 2 u.m.A (u.k+1)=colS 2 u.m.A u.k+cell u.m.A u.k 2:=rfl
  have hc1:(u.k:Int)+1=((u.k+1:Nat):Int):=by omega
  refine⟨⟨by omega,hk'⟩,hk',by simp only [InR]; omega,by simp only [InR]; omega,⟨u.m,u.k+1⟩,⟨⟨hu,hk'⟩,by show u.m.A.length-(u.k+1) < u.m.A.length-u.k; omega⟩,?_⟩
  repeat' (with_reducible apply And.intro)
  all_goals first | rfl | exact plain_elemOf _ _ _ | exact fun _ _=>rfl | exact hc1
 have ek:u.k=u.m.A.length:=by omega
 rw [ek]
 have hd:=hu.d
 refine⟨u.m.A,⟨rfl,hu.a,fun _ _=>rfl⟩,⟨h0,by unfold mny; omega⟩,fun h2=>?_,fun h2=>?_⟩
 ·have h2:idl u.m.A:=h2
  exact⟨fun _=>htab,fun h=>absurd ((idl_zero hu.c).1 h2) h⟩
 have h2:¬ idl u.m.A:=h2
 have nz:¬ colS 2 u.m.A u.m.A.length=0:=fun h=>h2 ((idl_zero hu.c).2 h)
 have sh:=hu.sh h2
 refine⟨fun h=>absurd h nz,fun _=>⟨fun _=>⟨csT u.m.d u.m.A,⟨csT_len _ _,csT_row _ _,csT_at _ _⟩,⟨by rw [csT_len]; omega,fun i hi=>?_⟩,fun h=>absurd (csT_tot sh) h,fun _=>⟨?_,?_⟩⟩,fun h=>absurd rfl h⟩⟩
 ·rw [csT_len]at hi
  rw [csT_cell _ _ hi]
  have:=cS_in sh hi
  omega
 ·refine⟨⟨u.m,0⟩,⟨hu,h2,Nat.zero_le _⟩,?_⟩
  repeat' (with_reducible apply And.intro)
  all_goals first | rfl | exact plain_elemOf _ _ _ | exact fun _ _=>rfl | exact plain_fnD _ _
 clear hu hk h1 hl sm h0 ek hd h2 nz sh
 intro w hw
 obtain⟨hw,hi,hk⟩:=hw
 intros
 have sh:=hw.sh hi
 have hl:=hw.c.l
 have sm:=hw.c.small
 have h0:=coop_zero hw.c
 have hd:=hw.d
 refine⟨fun h1=>?_,fun h1=>?_⟩
 ·have hk':w.k < w.m.A.length:=by omega
  have hs:=cS_in sh hk'
  have hp:=cS_part sh hk'
  have hN:=sh.n
  have eN:cN w.m.A=colS 2 w.m.A w.m.A.length:=rfl
  rw [eN]at hN
  have ha:=hw.c.a w.k hk'
  unfold accAt mny at ha
  have r1:0≤w.m.d*cell w.m.A w.k 2:=Int.mul_nonneg hd.1 ha.2.2.1
  have r2:w.m.d*cell w.m.A w.k 2≤5000*cell w.m.A w.k 2:=Int.mul_le_mul_of_nonneg_right hd.2 ha.2.2.1
  have r3:0≤cS w.m.d w.m.A w.k*colS 2 w.m.A w.m.A.length:=Int.mul_nonneg hs.1 (by omega)
  refine⟨⟨by omega,hk'⟩,hk',by simp only [InR]; omega,⟨by omega,hk'⟩,hk',by simp only [InR]; omega,by simp only [InR]; omega,fun _=>⟨⟨by omega,hk'⟩,hk',by simp only [InR]; omega,by simp only [InR]; omega,fun h=>absurd h (by omega),fun _=>⟨?_,?_⟩⟩,fun h=>absurd h (by omega)⟩
  ·refine⟨⟨w.m,0⟩,⟨hw,hi,Nat.zero_le _,by omega,by omega,rfl⟩,?_⟩
   repeat' (with_reducible apply And.intro)
   all_goals first | rfl | exact plain_elemOf _ _ _ | exact fun _ _=>rfl | exact plain_fnD _ _
  clear hw hi hk sh hl sm h0 hd hs hp hN eN ha r1 r2 r3
  intro z hz
  obtain⟨hz,hi,hk,hj0,hj,hn8⟩:=hz
  intros
  have sh:=hz.sh hi
  have hj:w.k < z.m.A.length:=by omega
  have hl:=hz.c.l
  have ij:InR .i64 ((w.k:Int)+1):=by simp only [InR]; omega
  refine⟨fun h2=>?_,fun h2=>?_⟩
  ·have hk':z.k < z.m.A.length:=by omega
   have hc1:(z.k:Int)+1=((z.k+1:Nat):Int):=by omega
   have ik:InR .i64 ((z.k:Int)+1):=by simp only [InR]; omega
   have s1:=cS_in sh hk'
   have hd:=hz.d
   have E:∃a':Blt,((a'.m.Ok∧¬ idl a'.m.A∧a'.k≤a'.m.A.length∧0≤(w.k:Int)∧(w.k:Int) < a'.m.A.length∧w.m.A.length=a'.m.A.length)∧a'.m.A.length-a'.k < z.m.A.length-z.k)∧a'=⟨z.m,z.k+1⟩:=⟨⟨z.m,z.k+1⟩,⟨⟨hz,hi,hk',by omega,by show(w.k:Int) < z.m.A.length; omega,hn8⟩,by show z.m.A.length-(z.k+1) < z.m.A.length-z.k; omega⟩,rfl⟩
   refine⟨⟨by omega,by omega⟩,by omega,⟨by omega,by omega⟩,by omega,fun h2=>⟨⟨by omega,by omega⟩,by omega,⟨by omega,by omega⟩,by omega,by simp only [InR]; omega,fun _=>⟨fun h3=>absurd h3 (by omega),fun _=>⟨ik,?_⟩⟩,fun h=>absurd h (by have:=cS_near sh hj hk' h2; omega)⟩,fun h2=>⟨fun h3=>⟨⟨by omega,by omega⟩,by omega,⟨by omega,by omega⟩,by omega,fun h=>absurd h (by have:=cS_mono sh hj hk' h3; omega),fun _=>⟨ik,?_⟩⟩,fun _=>⟨ik,?_⟩⟩⟩
   all_goals
    obtain⟨a',h5,rfl⟩:=E
    refine⟨_,h5,?_⟩
    repeat' (with_reducible apply And.intro)
    all_goals first | rfl | exact plain_elemOf _ _ _ | exact fun _ _=>rfl | exact plain_fnD _ _ | exact hc1 | exact hn8
  ·have hc1:(w.k:Int)+1=((w.k+1:Nat):Int):=by omega
   refine⟨ij,⟨z.m,w.k+1⟩,⟨⟨hz,hi,hj⟩,?_⟩,?_⟩
   ·show z.m.A.length-(w.k+1) < w.m.A.length-w.k
    omega
   ·repeat' (with_reducible apply And.intro)
    all_goals first | rfl | exact plain_elemOf _ _ _ | exact fun _ _=>rfl | exact plain_fnD _ _ | exact hc1 | exact hn8
 ·have E:=bn_err hw hi
  have dt:dT w.m.till 7 w.m.d=w.m.till:=by simp [dT]
  refine⟨w.m.A,⟨rfl,hw.a,fun _ _=>rfl⟩,(by show _≤4000000; omega),fun hC v6 h6=>?_,fun hC v6 h6 v7 h7 v8 h8 v9 h9 v10 h10 v11 h11=>?_⟩
  ·rw [← h6]at E
   exact⟨fun h7=>⟨fun h8=>⟨fun h9=>⟨fun _=>htab,fun h10=>absurd E (by omega)⟩,fun h9=>absurd E (by omega)⟩,fun _=>htab⟩,fun h7=>absurd (h6.symm.trans h7) hC⟩
  ·rw [dt]at h10
   subst h6 h7 h8 h9 h10 h11
   refine⟨fun h=>absurd rfl h,fun _=>⟨fun h=>absurd rfl h,fun _=>⟨⟨⟨w.m,0⟩,⟨hw,hi,Nat.zero_le _⟩,?_⟩,?_⟩⟩⟩
   ·repeat' (with_reducible apply And.intro)
    all_goals first | rfl | exact plain_elemOf _ _ _ | exact fun _ _=>rfl | exact plain_fnD _ _
   clear hw hi hk sh hl sm h0 hd h1 E dt hC
   intro z hz
   obtain⟨hz,hi,hk⟩:=hz
   intros
   refine⟨fun h1=>?_,fun _=>htab⟩
   have hk':z.k < z.m.A.length:=by omega
   have hl:=hz.c.l
   have sh:=hz.sh hi
   have hs:=cS_in sh hk'
   have hd:=hz.d
   have hb:=hz.b _ hk'
   have ha:=hz.c.a z.k hk'
   unfold accAt mny at ha
   obtain⟨c0,c1,c2⟩:=bn_cell z.m hk'
   have hc1:(z.k:Int)+1=((z.k+1:Nat):Int):=by omega
   refine⟨⟨by omega,hk'⟩,hk',⟨by omega,hk'⟩,hk',⟨by omega,hk'⟩,hk',by simp only [InR]; omega,⟨by omega,hk'⟩,hk',fun h=>h ⟨c0,c1,c2⟩,fun _=>⟨by simp only [InR]; omega,⟨z.m,z.k+1⟩,⟨⟨hz,hi,hk'⟩,by show z.m.A.length-(z.k+1) < z.m.A.length-z.k; omega⟩,?_⟩⟩
   repeat' (with_reducible apply And.intro)
   all_goals first | rfl | exact plain_elemOf _ _ _ | exact fun _ _=>rfl | exact plain_fnD _ _ | exact hc1
theorem e_law:V_law=needL P [F_TotalK] [F_TideOf.named,F_CoopOf.named,F_Below.named,F_Of.named,F_SharesV.named,F_Do.named] 8 ([]:Tabs) A_law F_law:=by kernel_rfl
theorem n_law:Ob (needL P [F_TotalK] [F_TideOf.named,F_CoopOf.named,F_Below.named,F_Of.named,F_SharesV.named,F_Do.named] 8 ([]:Tabs) A_law F_law):=by
 rw [← e_law]
 exact⟨v_law⟩
theorem l_law:(([F_TotalK]:List Fn0).all fun G=>!Nat.beq G.g 8)=true:=rfl
theorem le_law:([F_TideOf.named,F_CoopOf.named,F_Below.named,F_Of.named,F_SharesV.named,F_Do.named].all fun G=>!Nat.beq G.g 8)=true:=rfl
theorem c_law:∀F∈([F_TotalK]:List Fn0),F.Ok P:=by
 intro F h
 simp only [List.mem_cons,List.not_mem_nil,or_false]at h
 rcases h with rfl
 ·exact TotalK_ok
theorem ce_law:∀F∈[F_TideOf.named,F_CoopOf.named,F_Below.named,F_Of.named,F_SharesV.named,F_Do.named],F.Ok P:=by
 intro F h
 simp only [List.mem_cons,List.not_mem_nil,or_false]at h
 rcases h with rfl | rfl | rfl | rfl | rfl | rfl
 ·exact TideOf_ok.named
 ·exact CoopOf_ok.named
 ·exact Below_ok.named
 ·exact Of_ok.named
 ·exact SharesV_ok.named
 ·exact Do_ok.named
end Go.Proofs.Ytfebjikidfcbcaa.Sy
