import Derived.Test.YtdnphbnnhfpphaaSyP2
import Derived.Test.YtdnphbnnhfpphaaGrM
import Derived.Test.YtdnphbnnhfpphaaKtT
import Derived.Test.YtdnphbnnhfpphaaTrA
import Derived.Test.YtdnphbnnhfpphaaTrN
import Derived.Test.YtdnphbnnhfpphaaTrB
import Derived.Test.YtdnphbnnhfpphaaSyP2
import Derived.KernelRfl
import Derived.Test.YtdnphbnnhfpphaaProg
namespace Go.Proofs.Ytdnphbnnhfpphaa.Sy
open Go Go.Rv
set_option linter.unusedVariables false
def dn (L:Rows) (i q:Int) (c:Nat):Nat→Int
 | 0=>0
 | k+1=>dn L i q c k+(if cell L k 1=i∧cell L k 0=q then cell L k (2+c)else 0)
def lf (L:Rows) (i:Int) (c k:Nat):Int:=dn L i 1 c k-dn L i 2 c k-dn L i 3 c k-dn L i 4 c k-dn L i 5 c k
def stF (L:Rows) (k:Nat) (i:Nat):List SV:=[.i .i64 (lf L i 0 k),.i .i64 (lf L i 1 k),.i .i64 (dn L i 0 0 k),.i .i64 (dn L i 0 1 k),.i .i64 (dn L i 1 0 k),.i .i64 (dn L i 1 1 k),.i .i64 (dn L i 2 0 k),.i .i64 (dn L i 2 1 k),.i .i64 (dn L i 3 0 k),.i .i64 (dn L i 3 1 k),.i .i64 (dn L i 4 0 k),.i .i64 (dn L i 4 1 k),.i .i64 (dn L i 5 0 k),.i .i64 (dn L i 5 1 k)]
structure LgAt (n:Nat) (L:Rows) (k:Nat):Prop where
 kd:1≤cell L k 0∧cell L k 0≤5
 gr:0≤cell L k 1∧cell L k 1 < n
 ct:0≤cell L k 2∧cell L k 2≤1000000
 gm:0≤cell L k 3∧cell L k 3≤1000000
 fm:cell L k 0=5↔cell L k 2=0
 sh:¬ cell L k 0=1→cell L k 2≤lf L (cell L k 1) 0 k∧cell L k 3≤lf L (cell L k 1) 1 k
 cl:lf L (cell L k 1) 0 (k+1)≤lf L (cell L k 1) 1 (k+1)∧(0 < lf L (cell L k 1) 0 (k+1)∨lf L (cell L k 1) 1 (k+1)=0)
structure LgOk (n:Nat) (L:Rows):Prop where
 l:L.length≤200
 a:∀k,k < L.length→LgAt n L k
theorem dn_hit {L:Rows} {i q:Int} {c k:Nat} (h1:cell L k 1=i) (h0:cell L k 0=q):dn L i q c (k+1)=dn L i q c k+cell L k (2+c):=by
 simp only [dn,h1,h0,and_self,if_true]
theorem dn_miss {L:Rows} {i q:Int} {c k:Nat} (h:¬ (cell L k 1=i∧cell L k 0=q)):dn L i q c (k+1)=dn L i q c k:=by
 simp only [dn,if_neg h,Int.add_zero]
theorem lf_in {L:Rows} {i:Int} {c k:Nat} (h1:cell L k 1=i) (h0:cell L k 0=1):lf L i c (k+1)=lf L i c k+cell L k (2+c):=by
 unfold lf
 rw [dn_hit h1 h0,dn_miss (q:=2) (by omega),dn_miss (q:=3) (by omega),dn_miss (q:=4) (by omega),dn_miss (q:=5) (by omega)]
 omega
theorem lf_out {L:Rows} {i:Int} {c k:Nat} (h1:cell L k 1=i) (h0:2≤cell L k 0∧cell L k 0≤5):lf L i c (k+1)=lf L i c k+(0-cell L k (2+c)):=by
 have:cell L k 0=2∨cell L k 0=3∨cell L k 0=4∨cell L k 0=5:=by omega
 unfold lf
 rw [dn_miss (q:=1) (by omega)]
 rcases this with h | h | h | h
 ·rw [dn_hit (q:=2) h1 h,dn_miss (q:=3) (by omega),dn_miss (q:=4) (by omega),dn_miss (q:=5) (by omega)]; omega
 ·rw [dn_miss (q:=2) (by omega),dn_hit (q:=3) h1 h,dn_miss (q:=4) (by omega),dn_miss (q:=5) (by omega)]; omega
 ·rw [dn_miss (q:=2) (by omega),dn_miss (q:=3) (by omega),dn_hit (q:=4) h1 h,dn_miss (q:=5) (by omega)]; omega
 ·rw [dn_miss (q:=2) (by omega),dn_miss (q:=3) (by omega),dn_miss (q:=4) (by omega),dn_hit (q:=5) h1 h]; omega
theorem lf_miss {L:Rows} {i:Int} {c k:Nat} (h:¬ cell L k 1=i):lf L i c (k+1)=lf L i c k:=by
 unfold lf
 rw [dn_miss (q:=1) (by omega),dn_miss (q:=2) (by omega),dn_miss (q:=3) (by omega),dn_miss (q:=4) (by omega),dn_miss (q:=5) (by omega)]
theorem dn_bd {L:Rows} {i q:Int} {c:Nat}:∀ {k:Nat},(∀j,j < k→0≤cell L j (2+c)∧cell L j (2+c)≤1000000)→0≤dn L i q c k∧dn L i q c k≤k*1000000
 | 0,_=>⟨Int.le_refl _,by simp [dn]⟩
 | k+1,h=>by
  have ih:=dn_bd (i:=i) (q:=q) (k:=k) fun j hj=>h j (by omega)
  have h2:=h k (by omega)
  by_cases e:cell L k 1=i∧cell L k 0=q
  ·rw [dn_hit e.1 e.2]; omega
  ·rw [dn_miss e]; omega
theorem LgAt.cg {n:Nat} {L:Rows} {k:Nat} (h:LgAt n L k) (c:Nat) (hc:c < 2):0≤cell L k (2+c)∧cell L k (2+c)≤1000000:=by
 have:c=0∨c=1:=by omega
 rcases this with rfl | rfl
 ·exact h.ct
 ·exact h.gm
theorem LgOk.dn {n:Nat} {L:Rows} (h:LgOk n L) {k:Nat} (hk:k≤L.length) (i q:Int) {c:Nat} (hc:c < 2):0≤dn L i q c k∧dn L i q c k≤200000000:=by
 have h1:=dn_bd (L:=L) (i:=i) (q:=q) (c:=c) (k:=k) fun j hj=>(h.a j (by omega)).cg c hc
 have h2:=h.l
 omega
theorem LgOk.lf {n:Nat} {L:Rows} (h:LgOk n L) {k:Nat} (hk:k≤L.length) (i:Int) {c:Nat} (hc:c < 2):-800000000≤lf L i c k∧lf L i c k≤200000000:=by
 have h1:=h.dn hk i 1 hc
 have h2:=h.dn hk i 2 hc
 have h3:=h.dn hk i 3 hc
 have h4:=h.dn hk i 4 hc
 have h5:=h.dn hk i 5 hc
 unfold Sy.lf
 omega
theorem st_plain (L:Rows) (k n:Nat):PlainE n (.fn (stF L k)):=fun i _ y hy=>by
 simp only [El.at,stF,List.mem_cons,List.not_mem_nil,or_false]at hy
 rcases hy with rfl | rfl | rfl | rfl | rfl | rfl | rfl | rfl | rfl | rfl | rfl | rfl | rfl | rfl<;>trivial
theorem st_other {L:Rows} {k i g:Nat} (hg:cell L k 1=(g:Int)) (h:¬ i=g):stF L k i=stF L (k+1) i:=by
 have e:¬ cell L k 1=(i:Int):=by omega
 have d:∀q c,dn L i q c (k+1)=dn L i q c k:=fun q c=>dn_miss fun h=>e h.1
 simp only [stF,lf_miss e,d]
theorem st_1 {L:Rows} {k g:Nat} (hg:cell L k 1=(g:Int)) (h0:cell L k 0=1) (i:Nat):((El.fn (stF L k)).row g [.i .i64 (lf L (g:Nat) 0 k+cell L k 2),.i .i64 (lf L (g:Nat) 1 k+cell L k 3),.i .i64 (dn L (g:Nat) 0 0 k),.i .i64 (dn L (g:Nat) 0 1 k),.i .i64 (dn L (g:Nat) 1 0 k+cell L k 2),.i .i64 (dn L (g:Nat) 1 1 k+cell L k 3),.i .i64 (dn L (g:Nat) 2 0 k),.i .i64 (dn L (g:Nat) 2 1 k),.i .i64 (dn L (g:Nat) 3 0 k),.i .i64 (dn L (g:Nat) 3 1 k),.i .i64 (dn L (g:Nat) 4 0 k),.i .i64 (dn L (g:Nat) 4 1 k),.i .i64 (dn L (g:Nat) 5 0 k),.i .i64 (dn L (g:Nat) 5 1 k)]).at i=(El.fn (stF L (k+1))).at i:=by
 simp only [El.at]
 by_cases e:i=g
 ·subst e
  rw [if_pos rfl]
  have d:∀q c,¬ q=1→dn L i q c (k+1)=dn L i q c k:=fun q c h=>dn_miss fun h2=>h (h2.2.symm.trans h0)
  simp only [stF,lf_in hg h0,dn_hit hg h0,d 0 _ (by omega),d 2 _ (by omega),d 3 _ (by omega),d 4 _ (by omega),d 5 _ (by omega)]
 ·rw [if_neg e]
  exact st_other hg e
theorem st_2 {L:Rows} {k g:Nat} (hg:cell L k 1=(g:Int)) (h0:cell L k 0=2) (i:Nat):((El.fn (stF L k)).row g [.i .i64 (lf L (g:Nat) 0 k+(0-cell L k 2)),.i .i64 (lf L (g:Nat) 1 k+(0-cell L k 3)),.i .i64 (dn L (g:Nat) 0 0 k),.i .i64 (dn L (g:Nat) 0 1 k),.i .i64 (dn L (g:Nat) 1 0 k),.i .i64 (dn L (g:Nat) 1 1 k),.i .i64 (dn L (g:Nat) 2 0 k+cell L k 2),.i .i64 (dn L (g:Nat) 2 1 k+cell L k 3),.i .i64 (dn L (g:Nat) 3 0 k),.i .i64 (dn L (g:Nat) 3 1 k),.i .i64 (dn L (g:Nat) 4 0 k),.i .i64 (dn L (g:Nat) 4 1 k),.i .i64 (dn L (g:Nat) 5 0 k),.i .i64 (dn L (g:Nat) 5 1 k)]).at i=(El.fn (stF L (k+1))).at i:=by
 simp only [El.at]
 by_cases e:i=g
 ·subst e
  rw [if_pos rfl]
  have d:∀q c,¬ q=2→dn L i q c (k+1)=dn L i q c k:=fun q c h=>dn_miss fun h2=>h (h2.2.symm.trans h0)
  simp only [stF,lf_out (L:=L) (k:=k) hg (show 2≤cell L k 0∧cell L k 0≤5 by omega),dn_hit hg h0,d 0 _ (by omega),d 1 _ (by omega),d 3 _ (by omega),d 4 _ (by omega),d 5 _ (by omega)]
 ·rw [if_neg e]
  exact st_other hg e
theorem st_3 {L:Rows} {k g:Nat} (hg:cell L k 1=(g:Int)) (h0:cell L k 0=3) (i:Nat):((El.fn (stF L k)).row g [.i .i64 (lf L (g:Nat) 0 k+(0-cell L k 2)),.i .i64 (lf L (g:Nat) 1 k+(0-cell L k 3)),.i .i64 (dn L (g:Nat) 0 0 k),.i .i64 (dn L (g:Nat) 0 1 k),.i .i64 (dn L (g:Nat) 1 0 k),.i .i64 (dn L (g:Nat) 1 1 k),.i .i64 (dn L (g:Nat) 2 0 k),.i .i64 (dn L (g:Nat) 2 1 k),.i .i64 (dn L (g:Nat) 3 0 k+cell L k 2),.i .i64 (dn L (g:Nat) 3 1 k+cell L k 3),.i .i64 (dn L (g:Nat) 4 0 k),.i .i64 (dn L (g:Nat) 4 1 k),.i .i64 (dn L (g:Nat) 5 0 k),.i .i64 (dn L (g:Nat) 5 1 k)]).at i=(El.fn (stF L (k+1))).at i:=by
 simp only [El.at]
 by_cases e:i=g
 ·subst e
  rw [if_pos rfl]
  have d:∀q c,¬ q=3→dn L i q c (k+1)=dn L i q c k:=fun q c h=>dn_miss fun h2=>h (h2.2.symm.trans h0)
  simp only [stF,lf_out (L:=L) (k:=k) hg (show 2≤cell L k 0∧cell L k 0≤5 by omega),dn_hit hg h0,d 0 _ (by omega),d 1 _ (by omega),d 2 _ (by omega),d 4 _ (by omega),d 5 _ (by omega)]
 ·rw [if_neg e]
  exact st_other hg e
theorem st_4 {L:Rows} {k g:Nat} (hg:cell L k 1=(g:Int)) (h0:cell L k 0=4) (i:Nat):((El.fn (stF L k)).row g [.i .i64 (lf L (g:Nat) 0 k+(0-cell L k 2)),.i .i64 (lf L (g:Nat) 1 k+(0-cell L k 3)),.i .i64 (dn L (g:Nat) 0 0 k),.i .i64 (dn L (g:Nat) 0 1 k),.i .i64 (dn L (g:Nat) 1 0 k),.i .i64 (dn L (g:Nat) 1 1 k),.i .i64 (dn L (g:Nat) 2 0 k),.i .i64 (dn L (g:Nat) 2 1 k),.i .i64 (dn L (g:Nat) 3 0 k),.i .i64 (dn L (g:Nat) 3 1 k),.i .i64 (dn L (g:Nat) 4 0 k+cell L k 2),.i .i64 (dn L (g:Nat) 4 1 k+cell L k 3),.i .i64 (dn L (g:Nat) 5 0 k),.i .i64 (dn L (g:Nat) 5 1 k)]).at i=(El.fn (stF L (k+1))).at i:=by
 simp only [El.at]
 by_cases e:i=g
 ·subst e
  rw [if_pos rfl]
  have d:∀q c,¬ q=4→dn L i q c (k+1)=dn L i q c k:=fun q c h=>dn_miss fun h2=>h (h2.2.symm.trans h0)
  simp only [stF,lf_out (L:=L) (k:=k) hg (show 2≤cell L k 0∧cell L k 0≤5 by omega),dn_hit hg h0,d 0 _ (by omega),d 1 _ (by omega),d 2 _ (by omega),d 3 _ (by omega),d 5 _ (by omega)]
 ·rw [if_neg e]
  exact st_other hg e
theorem st_5 {L:Rows} {k g:Nat} (hg:cell L k 1=(g:Int)) (h0:cell L k 0=5) (i:Nat):((El.fn (stF L k)).row g [.i .i64 (lf L (g:Nat) 0 k+(0-cell L k 2)),.i .i64 (lf L (g:Nat) 1 k+(0-cell L k 3)),.i .i64 (dn L (g:Nat) 0 0 k),.i .i64 (dn L (g:Nat) 0 1 k),.i .i64 (dn L (g:Nat) 1 0 k),.i .i64 (dn L (g:Nat) 1 1 k),.i .i64 (dn L (g:Nat) 2 0 k),.i .i64 (dn L (g:Nat) 2 1 k),.i .i64 (dn L (g:Nat) 3 0 k),.i .i64 (dn L (g:Nat) 3 1 k),.i .i64 (dn L (g:Nat) 4 0 k),.i .i64 (dn L (g:Nat) 4 1 k),.i .i64 (dn L (g:Nat) 5 0 k+cell L k 2),.i .i64 (dn L (g:Nat) 5 1 k+cell L k 3)]).at i=(El.fn (stF L (k+1))).at i:=by
 simp only [El.at]
 by_cases e:i=g
 ·subst e
  rw [if_pos rfl]
  have d:∀q c,¬ q=5→dn L i q c (k+1)=dn L i q c k:=fun q c h=>dn_miss fun h2=>h (h2.2.symm.trans h0)
  simp only [stF,lf_out (L:=L) (k:=k) hg (show 2≤cell L k 0∧cell L k 0≤5 by omega),dn_hit hg h0,d 0 _ (by omega),d 1 _ (by omega),d 2 _ (by omega),d 3 _ (by omega),d 4 _ (by omega)]
 ·rw [if_neg e]
  exact st_other hg e
noncomputable def F_checkEvent:Fn0:=⟨26,[.agg [.i .i64,.i .i64,.i .i64,.i .i64],.one (.i .i64)],fun l=>match l with | [.z kd,.z gr,.z ct,.z gm,.z n]=>(1≤kd∧kd≤5)∧(0≤gr∧gr < n)∧(0≤ct∧ct≤1000000)∧(0≤gm∧gm≤1000000)∧n≤1000 | _=>False,fun l=>match l with | [.z kd,.z gr,.z ct,.z gm,.z n]=>.v (.int .i64 0) | _=>.v undef⟩
noncomputable def A_checkEvent:List SV→List Dat→Nat→List SV→Ann:=fun _ _ _ _=>noAnn
def V_checkEvent:Prop:=
 ∀(B:RW) (e d c b a:Int),((1:Int)≤e∧e≤(5:Int))∧((0:Int)≤d∧d < a)∧((0:Int)≤c∧c≤(1000000:Int))∧((0:Int)≤b∧b≤(1000000:Int))∧a≤(1000:Int)→Ob True∧(¬inB e (1:Int) (5:Int)→Ob (Value.int .i64 (3:Int)=Value.int .i64 (0:Int))∧True)∧(¬¬inB e (1:Int) (5:Int)→Ob ((0:Int)≤a∧a≤(1000:Int))∧(¬inB d (0:Int) (a-(1:Int))→Ob (Value.int .i64 (6:Int)=Value.int .i64 (0:Int))∧True)∧(¬¬inB d (0:Int) (a-(1:Int))→Ob True∧(¬¬inB c (0:Int) (1000000:Int)→Ob True∧(¬inB b (0:Int) (1000000:Int)→Ob (Value.int .i64 (1:Int)=Value.int .i64 (0:Int))∧True)∧(¬¬inB b (0:Int) (1000000:Int)→Ob (Value.int .i64 (0:Int)=Value.int .i64 (0:Int))∧True))∧(¬inB c (0:Int) (1000000:Int)→Ob (Value.int .i64 (1:Int)=Value.int .i64 (0:Int))∧True)))
set_option linter.unusedSimpArgs false in
set_option maxRecDepth 4000 in
set_option maxHeartbeats 400000 in
theorem v_checkEvent:V_checkEvent:=by
 unfold V_checkEvent
 intro B kd gr ct gm n
 simp only [Ob_iff,and_true,true_and,inB]
 intro h
 repeat' (first | apply And.intro | intro _)
 all_goals first | rfl | trivial | omega
theorem e_checkEvent:V_checkEvent=needF P [F_within,F_isIndex,F_isWare] A_checkEvent F_checkEvent:=by kernel_rfl
theorem n_checkEvent:Ob (needF P [F_within,F_isIndex,F_isWare] A_checkEvent F_checkEvent):=by
 rw [← e_checkEvent]
 exact⟨v_checkEvent⟩
theorem b_checkEvent:((P.funcs[26]?).any fun fn=>fn.body.isSome)=true:=by kernel_rfl
theorem checkEvent_ok:Fn0.Ok P F_checkEvent:=Fn0.ok named (l:=[F_within,F_isIndex,F_isWare]) (A:=A_checkEvent) (by rfl) (by
 intro F h
 simp only [List.mem_cons,List.not_mem_nil,or_false]at h
 rcases h with rfl | rfl | rfl
 ·exact within_ok
 ·exact isIndex_ok
 ·exact isWare_ok
) b_checkEvent (by
 intro ds N
 simp only [F_checkEvent]
 split<;>rfl) n_checkEvent
noncomputable def F_plus:Fn0:=⟨40,[.agg [.i .i64,.i .i64],.agg [.i .i64,.i .i64]],fun l=>match l with | [.z a,.z b,.z c,.z d]=>(-1000000000≤a∧a≤1000000000)∧(-1000000000≤b∧b≤1000000000)∧(-1000000000≤c∧c≤1000000000)∧(-1000000000≤d∧d≤1000000000) | _=>False,fun l=>match l with | [.z a,.z b,.z c,.z d]=>.agg [.i .i64 (a+c),.i .i64 (b+d)] | _=>.v undef⟩
noncomputable def A_plus:List SV→List Dat→Nat→List SV→Ann:=fun _ _ _ _=>noAnn
def V_plus:Prop:=
 ∀(B:RW) (b c a d:Int),((-1000000000:Int)≤b∧b≤(1000000000:Int))∧((-1000000000:Int)≤c∧c≤(1000000000:Int))∧((-1000000000:Int)≤a∧a≤(1000000000:Int))∧(-1000000000:Int)≤d∧d≤(1000000000:Int)→Ob (InR .i64 (b+a))∧Ob (InR .i64 (c+d))∧Ob (b+a=b+a)∧Ob (c+d=c+d)∧True
set_option linter.unusedSimpArgs false in
set_option maxRecDepth 4000 in
set_option maxHeartbeats 400000 in
theorem v_plus:V_plus:=by
 unfold V_plus
 intro B a b c d h
 simp only [Ob_iff,and_true,true_and,InR]
 repeat' (with_reducible apply And.intro)
 all_goals first | rfl | omega
theorem e_plus:V_plus=needF P [] A_plus F_plus:=by kernel_rfl
theorem n_plus:Ob (needF P [] A_plus F_plus):=by
 rw [← e_plus]
 exact⟨v_plus⟩
theorem b_plus:((P.funcs[40]?).any fun fn=>fn.body.isSome)=true:=by kernel_rfl
theorem plus_ok:Fn0.Ok P F_plus:=Fn0.ok named (l:=[]) (A:=A_plus) (by rfl) (by
 intro F h; simp at h) b_plus (by
 intro ds N
 simp only [F_plus]
 split<;>rfl) n_plus
noncomputable def F_canBe:Fn0:=⟨39,[.agg [.i .i64,.i .i64]],fun _=>True,fun l=>match l with | [.z a,.z b]=>.p (a≤b∧(0 < a∨b=0)) | _=>.v undef⟩
noncomputable def A_canBe:List SV→List Dat→Nat→List SV→Ann:=fun _ _ _ _=>noAnn
def V_canBe:Prop:=
 ∀(B:RW) (a b:Int),True→(a≤b→(¬(0:Int) < a→Ob (b=(0:Int)↔a≤b∧((0:Int) < a∨b=(0:Int)))∧True)∧((0:Int) < a→Ob (true=true↔a≤b∧((0:Int) < a∨b=(0:Int)))∧True))∧(¬a≤b→Ob (false=true↔a≤b∧((0:Int) < a∨b=(0:Int)))∧True)
set_option linter.unusedSimpArgs false in
set_option maxRecDepth 4000 in
set_option maxHeartbeats 400000 in
theorem v_canBe:V_canBe:=by
 unfold V_canBe
 intro B a b
 simp only [Ob_iff,and_true,true_and]
 repeat' (first | apply And.intro | intro _)
 all_goals first | trivial | omega | (simp only [true_iff]; omega) | (simp only [Bool.false_eq_true,false_iff]; omega)
theorem e_canBe:V_canBe=needF P [] A_canBe F_canBe:=by kernel_rfl
theorem n_canBe:Ob (needF P [] A_canBe F_canBe):=by
 rw [← e_canBe]
 exact⟨v_canBe⟩
theorem b_canBe:((P.funcs[39]?).any fun fn=>fn.body.isSome)=true:=by kernel_rfl
theorem canBe_ok:Fn0.Ok P F_canBe:=Fn0.ok named (l:=[]) (A:=A_canBe) (by rfl) (by
 intro F h; simp at h) b_canBe (by
 intro ds N
 simp only [F_canBe]
 split<;>rfl) n_canBe
noncomputable def F_doAll:FnE:=⟨16,none,[.one (.l [.u16,.i64,.i64,.i8,.i8,.i64]),.one (.l [.i64,.i64,.i64,.i64])],fun l=>match l with | [.l R,.l L]=>MkOk R∧LgOk R.length L | _=>False,fun l=>match l with | [.l R,.l L]=>[.gsl 0 R.length 14 false,.v (.int .i64 0)] | _=>[],fun l=>match l with | [.l R,.l L]=>[.gr R.length 14 (.fn (stF L L.length)) .gr false] | _=>[],fun l=>match l with | [.l R,.l L]=>[] | _=>[],false,none,none⟩
noncomputable def A_doAll:List SV→List Dat→Nat→List SV→Ann:=fun xs ds n ts=>match xs with
 | [.lst x _ _ _,.lst y _ _ _]=>match ds with
  | [.l R,.l L]=>match n with
   | 13=>⟨Nat,fun _=>[],fun a=>[.gr 1 0 (.fn fun _=>[]) .ex false,.gr 0 a (.fn fun _=>[]) .ex true],fun _=>True,fun _=>6,1000002⟩
   | 8=>⟨Nat,fun k=>([some (SV.lst x R.length ((6:Nat)) (Rv.elemOf [IntKind.u16,IntKind.i64,IntKind.i64,IntKind.i8,IntKind.i8,IntKind.i64] R)),none,none,none,none,none,none,some (SV.gsl ((0:Nat)) R.length ((14:Nat)) false)]++nN 15++[some (SV.lst y L.length ((4:Nat)) (Rv.elemOf [IntKind.i64,IntKind.i64,IntKind.i64,IntKind.i64] L)),some (SV.i IntKind.i64 (↑L.length:Int)),some (.i .i64 k)]++nN 21),fun k=>[.gr R.length 14 (.fn (stF L k)) .gr false],fun k=>k≤L.length,fun k=>L.length-k,0⟩
   | _=>noAnn
  | _=>noAnn
 | _=>noAnn
noncomputable def A_doAll_1:List SV→List Dat→List SV→List SObj→Nat→List SV→Ann:=fun _ _ _ _ _ _=>noAnn
noncomputable def A_doAll_2:List SV→List Dat→List SV→List SObj→Nat→List SV→Ann:=fun _ _ _ _ _ _=>noAnn
noncomputable def A_doAll_3:List SV→List Dat→List SV→List SObj→Nat→List SV→Ann:=fun _ _ _ _ _ _=>noAnn
noncomputable def I_doAll:List SV→List Dat→List In:=fun xs ds=>[⟨27,A_doAll_1 xs ds⟩,⟨37,A_doAll_2 xs ds⟩,⟨38,A_doAll_3 xs ds⟩]
set_option maxRecDepth 10000 in
def V_doAll:Prop:=
 ∀(B:RW) (g:RV) (d:List (List Int)),IsLst B g d.length 6 (Rv.elemOf [IntKind.u16,.i64,.i64,IntKind.i8,IntKind.i8,.i64] d)→oneB g=true→(∀row∈d,row.length=6)→(∀(h:List Int),h∈d→canR [IntKind.u16,.i64,.i64,IntKind.i8,IntKind.i8,.i64] h)→∀(f:RV) (a:List (List Int)),IsLst B f a.length 4 (Rv.elemOf I4 a)→oneB f=true→(∀row∈a,row.length=4)→F_doAll.pre ([Dat.l d]++([Dat.l a]++[]))→∃(i:List (List Int)),Ob (IsLst B g d.length 6 (Rv.elemOf [IntKind.u16,.i64,.i64,IntKind.i8,IntKind.i8,.i64] d)∧i.length=d.length∧(∀h∈i,h.length=6)∧∀(j:Nat),j < d.length→Rv.elemOf [IntKind.u16,.i64,.i64,IntKind.i8,IntKind.i8,.i64] d j=Rv.elemOf [IntKind.u16,.i64,.i64,IntKind.i8,IntKind.i8,.i64] i j)∧Ob (∀(h:List Int),h∈i→canR [IntKind.u16,.i64,.i64,IntKind.i8,IntKind.i8,.i64] h)∧Ob (F_Check.pre [Dat.l i])∧LsA B f I4 a∧((200:Int) < (↑a.length:Int)→False)∧(¬(200:Int) < (↑a.length:Int)→Ob (IsLst B g d.length 6 (Rv.elemOf [IntKind.u16,.i64,.i64,IntKind.i8,IntKind.i8,.i64] d))∧Ob ((↑d.length:Int)=(↑d.length:Int)∧(0:Int)≤(↑d.length:Int)∧d.length*(113:Nat)≤1099511627776)∧LsA B f I4 a∧(∃(b:Nat),Ob (b≤a.length)∧Ob (SV.lst g d.length 6 (Rv.elemOf [IntKind.u16,.i64,.i64,IntKind.i8,IntKind.i8,.i64] d)=SV.lst g d.length 6 (Rv.elemOf [IntKind.u16,.i64,.i64,IntKind.i8,IntKind.i8,.i64] d))∧Ob (d.length=d.length)∧Ob (SV.lst f a.length 4 (Rv.elemOf I4 a)=SV.lst f a.length 4 (Rv.elemOf I4 a))∧Ob ((↑a.length:Int)=(↑a.length:Int))∧Ob ((0:Int)=(↑b:Int))∧EqA d.length d.length (El.fn fun(g:Nat)↦symL (List.map SV.v (Value.agg #[Value.int .i64 (0:Int),Value.int .i64 (0:Int),Value.int .i64 (0:Int),Value.int .i64 (0:Int),Value.int .i64 (0:Int),Value.int .i64 (0:Int),Value.int .i64 (0:Int),Value.int .i64 (0:Int),Value.int .i64 (0:Int),Value.int .i64 (0:Int),Value.int .i64 (0:Int),Value.int .i64 (0:Int),Value.int .i64 (0:Int),Value.int .i64 (0:Int)]).cells.toList)) (El.fn (stF a b))∧Ob (IsLst B g d.length 6 (Rv.elemOf [IntKind.u16,.i64,.i64,IntKind.i8,IntKind.i8,.i64] d))∧LsA B f I4 a∧Ob (PlainE d.length (El.fn (stF a b)))∧True)∧∀(b:Nat),b≤a.length→∀(_ _ _ _ _ _ _ _ _ _ _ _ _ _ _ _ _ _ _ _ _ _ _ _ _ _ _ _ _ _ _ _ _ _ _ _ _ _ _ _ _ _:Value),((↑b:Int) < (↑a.length:Int)→Ob ((0:Int)≤(↑b:Int)∧b < a.length∧IsLst B f a.length 4 (Rv.elemOf I4 a))∧Ob (IsLst B f a.length 4 (Rv.elemOf I4 a)∧b < a.length)∧Ob (IsLst B g d.length 6 (Rv.elemOf [IntKind.u16,.i64,.i64,IntKind.i8,IntKind.i8,.i64] d))∧Ob (((1:Int)≤cell a b 0∧cell a b 0≤(5:Int))∧((0:Int)≤cell a b 1∧cell a b 1 < (↑d.length:Int))∧((0:Int)≤cell a b 2∧cell a b 2≤(1000000:Int))∧((0:Int)≤cell a b 3∧cell a b 3≤(1000000:Int))∧(↑d.length:Int)≤(1000:Int))∧∃(c:Nat),Ob ((0:Int)≤cell a b 0∧(cell a b 0).toNat < 6)∧(((((True∧(cell a b 0=(↑0:Int)→Ob ((0:Int)≤cell a b 1∧(cell a b 1).toNat < d.length)∧Ob ((cell a b 1).toNat < d.length)∧Ob ((cell a b 1).toNat=c)∧(¬lf a (↑c:Int) 0 b < cell a b 2→Ob ((cell a b 1).toNat < d.length)∧Ob ((cell a b 1).toNat=c)∧(lf a (↑c:Int) 1 b < cell a b 3→False)∧(¬lf a (↑c:Int) 1 b < cell a b 3→Ob ((cell a b 1).toNat < d.length)∧Ob ((cell a b 1).toNat=c)∧Ob (InR .i64 ((0:Int)-cell a b 2))∧Ob (InR .i64 ((0:Int)-cell a b 3))∧Ob (((-1000000000:Int)≤lf a (↑c:Int) 0 b∧lf a (↑c:Int) 0 b≤(1000000000:Int))∧((-1000000000:Int)≤lf a (↑c:Int) 1 b∧lf a (↑c:Int) 1 b≤(1000000000:Int))∧((-1000000000:Int)≤(0:Int)-cell a b 2∧(0:Int)-cell a b 2≤(1000000000:Int))∧(-1000000000:Int)≤(0:Int)-cell a b 3∧(0:Int)-cell a b 3≤(1000000000:Int))∧Ob ((cell a b 1).toNat < d.length∧(((El.fn (stF a b)).row c [SV.i .i64 (lf a (↑c:Int) 0 b),SV.i .i64 (lf a (↑c:Int) 1 b),SV.i .i64 (dn a (↑c:Int) (0:Int) 0 b),SV.i .i64 (dn a (↑c:Int) (0:Int) 1 b),SV.i .i64 (dn a (↑c:Int) (1:Int) 0 b),SV.i .i64 (dn a (↑c:Int) (1:Int) 1 b),SV.i .i64 (dn a (↑c:Int) (2:Int) 0 b),SV.i .i64 (dn a (↑c:Int) (2:Int) 1 b),SV.i .i64 (dn a (↑c:Int) (3:Int) 0 b),SV.i .i64 (dn a (↑c:Int) (3:Int) 1 b),SV.i .i64 (dn a (↑c:Int) (4:Int) 0 b),SV.i .i64 (dn a (↑c:Int) (4:Int) 1 b),SV.i .i64 (dn a (↑c:Int) (5:Int) 0 b),SV.i .i64 (dn a (↑c:Int) (5:Int) 1 b)]).at (cell a b 1).toNat).length=(14:Nat))∧Ob ((cell a b 1).toNat=c)∧Ob ((cell a b 1).toNat < d.length)∧Ob ((cell a b 1).toNat=c)∧Ob True∧(¬(lf a (↑c:Int) 0 b+((0:Int)-cell a b 2)≤lf a (↑c:Int) 1 b+((0:Int)-cell a b 3)∧((0:Int) < lf a (↑c:Int) 0 b+((0:Int)-cell a b 2)∨lf a (↑c:Int) 1 b+((0:Int)-cell a b 3)=(0:Int)))→False)∧(¬¬(lf a (↑c:Int) 0 b+((0:Int)-cell a b 2)≤lf a (↑c:Int) 1 b+((0:Int)-cell a b 3)∧((0:Int) < lf a (↑c:Int) 0 b+((0:Int)-cell a b 2)∨lf a (↑c:Int) 1 b+((0:Int)-cell a b 3)=(0:Int)))→Ob ((cell a b 1).toNat < d.length)∧Ob ((cell a b 1).toNat=c)∧Ob (((-1000000000:Int)≤dn a (↑c:Int) (0:Int) 0 b∧dn a (↑c:Int) (0:Int) 0 b≤(1000000000:Int))∧((-1000000000:Int)≤dn a (↑c:Int) (0:Int) 1 b∧dn a (↑c:Int) (0:Int) 1 b≤(1000000000:Int))∧((-1000000000:Int)≤cell a b 2∧cell a b 2≤(1000000000:Int))∧(-1000000000:Int)≤cell a b 3∧cell a b 3≤(1000000000:Int))∧Ob ((cell a b 1).toNat < d.length∧(((El.fn (stF a b)).row c [SV.i .i64 (lf a (↑c:Int) 0 b+((0:Int)-cell a b 2)),SV.i .i64 (lf a (↑c:Int) 1 b+((0:Int)-cell a b 3)),SV.i .i64 (dn a (↑c:Int) (0:Int) 0 b),SV.i .i64 (dn a (↑c:Int) (0:Int) 1 b),SV.i .i64 (dn a (↑c:Int) (1:Int) 0 b),SV.i .i64 (dn a (↑c:Int) (1:Int) 1 b),SV.i .i64 (dn a (↑c:Int) (2:Int) 0 b),SV.i .i64 (dn a (↑c:Int) (2:Int) 1 b),SV.i .i64 (dn a (↑c:Int) (3:Int) 0 b),SV.i .i64 (dn a (↑c:Int) (3:Int) 1 b),SV.i .i64 (dn a (↑c:Int) (4:Int) 0 b),SV.i .i64 (dn a (↑c:Int) (4:Int) 1 b),SV.i .i64 (dn a (↑c:Int) (5:Int) 0 b),SV.i .i64 (dn a (↑c:Int) (5:Int) 1 b)]).at (cell a b 1).toNat).length=(14:Nat))∧Ob ((cell a b 1).toNat=c)∧Ob (InR .i64 ((↑b:Int)+(1:Int)))∧∃(e:Nat),Ob (e≤a.length∧a.length-e < a.length-b)∧Ob (SV.lst g d.length 6 (Rv.elemOf [IntKind.u16,.i64,.i64,IntKind.i8,IntKind.i8,.i64] d)=SV.lst g d.length 6 (Rv.elemOf [IntKind.u16,.i64,.i64,IntKind.i8,IntKind.i8,.i64] d))∧Ob (d.length=d.length)∧Ob (SV.lst f a.length 4 (Rv.elemOf I4 a)=SV.lst f a.length 4 (Rv.elemOf I4 a))∧Ob ((↑a.length:Int)=(↑a.length:Int))∧Ob ((↑b:Int)+(1:Int)=(↑e:Int))∧EqA d.length d.length ((El.fn (stF a b)).row c [SV.i .i64 (lf a (↑c:Int) 0 b+((0:Int)-cell a b 2)),SV.i .i64 (lf a (↑c:Int) 1 b+((0:Int)-cell a b 3)),SV.i .i64 (dn a (↑c:Int) (0:Int) 0 b+cell a b 2),SV.i .i64 (dn a (↑c:Int) (0:Int) 1 b+cell a b 3),SV.i .i64 (dn a (↑c:Int) (1:Int) 0 b),SV.i .i64 (dn a (↑c:Int) (1:Int) 1 b),SV.i .i64 (dn a (↑c:Int) (2:Int) 0 b),SV.i .i64 (dn a (↑c:Int) (2:Int) 1 b),SV.i .i64 (dn a (↑c:Int) (3:Int) 0 b),SV.i .i64 (dn a (↑c:Int) (3:Int) 1 b),SV.i .i64 (dn a (↑c:Int) (4:Int) 0 b),SV.i .i64 (dn a (↑c:Int) (4:Int) 1 b),SV.i .i64 (dn a (↑c:Int) (5:Int) 0 b),SV.i .i64 (dn a (↑c:Int) (5:Int) 1 b)]) (El.fn (stF a e))∧Ob (IsLst B g d.length 6 (Rv.elemOf [IntKind.u16,.i64,.i64,IntKind.i8,IntKind.i8,.i64] d))∧LsA B f I4 a∧Ob (PlainE d.length (El.fn (stF a e)))∧True)))∧(lf a (↑c:Int) 0 b < cell a b 2→False)))∧(cell a b 0=(↑1:Int)→Ob ((0:Int)≤cell a b 1∧(cell a b 1).toNat < d.length)∧(cell a b 2=(0:Int)→False)∧(¬cell a b 2=(0:Int)→Ob ((cell a b 1).toNat < d.length)∧Ob ((cell a b 1).toNat=c)∧Ob (((-1000000000:Int)≤lf a (↑c:Int) 0 b∧lf a (↑c:Int) 0 b≤(1000000000:Int))∧((-1000000000:Int)≤lf a (↑c:Int) 1 b∧lf a (↑c:Int) 1 b≤(1000000000:Int))∧((-1000000000:Int)≤cell a b 2∧cell a b 2≤(1000000000:Int))∧(-1000000000:Int)≤cell a b 3∧cell a b 3≤(1000000000:Int))∧Ob ((cell a b 1).toNat < d.length∧(((El.fn (stF a b)).row c [SV.i .i64 (lf a (↑c:Int) 0 b),SV.i .i64 (lf a (↑c:Int) 1 b),SV.i .i64 (dn a (↑c:Int) (0:Int) 0 b),SV.i .i64 (dn a (↑c:Int) (0:Int) 1 b),SV.i .i64 (dn a (↑c:Int) (1:Int) 0 b),SV.i .i64 (dn a (↑c:Int) (1:Int) 1 b),SV.i .i64 (dn a (↑c:Int) (2:Int) 0 b),SV.i .i64 (dn a (↑c:Int) (2:Int) 1 b),SV.i .i64 (dn a (↑c:Int) (3:Int) 0 b),SV.i .i64 (dn a (↑c:Int) (3:Int) 1 b),SV.i .i64 (dn a (↑c:Int) (4:Int) 0 b),SV.i .i64 (dn a (↑c:Int) (4:Int) 1 b),SV.i .i64 (dn a (↑c:Int) (5:Int) 0 b),SV.i .i64 (dn a (↑c:Int) (5:Int) 1 b)]).at (cell a b 1).toNat).length=(14:Nat))∧Ob ((cell a b 1).toNat=c)∧Ob ((cell a b 1).toNat < d.length)∧Ob ((cell a b 1).toNat=c)∧Ob True∧(¬(lf a (↑c:Int) 0 b+cell a b 2≤lf a (↑c:Int) 1 b+cell a b 3∧((0:Int) < lf a (↑c:Int) 0 b+cell a b 2∨lf a (↑c:Int) 1 b+cell a b 3=(0:Int)))→False)∧(¬¬(lf a (↑c:Int) 0 b+cell a b 2≤lf a (↑c:Int) 1 b+cell a b 3∧((0:Int) < lf a (↑c:Int) 0 b+cell a b 2∨lf a (↑c:Int) 1 b+cell a b 3=(0:Int)))→Ob ((cell a b 1).toNat < d.length)∧Ob ((cell a b 1).toNat=c)∧Ob (((-1000000000:Int)≤dn a (↑c:Int) (1:Int) 0 b∧dn a (↑c:Int) (1:Int) 0 b≤(1000000000:Int))∧((-1000000000:Int)≤dn a (↑c:Int) (1:Int) 1 b∧dn a (↑c:Int) (1:Int) 1 b≤(1000000000:Int))∧((-1000000000:Int)≤cell a b 2∧cell a b 2≤(1000000000:Int))∧(-1000000000:Int)≤cell a b 3∧cell a b 3≤(1000000000:Int))∧Ob ((cell a b 1).toNat < d.length∧(((El.fn (stF a b)).row c [SV.i .i64 (lf a (↑c:Int) 0 b+cell a b 2),SV.i .i64 (lf a (↑c:Int) 1 b+cell a b 3),SV.i .i64 (dn a (↑c:Int) (0:Int) 0 b),SV.i .i64 (dn a (↑c:Int) (0:Int) 1 b),SV.i .i64 (dn a (↑c:Int) (1:Int) 0 b),SV.i .i64 (dn a (↑c:Int) (1:Int) 1 b),SV.i .i64 (dn a (↑c:Int) (2:Int) 0 b),SV.i .i64 (dn a (↑c:Int) (2:Int) 1 b),SV.i .i64 (dn a (↑c:Int) (3:Int) 0 b),SV.i .i64 (dn a (↑c:Int) (3:Int) 1 b),SV.i .i64 (dn a (↑c:Int) (4:Int) 0 b),SV.i .i64 (dn a (↑c:Int) (4:Int) 1 b),SV.i .i64 (dn a (↑c:Int) (5:Int) 0 b),SV.i .i64 (dn a (↑c:Int) (5:Int) 1 b)]).at (cell a b 1).toNat).length=(14:Nat))∧Ob ((cell a b 1).toNat=c)∧Ob (InR .i64 ((↑b:Int)+(1:Int)))∧∃(e:Nat),Ob (e≤a.length∧a.length-e < a.length-b)∧Ob (SV.lst g d.length 6 (Rv.elemOf [IntKind.u16,.i64,.i64,IntKind.i8,IntKind.i8,.i64] d)=SV.lst g d.length 6 (Rv.elemOf [IntKind.u16,.i64,.i64,IntKind.i8,IntKind.i8,.i64] d))∧Ob (d.length=d.length)∧Ob (SV.lst f a.length 4 (Rv.elemOf I4 a)=SV.lst f a.length 4 (Rv.elemOf I4 a))∧Ob ((↑a.length:Int)=(↑a.length:Int))∧Ob ((↑b:Int)+(1:Int)=(↑e:Int))∧EqA d.length d.length ((El.fn (stF a b)).row c [SV.i .i64 (lf a (↑c:Int) 0 b+cell a b 2),SV.i .i64 (lf a (↑c:Int) 1 b+cell a b 3),SV.i .i64 (dn a (↑c:Int) (0:Int) 0 b),SV.i .i64 (dn a (↑c:Int) (0:Int) 1 b),SV.i .i64 (dn a (↑c:Int) (1:Int) 0 b+cell a b 2),SV.i .i64 (dn a (↑c:Int) (1:Int) 1 b+cell a b 3),SV.i .i64 (dn a (↑c:Int) (2:Int) 0 b),SV.i .i64 (dn a (↑c:Int) (2:Int) 1 b),SV.i .i64 (dn a (↑c:Int) (3:Int) 0 b),SV.i .i64 (dn a (↑c:Int) (3:Int) 1 b),SV.i .i64 (dn a (↑c:Int) (4:Int) 0 b),SV.i .i64 (dn a (↑c:Int) (4:Int) 1 b),SV.i .i64 (dn a (↑c:Int) (5:Int) 0 b),SV.i .i64 (dn a (↑c:Int) (5:Int) 1 b)]) (El.fn (stF a e))∧Ob (IsLst B g d.length 6 (Rv.elemOf [IntKind.u16,.i64,.i64,IntKind.i8,IntKind.i8,.i64] d))∧LsA B f I4 a∧Ob (PlainE d.length (El.fn (stF a e)))∧True))))∧(cell a b 0=(↑2:Int)→Ob ((0:Int)≤cell a b 1∧(cell a b 1).toNat < d.length)∧(cell a b 2=(0:Int)→False)∧(¬cell a b 2=(0:Int)→Ob ((cell a b 1).toNat < d.length)∧Ob ((cell a b 1).toNat=c)∧(¬lf a (↑c:Int) 0 b < cell a b 2→Ob ((cell a b 1).toNat < d.length)∧Ob ((cell a b 1).toNat=c)∧(lf a (↑c:Int) 1 b < cell a b 3→False)∧(¬lf a (↑c:Int) 1 b < cell a b 3→Ob ((cell a b 1).toNat < d.length)∧Ob ((cell a b 1).toNat=c)∧Ob (InR .i64 ((0:Int)-cell a b 2))∧Ob (InR .i64 ((0:Int)-cell a b 3))∧Ob (((-1000000000:Int)≤lf a (↑c:Int) 0 b∧lf a (↑c:Int) 0 b≤(1000000000:Int))∧((-1000000000:Int)≤lf a (↑c:Int) 1 b∧lf a (↑c:Int) 1 b≤(1000000000:Int))∧((-1000000000:Int)≤(0:Int)-cell a b 2∧(0:Int)-cell a b 2≤(1000000000:Int))∧(-1000000000:Int)≤(0:Int)-cell a b 3∧(0:Int)-cell a b 3≤(1000000000:Int))∧Ob ((cell a b 1).toNat < d.length∧(((El.fn (stF a b)).row c [SV.i .i64 (lf a (↑c:Int) 0 b),SV.i .i64 (lf a (↑c:Int) 1 b),SV.i .i64 (dn a (↑c:Int) (0:Int) 0 b),SV.i .i64 (dn a (↑c:Int) (0:Int) 1 b),SV.i .i64 (dn a (↑c:Int) (1:Int) 0 b),SV.i .i64 (dn a (↑c:Int) (1:Int) 1 b),SV.i .i64 (dn a (↑c:Int) (2:Int) 0 b),SV.i .i64 (dn a (↑c:Int) (2:Int) 1 b),SV.i .i64 (dn a (↑c:Int) (3:Int) 0 b),SV.i .i64 (dn a (↑c:Int) (3:Int) 1 b),SV.i .i64 (dn a (↑c:Int) (4:Int) 0 b),SV.i .i64 (dn a (↑c:Int) (4:Int) 1 b),SV.i .i64 (dn a (↑c:Int) (5:Int) 0 b),SV.i .i64 (dn a (↑c:Int) (5:Int) 1 b)]).at (cell a b 1).toNat).length=(14:Nat))∧Ob ((cell a b 1).toNat=c)∧Ob ((cell a b 1).toNat < d.length)∧Ob ((cell a b 1).toNat=c)∧Ob True∧(¬(lf a (↑c:Int) 0 b+((0:Int)-cell a b 2)≤lf a (↑c:Int) 1 b+((0:Int)-cell a b 3)∧((0:Int) < lf a (↑c:Int) 0 b+((0:Int)-cell a b 2)∨lf a (↑c:Int) 1 b+((0:Int)-cell a b 3)=(0:Int)))→False)∧(¬¬(lf a (↑c:Int) 0 b+((0:Int)-cell a b 2)≤lf a (↑c:Int) 1 b+((0:Int)-cell a b 3)∧((0:Int) < lf a (↑c:Int) 0 b+((0:Int)-cell a b 2)∨lf a (↑c:Int) 1 b+((0:Int)-cell a b 3)=(0:Int)))→Ob ((cell a b 1).toNat < d.length)∧Ob ((cell a b 1).toNat=c)∧Ob (((-1000000000:Int)≤dn a (↑c:Int) (2:Int) 0 b∧dn a (↑c:Int) (2:Int) 0 b≤(1000000000:Int))∧((-1000000000:Int)≤dn a (↑c:Int) (2:Int) 1 b∧dn a (↑c:Int) (2:Int) 1 b≤(1000000000:Int))∧((-1000000000:Int)≤cell a b 2∧cell a b 2≤(1000000000:Int))∧(-1000000000:Int)≤cell a b 3∧cell a b 3≤(1000000000:Int))∧Ob ((cell a b 1).toNat < d.length∧(((El.fn (stF a b)).row c [SV.i .i64 (lf a (↑c:Int) 0 b+((0:Int)-cell a b 2)),SV.i .i64 (lf a (↑c:Int) 1 b+((0:Int)-cell a b 3)),SV.i .i64 (dn a (↑c:Int) (0:Int) 0 b),SV.i .i64 (dn a (↑c:Int) (0:Int) 1 b),SV.i .i64 (dn a (↑c:Int) (1:Int) 0 b),SV.i .i64 (dn a (↑c:Int) (1:Int) 1 b),SV.i .i64 (dn a (↑c:Int) (2:Int) 0 b),SV.i .i64 (dn a (↑c:Int) (2:Int) 1 b),SV.i .i64 (dn a (↑c:Int) (3:Int) 0 b),SV.i .i64 (dn a (↑c:Int) (3:Int) 1 b),SV.i .i64 (dn a (↑c:Int) (4:Int) 0 b),SV.i .i64 (dn a (↑c:Int) (4:Int) 1 b),SV.i .i64 (dn a (↑c:Int) (5:Int) 0 b),SV.i .i64 (dn a (↑c:Int) (5:Int) 1 b)]).at (cell a b 1).toNat).length=(14:Nat))∧Ob ((cell a b 1).toNat=c)∧Ob (InR .i64 ((↑b:Int)+(1:Int)))∧∃(e:Nat),Ob (e≤a.length∧a.length-e < a.length-b)∧Ob (SV.lst g d.length 6 (Rv.elemOf [IntKind.u16,.i64,.i64,IntKind.i8,IntKind.i8,.i64] d)=SV.lst g d.length 6 (Rv.elemOf [IntKind.u16,.i64,.i64,IntKind.i8,IntKind.i8,.i64] d))∧Ob (d.length=d.length)∧Ob (SV.lst f a.length 4 (Rv.elemOf I4 a)=SV.lst f a.length 4 (Rv.elemOf I4 a))∧Ob ((↑a.length:Int)=(↑a.length:Int))∧Ob ((↑b:Int)+(1:Int)=(↑e:Int))∧EqA d.length d.length ((El.fn (stF a b)).row c [SV.i .i64 (lf a (↑c:Int) 0 b+((0:Int)-cell a b 2)),SV.i .i64 (lf a (↑c:Int) 1 b+((0:Int)-cell a b 3)),SV.i .i64 (dn a (↑c:Int) (0:Int) 0 b),SV.i .i64 (dn a (↑c:Int) (0:Int) 1 b),SV.i .i64 (dn a (↑c:Int) (1:Int) 0 b),SV.i .i64 (dn a (↑c:Int) (1:Int) 1 b),SV.i .i64 (dn a (↑c:Int) (2:Int) 0 b+cell a b 2),SV.i .i64 (dn a (↑c:Int) (2:Int) 1 b+cell a b 3),SV.i .i64 (dn a (↑c:Int) (3:Int) 0 b),SV.i .i64 (dn a (↑c:Int) (3:Int) 1 b),SV.i .i64 (dn a (↑c:Int) (4:Int) 0 b),SV.i .i64 (dn a (↑c:Int) (4:Int) 1 b),SV.i .i64 (dn a (↑c:Int) (5:Int) 0 b),SV.i .i64 (dn a (↑c:Int) (5:Int) 1 b)]) (El.fn (stF a e))∧Ob (IsLst B g d.length 6 (Rv.elemOf [IntKind.u16,.i64,.i64,IntKind.i8,IntKind.i8,.i64] d))∧LsA B f I4 a∧Ob (PlainE d.length (El.fn (stF a e)))∧True)))∧(lf a (↑c:Int) 0 b < cell a b 2→False))))∧(cell a b 0=(↑3:Int)→Ob ((0:Int)≤cell a b 1∧(cell a b 1).toNat < d.length)∧(cell a b 2=(0:Int)→False)∧(¬cell a b 2=(0:Int)→Ob ((cell a b 1).toNat < d.length)∧Ob ((cell a b 1).toNat=c)∧(¬lf a (↑c:Int) 0 b < cell a b 2→Ob ((cell a b 1).toNat < d.length)∧Ob ((cell a b 1).toNat=c)∧(lf a (↑c:Int) 1 b < cell a b 3→False)∧(¬lf a (↑c:Int) 1 b < cell a b 3→Ob ((cell a b 1).toNat < d.length)∧Ob ((cell a b 1).toNat=c)∧Ob (InR .i64 ((0:Int)-cell a b 2))∧Ob (InR .i64 ((0:Int)-cell a b 3))∧Ob (((-1000000000:Int)≤lf a (↑c:Int) 0 b∧lf a (↑c:Int) 0 b≤(1000000000:Int))∧((-1000000000:Int)≤lf a (↑c:Int) 1 b∧lf a (↑c:Int) 1 b≤(1000000000:Int))∧((-1000000000:Int)≤(0:Int)-cell a b 2∧(0:Int)-cell a b 2≤(1000000000:Int))∧(-1000000000:Int)≤(0:Int)-cell a b 3∧(0:Int)-cell a b 3≤(1000000000:Int))∧Ob ((cell a b 1).toNat < d.length∧(((El.fn (stF a b)).row c [SV.i .i64 (lf a (↑c:Int) 0 b),SV.i .i64 (lf a (↑c:Int) 1 b),SV.i .i64 (dn a (↑c:Int) (0:Int) 0 b),SV.i .i64 (dn a (↑c:Int) (0:Int) 1 b),SV.i .i64 (dn a (↑c:Int) (1:Int) 0 b),SV.i .i64 (dn a (↑c:Int) (1:Int) 1 b),SV.i .i64 (dn a (↑c:Int) (2:Int) 0 b),SV.i .i64 (dn a (↑c:Int) (2:Int) 1 b),SV.i .i64 (dn a (↑c:Int) (3:Int) 0 b),SV.i .i64 (dn a (↑c:Int) (3:Int) 1 b),SV.i .i64 (dn a (↑c:Int) (4:Int) 0 b),SV.i .i64 (dn a (↑c:Int) (4:Int) 1 b),SV.i .i64 (dn a (↑c:Int) (5:Int) 0 b),SV.i .i64 (dn a (↑c:Int) (5:Int) 1 b)]).at (cell a b 1).toNat).length=(14:Nat))∧Ob ((cell a b 1).toNat=c)∧Ob ((cell a b 1).toNat < d.length)∧Ob ((cell a b 1).toNat=c)∧Ob True∧(¬(lf a (↑c:Int) 0 b+((0:Int)-cell a b 2)≤lf a (↑c:Int) 1 b+((0:Int)-cell a b 3)∧((0:Int) < lf a (↑c:Int) 0 b+((0:Int)-cell a b 2)∨lf a (↑c:Int) 1 b+((0:Int)-cell a b 3)=(0:Int)))→False)∧(¬¬(lf a (↑c:Int) 0 b+((0:Int)-cell a b 2)≤lf a (↑c:Int) 1 b+((0:Int)-cell a b 3)∧((0:Int) < lf a (↑c:Int) 0 b+((0:Int)-cell a b 2)∨lf a (↑c:Int) 1 b+((0:Int)-cell a b 3)=(0:Int)))→Ob ((cell a b 1).toNat < d.length)∧Ob ((cell a b 1).toNat=c)∧Ob (((-1000000000:Int)≤dn a (↑c:Int) (3:Int) 0 b∧dn a (↑c:Int) (3:Int) 0 b≤(1000000000:Int))∧((-1000000000:Int)≤dn a (↑c:Int) (3:Int) 1 b∧dn a (↑c:Int) (3:Int) 1 b≤(1000000000:Int))∧((-1000000000:Int)≤cell a b 2∧cell a b 2≤(1000000000:Int))∧(-1000000000:Int)≤cell a b 3∧cell a b 3≤(1000000000:Int))∧Ob ((cell a b 1).toNat < d.length∧(((El.fn (stF a b)).row c [SV.i .i64 (lf a (↑c:Int) 0 b+((0:Int)-cell a b 2)),SV.i .i64 (lf a (↑c:Int) 1 b+((0:Int)-cell a b 3)),SV.i .i64 (dn a (↑c:Int) (0:Int) 0 b),SV.i .i64 (dn a (↑c:Int) (0:Int) 1 b),SV.i .i64 (dn a (↑c:Int) (1:Int) 0 b),SV.i .i64 (dn a (↑c:Int) (1:Int) 1 b),SV.i .i64 (dn a (↑c:Int) (2:Int) 0 b),SV.i .i64 (dn a (↑c:Int) (2:Int) 1 b),SV.i .i64 (dn a (↑c:Int) (3:Int) 0 b),SV.i .i64 (dn a (↑c:Int) (3:Int) 1 b),SV.i .i64 (dn a (↑c:Int) (4:Int) 0 b),SV.i .i64 (dn a (↑c:Int) (4:Int) 1 b),SV.i .i64 (dn a (↑c:Int) (5:Int) 0 b),SV.i .i64 (dn a (↑c:Int) (5:Int) 1 b)]).at (cell a b 1).toNat).length=(14:Nat))∧Ob ((cell a b 1).toNat=c)∧Ob (InR .i64 ((↑b:Int)+(1:Int)))∧∃(e:Nat),Ob (e≤a.length∧a.length-e < a.length-b)∧Ob (SV.lst g d.length 6 (Rv.elemOf [IntKind.u16,.i64,.i64,IntKind.i8,IntKind.i8,.i64] d)=SV.lst g d.length 6 (Rv.elemOf [IntKind.u16,.i64,.i64,IntKind.i8,IntKind.i8,.i64] d))∧Ob (d.length=d.length)∧Ob (SV.lst f a.length 4 (Rv.elemOf I4 a)=SV.lst f a.length 4 (Rv.elemOf I4 a))∧Ob ((↑a.length:Int)=(↑a.length:Int))∧Ob ((↑b:Int)+(1:Int)=(↑e:Int))∧EqA d.length d.length ((El.fn (stF a b)).row c [SV.i .i64 (lf a (↑c:Int) 0 b+((0:Int)-cell a b 2)),SV.i .i64 (lf a (↑c:Int) 1 b+((0:Int)-cell a b 3)),SV.i .i64 (dn a (↑c:Int) (0:Int) 0 b),SV.i .i64 (dn a (↑c:Int) (0:Int) 1 b),SV.i .i64 (dn a (↑c:Int) (1:Int) 0 b),SV.i .i64 (dn a (↑c:Int) (1:Int) 1 b),SV.i .i64 (dn a (↑c:Int) (2:Int) 0 b),SV.i .i64 (dn a (↑c:Int) (2:Int) 1 b),SV.i .i64 (dn a (↑c:Int) (3:Int) 0 b+cell a b 2),SV.i .i64 (dn a (↑c:Int) (3:Int) 1 b+cell a b 3),SV.i .i64 (dn a (↑c:Int) (4:Int) 0 b),SV.i .i64 (dn a (↑c:Int) (4:Int) 1 b),SV.i .i64 (dn a (↑c:Int) (5:Int) 0 b),SV.i .i64 (dn a (↑c:Int) (5:Int) 1 b)]) (El.fn (stF a e))∧Ob (IsLst B g d.length 6 (Rv.elemOf [IntKind.u16,.i64,.i64,IntKind.i8,IntKind.i8,.i64] d))∧LsA B f I4 a∧Ob (PlainE d.length (El.fn (stF a e)))∧True)))∧(lf a (↑c:Int) 0 b < cell a b 2→False))))∧(cell a b 0=(↑4:Int)→Ob ((0:Int)≤cell a b 1∧(cell a b 1).toNat < d.length)∧(cell a b 2=(0:Int)→False)∧(¬cell a b 2=(0:Int)→Ob ((cell a b 1).toNat < d.length)∧Ob ((cell a b 1).toNat=c)∧(¬lf a (↑c:Int) 0 b < cell a b 2→Ob ((cell a b 1).toNat < d.length)∧Ob ((cell a b 1).toNat=c)∧(lf a (↑c:Int) 1 b < cell a b 3→False)∧(¬lf a (↑c:Int) 1 b < cell a b 3→Ob ((cell a b 1).toNat < d.length)∧Ob ((cell a b 1).toNat=c)∧Ob (InR .i64 ((0:Int)-cell a b 2))∧Ob (InR .i64 ((0:Int)-cell a b 3))∧Ob (((-1000000000:Int)≤lf a (↑c:Int) 0 b∧lf a (↑c:Int) 0 b≤(1000000000:Int))∧((-1000000000:Int)≤lf a (↑c:Int) 1 b∧lf a (↑c:Int) 1 b≤(1000000000:Int))∧((-1000000000:Int)≤(0:Int)-cell a b 2∧(0:Int)-cell a b 2≤(1000000000:Int))∧(-1000000000:Int)≤(0:Int)-cell a b 3∧(0:Int)-cell a b 3≤(1000000000:Int))∧Ob ((cell a b 1).toNat < d.length∧(((El.fn (stF a b)).row c [SV.i .i64 (lf a (↑c:Int) 0 b),SV.i .i64 (lf a (↑c:Int) 1 b),SV.i .i64 (dn a (↑c:Int) (0:Int) 0 b),SV.i .i64 (dn a (↑c:Int) (0:Int) 1 b),SV.i .i64 (dn a (↑c:Int) (1:Int) 0 b),SV.i .i64 (dn a (↑c:Int) (1:Int) 1 b),SV.i .i64 (dn a (↑c:Int) (2:Int) 0 b),SV.i .i64 (dn a (↑c:Int) (2:Int) 1 b),SV.i .i64 (dn a (↑c:Int) (3:Int) 0 b),SV.i .i64 (dn a (↑c:Int) (3:Int) 1 b),SV.i .i64 (dn a (↑c:Int) (4:Int) 0 b),SV.i .i64 (dn a (↑c:Int) (4:Int) 1 b),SV.i .i64 (dn a (↑c:Int) (5:Int) 0 b),SV.i .i64 (dn a (↑c:Int) (5:Int) 1 b)]).at (cell a b 1).toNat).length=(14:Nat))∧Ob ((cell a b 1).toNat=c)∧Ob ((cell a b 1).toNat < d.length)∧Ob ((cell a b 1).toNat=c)∧Ob True∧(¬(lf a (↑c:Int) 0 b+((0:Int)-cell a b 2)≤lf a (↑c:Int) 1 b+((0:Int)-cell a b 3)∧((0:Int) < lf a (↑c:Int) 0 b+((0:Int)-cell a b 2)∨lf a (↑c:Int) 1 b+((0:Int)-cell a b 3)=(0:Int)))→False)∧(¬¬(lf a (↑c:Int) 0 b+((0:Int)-cell a b 2)≤lf a (↑c:Int) 1 b+((0:Int)-cell a b 3)∧((0:Int) < lf a (↑c:Int) 0 b+((0:Int)-cell a b 2)∨lf a (↑c:Int) 1 b+((0:Int)-cell a b 3)=(0:Int)))→Ob ((cell a b 1).toNat < d.length)∧Ob ((cell a b 1).toNat=c)∧Ob (((-1000000000:Int)≤dn a (↑c:Int) (4:Int) 0 b∧dn a (↑c:Int) (4:Int) 0 b≤(1000000000:Int))∧((-1000000000:Int)≤dn a (↑c:Int) (4:Int) 1 b∧dn a (↑c:Int) (4:Int) 1 b≤(1000000000:Int))∧((-1000000000:Int)≤cell a b 2∧cell a b 2≤(1000000000:Int))∧(-1000000000:Int)≤cell a b 3∧cell a b 3≤(1000000000:Int))∧Ob ((cell a b 1).toNat < d.length∧(((El.fn (stF a b)).row c [SV.i .i64 (lf a (↑c:Int) 0 b+((0:Int)-cell a b 2)),SV.i .i64 (lf a (↑c:Int) 1 b+((0:Int)-cell a b 3)),SV.i .i64 (dn a (↑c:Int) (0:Int) 0 b),SV.i .i64 (dn a (↑c:Int) (0:Int) 1 b),SV.i .i64 (dn a (↑c:Int) (1:Int) 0 b),SV.i .i64 (dn a (↑c:Int) (1:Int) 1 b),SV.i .i64 (dn a (↑c:Int) (2:Int) 0 b),SV.i .i64 (dn a (↑c:Int) (2:Int) 1 b),SV.i .i64 (dn a (↑c:Int) (3:Int) 0 b),SV.i .i64 (dn a (↑c:Int) (3:Int) 1 b),SV.i .i64 (dn a (↑c:Int) (4:Int) 0 b),SV.i .i64 (dn a (↑c:Int) (4:Int) 1 b),SV.i .i64 (dn a (↑c:Int) (5:Int) 0 b),SV.i .i64 (dn a (↑c:Int) (5:Int) 1 b)]).at (cell a b 1).toNat).length=(14:Nat))∧Ob ((cell a b 1).toNat=c)∧Ob (InR .i64 ((↑b:Int)+(1:Int)))∧∃(e:Nat),Ob (e≤a.length∧a.length-e < a.length-b)∧Ob (SV.lst g d.length 6 (Rv.elemOf [IntKind.u16,.i64,.i64,IntKind.i8,IntKind.i8,.i64] d)=SV.lst g d.length 6 (Rv.elemOf [IntKind.u16,.i64,.i64,IntKind.i8,IntKind.i8,.i64] d))∧Ob (d.length=d.length)∧Ob (SV.lst f a.length 4 (Rv.elemOf I4 a)=SV.lst f a.length 4 (Rv.elemOf I4 a))∧Ob ((↑a.length:Int)=(↑a.length:Int))∧Ob ((↑b:Int)+(1:Int)=(↑e:Int))∧EqA d.length d.length ((El.fn (stF a b)).row c [SV.i .i64 (lf a (↑c:Int) 0 b+((0:Int)-cell a b 2)),SV.i .i64 (lf a (↑c:Int) 1 b+((0:Int)-cell a b 3)),SV.i .i64 (dn a (↑c:Int) (0:Int) 0 b),SV.i .i64 (dn a (↑c:Int) (0:Int) 1 b),SV.i .i64 (dn a (↑c:Int) (1:Int) 0 b),SV.i .i64 (dn a (↑c:Int) (1:Int) 1 b),SV.i .i64 (dn a (↑c:Int) (2:Int) 0 b),SV.i .i64 (dn a (↑c:Int) (2:Int) 1 b),SV.i .i64 (dn a (↑c:Int) (3:Int) 0 b),SV.i .i64 (dn a (↑c:Int) (3:Int) 1 b),SV.i .i64 (dn a (↑c:Int) (4:Int) 0 b+cell a b 2),SV.i .i64 (dn a (↑c:Int) (4:Int) 1 b+cell a b 3),SV.i .i64 (dn a (↑c:Int) (5:Int) 0 b),SV.i .i64 (dn a (↑c:Int) (5:Int) 1 b)]) (El.fn (stF a e))∧Ob (IsLst B g d.length 6 (Rv.elemOf [IntKind.u16,.i64,.i64,IntKind.i8,IntKind.i8,.i64] d))∧LsA B f I4 a∧Ob (PlainE d.length (El.fn (stF a e)))∧True)))∧(lf a (↑c:Int) 0 b < cell a b 2→False))))∧(cell a b 0=(↑5:Int)→Ob ((0:Int)≤cell a b 1∧(cell a b 1).toNat < d.length)∧((0:Int) < cell a b 2→False)∧(¬(0:Int) < cell a b 2→Ob ((cell a b 1).toNat < d.length)∧Ob ((cell a b 1).toNat=c)∧(¬lf a (↑c:Int) 0 b < cell a b 2→Ob ((cell a b 1).toNat < d.length)∧Ob ((cell a b 1).toNat=c)∧(lf a (↑c:Int) 1 b < cell a b 3→False)∧(¬lf a (↑c:Int) 1 b < cell a b 3→Ob ((cell a b 1).toNat < d.length)∧Ob ((cell a b 1).toNat=c)∧Ob (InR .i64 ((0:Int)-cell a b 2))∧Ob (InR .i64 ((0:Int)-cell a b 3))∧Ob (((-1000000000:Int)≤lf a (↑c:Int) 0 b∧lf a (↑c:Int) 0 b≤(1000000000:Int))∧((-1000000000:Int)≤lf a (↑c:Int) 1 b∧lf a (↑c:Int) 1 b≤(1000000000:Int))∧((-1000000000:Int)≤(0:Int)-cell a b 2∧(0:Int)-cell a b 2≤(1000000000:Int))∧(-1000000000:Int)≤(0:Int)-cell a b 3∧(0:Int)-cell a b 3≤(1000000000:Int))∧Ob ((cell a b 1).toNat < d.length∧(((El.fn (stF a b)).row c [SV.i .i64 (lf a (↑c:Int) 0 b),SV.i .i64 (lf a (↑c:Int) 1 b),SV.i .i64 (dn a (↑c:Int) (0:Int) 0 b),SV.i .i64 (dn a (↑c:Int) (0:Int) 1 b),SV.i .i64 (dn a (↑c:Int) (1:Int) 0 b),SV.i .i64 (dn a (↑c:Int) (1:Int) 1 b),SV.i .i64 (dn a (↑c:Int) (2:Int) 0 b),SV.i .i64 (dn a (↑c:Int) (2:Int) 1 b),SV.i .i64 (dn a (↑c:Int) (3:Int) 0 b),SV.i .i64 (dn a (↑c:Int) (3:Int) 1 b),SV.i .i64 (dn a (↑c:Int) (4:Int) 0 b),SV.i .i64 (dn a (↑c:Int) (4:Int) 1 b),SV.i .i64 (dn a (↑c:Int) (5:Int) 0 b),SV.i .i64 (dn a (↑c:Int) (5:Int) 1 b)]).at (cell a b 1).toNat).length=(14:Nat))∧Ob ((cell a b 1).toNat=c)∧Ob ((cell a b 1).toNat < d.length)∧Ob ((cell a b 1).toNat=c)∧Ob True∧(¬(lf a (↑c:Int) 0 b+((0:Int)-cell a b 2)≤lf a (↑c:Int) 1 b+((0:Int)-cell a b 3)∧((0:Int) < lf a (↑c:Int) 0 b+((0:Int)-cell a b 2)∨lf a (↑c:Int) 1 b+((0:Int)-cell a b 3)=(0:Int)))→False)∧(¬¬(lf a (↑c:Int) 0 b+((0:Int)-cell a b 2)≤lf a (↑c:Int) 1 b+((0:Int)-cell a b 3)∧((0:Int) < lf a (↑c:Int) 0 b+((0:Int)-cell a b 2)∨lf a (↑c:Int) 1 b+((0:Int)-cell a b 3)=(0:Int)))→Ob ((cell a b 1).toNat < d.length)∧Ob ((cell a b 1).toNat=c)∧Ob (((-1000000000:Int)≤dn a (↑c:Int) (5:Int) 0 b∧dn a (↑c:Int) (5:Int) 0 b≤(1000000000:Int))∧((-1000000000:Int)≤dn a (↑c:Int) (5:Int) 1 b∧dn a (↑c:Int) (5:Int) 1 b≤(1000000000:Int))∧((-1000000000:Int)≤cell a b 2∧cell a b 2≤(1000000000:Int))∧(-1000000000:Int)≤cell a b 3∧cell a b 3≤(1000000000:Int))∧Ob ((cell a b 1).toNat < d.length∧(((El.fn (stF a b)).row c [SV.i .i64 (lf a (↑c:Int) 0 b+((0:Int)-cell a b 2)),SV.i .i64 (lf a (↑c:Int) 1 b+((0:Int)-cell a b 3)),SV.i .i64 (dn a (↑c:Int) (0:Int) 0 b),SV.i .i64 (dn a (↑c:Int) (0:Int) 1 b),SV.i .i64 (dn a (↑c:Int) (1:Int) 0 b),SV.i .i64 (dn a (↑c:Int) (1:Int) 1 b),SV.i .i64 (dn a (↑c:Int) (2:Int) 0 b),SV.i .i64 (dn a (↑c:Int) (2:Int) 1 b),SV.i .i64 (dn a (↑c:Int) (3:Int) 0 b),SV.i .i64 (dn a (↑c:Int) (3:Int) 1 b),SV.i .i64 (dn a (↑c:Int) (4:Int) 0 b),SV.i .i64 (dn a (↑c:Int) (4:Int) 1 b),SV.i .i64 (dn a (↑c:Int) (5:Int) 0 b),SV.i .i64 (dn a (↑c:Int) (5:Int) 1 b)]).at (cell a b 1).toNat).length=(14:Nat))∧Ob ((cell a b 1).toNat=c)∧Ob (InR .i64 ((↑b:Int)+(1:Int)))∧∃(e:Nat),Ob (e≤a.length∧a.length-e < a.length-b)∧Ob (SV.lst g d.length 6 (Rv.elemOf [IntKind.u16,.i64,.i64,IntKind.i8,IntKind.i8,.i64] d)=SV.lst g d.length 6 (Rv.elemOf [IntKind.u16,.i64,.i64,IntKind.i8,IntKind.i8,.i64] d))∧Ob (d.length=d.length)∧Ob (SV.lst f a.length 4 (Rv.elemOf I4 a)=SV.lst f a.length 4 (Rv.elemOf I4 a))∧Ob ((↑a.length:Int)=(↑a.length:Int))∧Ob ((↑b:Int)+(1:Int)=(↑e:Int))∧EqA d.length d.length ((El.fn (stF a b)).row c [SV.i .i64 (lf a (↑c:Int) 0 b+((0:Int)-cell a b 2)),SV.i .i64 (lf a (↑c:Int) 1 b+((0:Int)-cell a b 3)),SV.i .i64 (dn a (↑c:Int) (0:Int) 0 b),SV.i .i64 (dn a (↑c:Int) (0:Int) 1 b),SV.i .i64 (dn a (↑c:Int) (1:Int) 0 b),SV.i .i64 (dn a (↑c:Int) (1:Int) 1 b),SV.i .i64 (dn a (↑c:Int) (2:Int) 0 b),SV.i .i64 (dn a (↑c:Int) (2:Int) 1 b),SV.i .i64 (dn a (↑c:Int) (3:Int) 0 b),SV.i .i64 (dn a (↑c:Int) (3:Int) 1 b),SV.i .i64 (dn a (↑c:Int) (4:Int) 0 b),SV.i .i64 (dn a (↑c:Int) (4:Int) 1 b),SV.i .i64 (dn a (↑c:Int) (5:Int) 0 b+cell a b 2),SV.i .i64 (dn a (↑c:Int) (5:Int) 1 b+cell a b 3)]) (El.fn (stF a e))∧Ob (IsLst B g d.length 6 (Rv.elemOf [IntKind.u16,.i64,.i64,IntKind.i8,IntKind.i8,.i64] d))∧LsA B f I4 a∧Ob (PlainE d.length (El.fn (stF a e)))∧True)))∧(lf a (↑c:Int) 0 b < cell a b 2→False))))∧(¬(↑b:Int) < (↑a.length:Int)→Ob (d.length=d.length)∧Ob (Value.int .i64 (0:Int)=Value.int .i64 (0:Int))∧EqA d.length d.length (El.fn (stF a b)) (El.fn (stF a a.length))∧Ob (PlainE d.length (El.fn (stF a a.length)))∧True))
set_option linter.unusedSimpArgs false in
set_option maxRecDepth 4000 in
set_option maxHeartbeats 4000000 in
theorem v_doAll:V_doAll:=by
 unfold V_doAll EqA I4 LsA
 intro B x R hx hox hrx hcan y L hy hoy hry ⟨hM,hL⟩
 have l4:=hM.l
 have l200:=hL.l
 simp only [Ob_iff,and_true,true_and]
 refine⟨R,⟨hx,rfl,hrx,fun _ _=>rfl⟩,hcan,hM,hy,fun h=>absurd h (by omega),fun _=>⟨hx,by omega,hy,⟨0,?_⟩,?_⟩⟩
 ·repeat' (with_reducible apply And.intro)
  all_goals first | exact hx | exact hy | exact st_plain _ _ _ | exact fun i _=>rfl | omega | rfl
 intro k hk
 intros
 refine⟨fun h1=>?_,fun h1=>?_⟩
 rotate_left
 ·have e:k=L.length:=by omega
  subst e
  repeat' (with_reducible apply And.intro)
  all_goals first | exact st_plain _ _ _ | trivial | rfl | exact fun _ _=>rfl
 have hk':k < L.length:=by omega
 obtain⟨⟨k1,k2⟩,⟨g1,g2⟩,⟨c1,c2⟩,⟨m1,m2⟩,fm,sh,cl⟩:=hL.a k hk'
 obtain⟨g,hg⟩:=Int.eq_ofNat_of_zero_le g1
 have hG:(cell L k 1).toNat=g:=by rw [hg]; rfl
 rw [hg]at sh cl
 have gl:g < R.length:=by omega
 have hb0:=hL.lf hk g (c:=0) (by omega)
 have hb1:=hL.lf hk g (c:=1) (by omega)
 have hd:∀(q:Int) (c:Nat),c < 2→0≤dn L g q c k∧dn L g q c k≤200000000:=fun q c h=>hL.dn hk g q h
 simp only [hG]
 refine⟨⟨by omega,hk',hy⟩,⟨hy,hk'⟩,hx,by omega,g,⟨by omega,by omega⟩,⟨⟨⟨⟨⟨fun h=>absurd (show cell L k 0=0 from h) (by omega),fun h=>?_⟩,fun h=>?_⟩,fun h=>?_⟩,fun h=>?_⟩,fun h=>?_⟩⟩
 ·have h:cell L k 0=1:=h
  have d0:=hd 1 0 (by omega)
  have d1:=hd 1 1 (by omega)
  have nz:¬ cell L k 2=0:=fun e=>by have:=fm.2 e; omega
  rw [lf_in hg h,lf_in hg h]at cl
  refine⟨⟨by omega,gl⟩,fun e=>nz e,fun _=>⟨gl,rfl,by omega,⟨gl,by simp [El.at]⟩,rfl,gl,rfl,fun e=>e cl,fun _=>⟨gl,rfl,by omega,⟨gl,by simp [El.at]⟩,rfl,by simp only [InR]; omega,k+1,?_⟩⟩⟩
  clear sh cl hb0 hb1 hd fm
  repeat' (with_reducible apply And.intro)
  all_goals first | exact hx | exact hy | exact st_plain _ _ _ | exact fun i _=>st_1 hg h i | omega | rfl
 ·have h:cell L k 0=2:=h
  have d0:=hd 2 0 (by omega)
  have d1:=hd 2 1 (by omega)
  rw [lf_out hg (by omega),lf_out hg (by omega)]at cl
  have sh:=sh (by omega)
  have nz:¬ cell L k 2=0:=fun e=>by have:=fm.2 e; omega
  refine⟨⟨by omega,gl⟩,fun e=>nz e,fun _=>⟨gl,rfl,fun _=>⟨gl,rfl,fun e=>by omega,fun _=>⟨gl,rfl,by simp only [InR]; omega,by simp only [InR]; omega,by omega,⟨gl,by simp [El.at]⟩,rfl,gl,rfl,fun e=>e cl,fun _=>⟨gl,rfl,by omega,⟨gl,by simp [El.at]⟩,rfl,by simp only [InR]; omega,k+1,?_⟩⟩⟩,fun e=>by omega⟩⟩
  clear sh cl hb0 hb1 hd fm
  repeat' (with_reducible apply And.intro)
  all_goals first | exact hx | exact hy | exact st_plain _ _ _ | exact fun i _=>st_2 hg h i | omega | rfl
 ·have h:cell L k 0=3:=h
  have d0:=hd 3 0 (by omega)
  have d1:=hd 3 1 (by omega)
  rw [lf_out hg (by omega),lf_out hg (by omega)]at cl
  have sh:=sh (by omega)
  have nz:¬ cell L k 2=0:=fun e=>by have:=fm.2 e; omega
  refine⟨⟨by omega,gl⟩,fun e=>nz e,fun _=>⟨gl,rfl,fun _=>⟨gl,rfl,fun e=>by omega,fun _=>⟨gl,rfl,by simp only [InR]; omega,by simp only [InR]; omega,by omega,⟨gl,by simp [El.at]⟩,rfl,gl,rfl,fun e=>e cl,fun _=>⟨gl,rfl,by omega,⟨gl,by simp [El.at]⟩,rfl,by simp only [InR]; omega,k+1,?_⟩⟩⟩,fun e=>by omega⟩⟩
  clear sh cl hb0 hb1 hd fm
  repeat' (with_reducible apply And.intro)
  all_goals first | exact hx | exact hy | exact st_plain _ _ _ | exact fun i _=>st_3 hg h i | omega | rfl
 ·have h:cell L k 0=4:=h
  have d0:=hd 4 0 (by omega)
  have d1:=hd 4 1 (by omega)
  rw [lf_out hg (by omega),lf_out hg (by omega)]at cl
  have sh:=sh (by omega)
  have nz:¬ cell L k 2=0:=fun e=>by have:=fm.2 e; omega
  refine⟨⟨by omega,gl⟩,fun e=>nz e,fun _=>⟨gl,rfl,fun _=>⟨gl,rfl,fun e=>by omega,fun _=>⟨gl,rfl,by simp only [InR]; omega,by simp only [InR]; omega,by omega,⟨gl,by simp [El.at]⟩,rfl,gl,rfl,fun e=>e cl,fun _=>⟨gl,rfl,by omega,⟨gl,by simp [El.at]⟩,rfl,by simp only [InR]; omega,k+1,?_⟩⟩⟩,fun e=>by omega⟩⟩
  clear sh cl hb0 hb1 hd fm
  repeat' (with_reducible apply And.intro)
  all_goals first | exact hx | exact hy | exact st_plain _ _ _ | exact fun i _=>st_4 hg h i | omega | rfl
 ·have h:cell L k 0=5:=h
  have d0:=hd 5 0 (by omega)
  have d1:=hd 5 1 (by omega)
  rw [lf_out hg (by omega),lf_out hg (by omega)]at cl
  have sh:=sh (by omega)
  have nz:cell L k 2=0:=fm.1 h
  refine⟨⟨by omega,gl⟩,fun e=>by omega,fun _=>⟨gl,rfl,fun _=>⟨gl,rfl,fun e=>by omega,fun _=>⟨gl,rfl,by simp only [InR]; omega,by simp only [InR]; omega,by omega,⟨gl,by simp [El.at]⟩,rfl,gl,rfl,fun e=>e cl,fun _=>⟨gl,rfl,by omega,⟨gl,by simp [El.at]⟩,rfl,by simp only [InR]; omega,k+1,?_⟩⟩⟩,fun e=>by omega⟩⟩
  clear sh cl hb0 hb1 hd fm
  repeat' (with_reducible apply And.intro)
  all_goals first | exact hx | exact hy | exact st_plain _ _ _ | exact fun i _=>st_5 hg h i | omega | rfl
theorem e_doAll:V_doAll=needEI P [F_checkEvent,F_plus,F_canBe] [F_Check] I_doAll A_doAll F_doAll:=by kernel_rfl
theorem n_doAll:Ob (needEI P [F_checkEvent,F_plus,F_canBe] [F_Check] I_doAll A_doAll F_doAll):=by
 rw [← e_doAll]
 exact⟨v_doAll⟩
theorem b_doAll:((P.funcs[16]?).any fun fn=>fn.body.isSome)=true:=by kernel_rfl
theorem doAll_ok:FnE.Ok P F_doAll:=FnE.okI named (l:=[F_checkEvent,F_plus,F_canBe]) (es:=[F_Check]) (I:=I_doAll) (A:=A_doAll) (by rfl) (by rfl) (by rfl) (by
 intro F h
 simp only [List.mem_cons,List.not_mem_nil,or_false]at h
 rcases h with rfl | rfl | rfl
 ·exact checkEvent_ok
 ·exact plus_ok
 ·exact canBe_ok
) (by
 intro F h
 simp only [List.mem_cons,List.not_mem_nil,or_false]at h
 rcases h with rfl
 ·exact Check_ok
) b_doAll (by
 intro ds h o ho n sz e k z he
 subst he
 simp only [F_doAll]at ho
 split at ho
 ·simp only [List.mem_cons,List.not_mem_nil,or_false,SObj.gr.injEq]at ho
  obtain⟨rfl,rfl,rfl,rfl,rfl⟩:=ho
  exact st_plain _ _ _
 ·simp at ho) n_doAll
end Go.Proofs.Ytdnphbnnhfpphaa.Sy
