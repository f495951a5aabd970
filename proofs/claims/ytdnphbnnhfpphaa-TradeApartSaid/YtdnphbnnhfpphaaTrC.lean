import Derived.Test.YtdnphbnnhfpphaaSyP2
import Derived.Test.YtdnphbnnhfpphaaGrM
import Derived.Test.YtdnphbnnhfpphaaKtT
import Derived.Test.YtdnphbnnhfpphaaTrA
import Derived.Test.YtdnphbnnhfpphaaTrN
import Derived.Test.YtdnphbnnhfpphaaTrB
import Derived.Test.YtdnphbnnhfpphaaSyP2
import Derived.KernelRfl
import Derived.Test.YtdnphbnnhfpphaaProg
namespace Go.Proofs.Ytdnphbnnhfpphaa.Sy
open Go Go.Rv
set_option linter.unusedVariables false
def dn (L:Rows) (i q:Int) (c:Nat):Nat→Int
 | 0=>0
 | k+1=>dn L i q c k+(if cell L k 1=i∧cell L k 0=q then cell L k (2+c)else 0)
def lf (L:Rows) (i:Int) (c k:Nat):Int:=dn L i 1 c k-dn L i 2 c k-dn L i 3 c k-dn L i 4 c k-dn L i 5 c k
def stF (L:Rows) (k:Nat) (i:Nat):List SV:=[.i .i64 (lf L i 0 k),.i .i64 (lf L i 1 k),.i .i64 (dn L i 0 0 k),.i .i64 (dn L i 0 1 k),.i .i64 (dn L i 1 0 k),.i .i64 (dn L i 1 1 k),.i .i64 (dn L i 2 0 k),.i .i64 (dn L i 2 1 k),.i .i64 (dn L i 3 0 k),.i .i64 (dn L i 3 1 k),.i .i64 (dn L i 4 0 k),.i .i64 (dn L i 4 1 k),.i .i64 (dn L i 5 0 k),.i .i64 (dn L i 5 1 k)]
structure LgAt (n:Nat) (L:Rows) (k:Nat):Prop where
 kd:1≤cell L k 0∧cell L k 0≤5
 gr:0≤cell L k 1∧cell L k 1 < n
 ct:0≤cell L k 2∧cell L k 2≤1000000
 gm:0≤cell L k 3∧cell L k 3≤1000000
 fm:cell L k 0=5↔cell L k 2=0
 sh:¬ cell L k 0=1→cell L k 2≤lf L (cell L k 1) 0 k∧cell L k 3≤lf L (cell L k 1) 1 k
 cl:lf L (cell L k 1) 0 (k+1)≤lf L (cell L k 1) 1 (k+1)∧(0 < lf L (cell L k 1) 0 (k+1)∨lf L (cell L k 1) 1 (k+1)=0)
structure LgOk (n:Nat) (L:Rows):Prop where
 l:L.length≤200
 a:∀k,k < L.length→LgAt n L k
theorem dn_hit {L:Rows} {i q:Int} {c k:Nat} (h1:cell L k 1=i) (h0:cell L k 0=q):dn L i q c (k+1)=dn L i q c k+cell L k (2+c):=by
 simp only [dn,h1,h0,and_self,if_true]
theorem dn_miss {L:Rows} {i q:Int} {c k:Nat} (h:¬ (cell L k 1=i∧cell L k 0=q)):dn L i q c (k+1)=dn L i q c k:=by
 simp only [dn,if_neg h,Int.add_zero]
theorem lf_in {L:Rows} {i:Int} {c k:Nat} (h1:cell L k 1=i) (h0:cell L k 0=1):lf L i c (k+1)=lf L i c k+cell L k (2+c):=by
 unfold lf
 rw [dn_hit h1 h0,dn_miss (q:=2) (by omega),dn_miss (q:=3) (by omega),dn_miss (q:=4) (by omega),dn_miss (q:=5) (by omega)]
 omega
theorem lf_out {L:Rows} {i:Int} {c k:Nat} (h1:cell L k 1=i) (h0:2≤cell L k 0∧cell L k 0≤5):lf L i c (k+1)=lf L i c k+(0-cell L k (2+c)):=by
 have:cell L k 0=2∨cell L k 0=3∨cell L k 0=4∨cell L k 0=5:=by omega
 unfold lf
 rw [dn_miss (q:=1) (by omega)]
 rcases this with h | h | h | h
 ·rw [dn_hit (q:=2) h1 h,dn_miss (q:=3) (by omega),dn_miss (q:=4) (by omega),dn_miss (q:=5) (by omega)]; omega
 ·rw [dn_miss (q:=2) (by omega),dn_hit (q:=3) h1 h,dn_miss (q:=4) (by omega),dn_miss (q:=5) (by omega)]; omega
 ·rw [dn_miss (q:=2) (by omega),dn_miss (q:=3) (by omega),dn_hit (q:=4) h1 h,dn_miss (q:=5) (by omega)]; omega
 ·rw [dn_miss (q:=2) (by omega),dn_miss (q:=3) (by omega),dn_miss (q:=4) (by omega),dn_hit (q:=5) h1 h]; omega
theorem lf_miss {L:Rows} {i:Int} {c k:Nat} (h:¬ cell L k 1=i):lf L i c (k+1)=lf L i c k:=by
 unfold lf
 rw [dn_miss (q:=1) (by omega),dn_miss (q:=2) (by omega),dn_miss (q:=3) (by omega),dn_miss (q:=4) (by omega),dn_miss (q:=5) (by omega)]
theorem dn_bd {L:Rows} {i q:Int} {c:Nat}:∀ {k:Nat},(∀j,j < k→0≤cell L j (2+c)∧cell L j (2+c)≤1000000)→0≤dn L i q c k∧dn L i q c k≤k*1000000
 | 0,_=>⟨Int.le_refl _,by simp [dn]⟩
 | k+1,h=>by
  have ih:=dn_bd (i:=i) (q:=q) (k:=k) fun j hj=>h j (by omega)
  have h2:=h k (by omega)
  by_cases e:cell L k 1=i∧cell L k 0=q
  ·rw [dn_hit e.1 e.2]; omega
  ·rw [dn_miss e]; omega
theorem LgAt.cg {n:Nat} {L:Rows} {k:Nat} (h:LgAt n L k) (c:Nat) (hc:c < 2):0≤cell L k (2+c)∧cell L k (2+c)≤1000000:=by
 have:c=0∨c=1:=by omega
 rcases this with rfl | rfl
 ·exact h.ct
 ·exact h.gm
theorem LgOk.dn {n:Nat} {L:Rows} (h:LgOk n L) {k:Nat} (hk:k≤L.length) (i q:Int) {c:Nat} (hc:c < 2):0≤dn L i q c k∧dn L i q c k≤200000000:=by
 have h1:=dn_bd (L:=L) (i:=i) (q:=q) (c:=c) (k:=k) fun j hj=>(h.a j (by omega)).cg c hc
 have h2:=h.l
 omega
theorem LgOk.lf {n:Nat} {L:Rows} (h:LgOk n L) {k:Nat} (hk:k≤L.length) (i:Int) {c:Nat} (hc:c < 2):-800000000≤lf L i c k∧lf L i c k≤200000000:=by
 have h1:=h.dn hk i 1 hc
 have h2:=h.dn hk i 2 hc
 have h3:=h.dn hk i 3 hc
 have h4:=h.dn hk i 4 hc
 have h5:=h.dn hk i 5 hc
 unfold Sy.lf
 omega
theorem st_plain (L:Rows) (k n:Nat):PlainE n (.fn (stF L k)):=fun i _ y hy=>by
 simp only [El.at,stF,List.mem_cons,List.not_mem_nil,or_false]at hy
 rcases hy with rfl | rfl | rfl | rfl | rfl | rfl | rfl | rfl | rfl | rfl | rfl | rfl | rfl | rfl<;>trivial
theorem st_other {L:Rows} {k i g:Nat} (hg:cell L k 1=(g:Int)) (h:¬ i=g):stF L k i=stF L (k+1) i:=by
 have e:¬ cell L k 1=(i:Int):=by omega
 have d:∀q c,dn L i q c (k+1)=dn L i q c k:=fun q c=>dn_miss fun h=>e h.1
 simp only [stF,lf_miss e,d]
theorem st_1 {L:Rows} {k g:Nat} (hg:cell L k 1=(g:Int)) (h0:cell L k 0=1) (i:Nat):((El.fn (stF L k)).row g [.i .i64 (lf L (g:Nat) 0 k+cell L k 2),.i .i64 (lf L (g:Nat) 1 k+cell L k 3),.i .i64 (dn L (g:Nat) 0 0 k),.i .i64 (dn L (g:Nat) 0 1 k),.i .i64 (dn L (g:Nat) 1 0 k+cell L k 2),.i .i64 (dn L (g:Nat) 1 1 k+cell L k 3),.i .i64 (dn L (g:Nat) 2 0 k),.i .i64 (dn L (g:Nat) 2 1 k),.i .i64 (dn L (g:Nat) 3 0 k),.i .i64 (dn L (g:Nat) 3 1 k),.i .i64 (dn L (g:Nat) 4 0 k),.i .i64 (dn L (g:Nat) 4 1 k),.i .i64 (dn L (g:Nat) 5 0 k),.i .i64 (dn L (g:Nat) 5 1 k)]).at i=(El.fn (stF L (k+1))).at i:=by
 simp only [El.at]
 by_cases e:i=g
 ·subst e
  rw [if_pos rfl]
  have d:∀q c,¬ q=1→dn L i q c (k+1)=dn L i q c k:=fun q c h=>dn_miss fun h2=>h (h2.2.symm.trans h0)
  simp only [stF,lf_in hg h0,dn_hit hg h0,d 0 _ (by omega),d 2 _ (by omega),d 3 _ (by omega),d 4 _ (by omega),d 5 _ (by omega)]
 ·rw [if_neg e]
  exact st_other hg e
theorem st_2 {L:Rows} {k g:Nat} (hg:cell L k 1=(g:Int)) (h0:cell L k 0=2) (i:Nat):((El.fn (stF L k)).row g [.i .i64 (lf L (g:Nat) 0 k+(0-cell L k 2)),.i .i64 (lf L (g:Nat) 1 k+(0-cell L k 3)),.i .i64 (dn L (g:Nat) 0 0 k),.i .i64 (dn L (g:Nat) 0 1 k),.i .i64 (dn L (g:Nat) 1 0 k),.i .i64 (dn L (g:Nat) 1 1 k),.i .i64 (dn L (g:Nat) 2 0 k+cell L k 2),.i .i64 (dn L (g:Nat) 2 1 k+cell L k 3),.i .i64 (dn L (g:Nat) 3 0 k),.i .i64 (dn L (g:Nat) 3 1 k),.i .i64 (dn L (g:Nat) 4 0 k),.i .i64 (dn L (g:Nat) 4 1 k),.i .i64 (dn L (g:Nat) 5 0 k),.i .i64 (dn L (g:Nat) 5 1 k)]).at i=(El.fn (stF L (k+1))).at i:=by
 simp only [El.at]
 by_cases e:i=g
 ·subst e
  rw [if_pos rfl]
  have d:∀q c,¬ q=2→dn L i q c (k+1)=dn L i q c k:=fun q c h=>dn_miss fun h2=>h (h2.2.symm.trans h0)
  simp only [stF,lf_out (L:=L) (k:=k) hg (show 2≤cell L k 0∧cell L k 0≤5 by omega),dn_hit hg h0,d 0 _ (by omega),d 1 _ (by omega),d 3 _ (by omega),d 4 _ (by omega),d 5 _ (by omega)]
 ·rw [if_neg e]
  exact st_other hg e
theorem st_3 {L:Rows} {k g:Nat} (hg:cell L k 1=(g:Int)) (h0:cell L k 0=3) (i:Nat):((El.fn (stF L k)).row g [.i .i64 (lf L (g:Nat) 0 k+(0-cell L k 2)),.i .i64 (lf L (g:Nat) 1 k+(0-cell L k 3)),.i .i64 (dn L (g:Nat) 0 0 k),.i .i64 (dn L (g:Nat) 0 1 k),.i .i64 (dn L (g:Nat) 1 0 k),.i .i64 (dn L (g:Nat) 1 1 k),.i .i64 (dn L (g:Nat) 2 0 k),.i .i64 (dn L (g:Nat) 2 1 k),.i .i64 (dn L (g:Nat) 3 0 k+cell L k 2),.i .i64 (dn L (g:Nat) 3 1 k+cell L k 3),.i .i64 (dn L (g:Nat) 4 0 k),.i .i64 (dn L (g:Nat) 4 1 k),.i .i64 (dn L (g:Nat) 5 0 k),.i .i64 (dn L (g:Nat) 5 1 k)]).at i=(El.fn (stF L (k+1))).at i:=by
 simp only [El.at]
 by_cases e:i=g
 ·subst e
  rw [if_pos rfl]
  have d:∀q c,¬ q=3→dn L i q c (k+1)=dn L i q c k:=fun q c h=>dn_miss fun h2=>h (h2.2.symm.trans h0)
  simp only [stF,lf_out (L:=L) (k:=k) hg (show 2≤cell L k 0∧cell L k 0≤5 by omega),dn_hit hg h0,d 0 _ (by omega),d 1 _ (by omega),d 2 _ (by omega),d 4 _ (by omega),d 5 _ (by omega)]
 ·rw [if_neg e]
  exact st_other hg e
theorem st_4 {L:Rows} {k g:Nat} (hg:cell L k 1=(g:Int)) (h0:cell L k 0=4) (i:Nat):((El.fn (stF L k)).row g [.i .i64 (lf L (g:Nat) 0 k+(0-cell L k 2)),.i .i64 (lf L (g:Nat) 1 k+(0-cell L k 3)),.i .i64 (dn L (g:Nat) 0 0 k),.i .i64 (dn L (g:Nat) 0 1 k),.i .i64 (dn L (g:Nat) 1 0 k),.i .i64 (dn L (g:Nat) 1 1 k),.i .i64 (dn L (g:Nat) 2 0 k),.i .i64 (dn L (g:Nat) 2 1 k),.i .i64 (dn L (g:Nat) 3 0 k),.i .i64 (dn L (g:Nat) 3 1 k),.i .i64 (dn L (g:Nat) 4 0 k+cell L k 2),.i .i64 (dn L (g:Nat) 4 1 k+cell L k 3),.i .i64 (dn L (g:Nat) 5 0 k),.i .i64 (dn L (g:Nat) 5 1 k)]).at i=(El.fn (stF L (k+1))).at i:=by
 simp only [El.at]
 by_cases e:i=g
 ·subst e
  rw [if_pos rfl]
  have d:∀q c,¬ q=4→dn L i q c (k+1)=dn L i q c k:=fun q c h=>dn_miss fun h2=>h (h2.2.symm.trans h0)
  simp only [stF,lf_out (L:=L) (k:=k) hg (show 2≤cell L k 0∧cell L k 0≤5 by omega),dn_hit hg h0,d 0 _ (by omega),d 1 _ (by omega),d 2 _ (by omega),d 3 _ (by omega),d 5 _ (by omega)]
 ·rw [if_neg e]
  exact st_other hg e
theorem st_5 {L:Rows} {k g:Nat} (hg:cell L k 1=(g:Int)) (h0:cell L k 0=5) (i:Nat):((El.fn (stF L k)).row g [.i .i64 (lf L (g:Nat) 0 k+(0-cell L k 2)),.i .i64 (lf L (g:Nat) 1 k+(0-cell L k 3)),.i .i64 (dn L (g:Nat) 0 0 k),.i .i64 (dn L (g:Nat) 0 1 k),.i .i64 (dn L (g:Nat) 1 0 k),.i .i64 (dn L (g:Nat) 1 1 k),.i .i64 (dn L (g:Nat) 2 0 k),.i .i64 (dn L (g:Nat) 2 1 k),.i .i64 (dn L (g:Nat) 3 0 k),.i .i64 (dn L (g:Nat) 3 1 k),.i .i64 (dn L (g:Nat) 4 0 k),.i .i64 (dn L (g:Nat) 4 1 k),.i .i64 (dn L (g:Nat) 5 0 k+cell L k 2),.i .i64 (dn L (g:Nat) 5 1 k+cell L k 3)]).at i=(El.fn (stF L (k+1))).at i:=by
 simp only [El.at]
 by_cases e:i=g
 ·subst e
  rw [if_pos rfl]
  have d:∀q c,¬ q=5→dn L i q c (k+1)=dn L i q c k:=fun q c h=>dn_miss fun h2=>h (h2.2.symm.trans h0)
  simp only [stF,lf_out (L:=L) (k:=k) hg (show 2≤cell L k 0∧cell L k 0≤5 by omega),dn_hit hg h0,d 0 _ (by omega),d 1 _ (by omega),d 2 _ (by omega),d 3 _ (by omega),d 4 _ (by omega)]
 ·rw [if_neg e]
  exact st_other hg e
noncomputable def F_checkEvent:Fn0:=⟨26,[.agg [.i .i64,.i .i64,.i .i64,.i .i64],.one (.i .i64)],fun l=>match l with | [.z kd,.z gr,.z ct,.z gm,.z n]=>(1≤kd∧kd≤5)∧(0≤gr∧gr < n)∧(0≤ct∧ct≤1000000)∧(0≤gm∧gm≤1000000)∧n≤1000 | _=>False,fun l=>match l with | [.z kd,.z gr,.z ct,.z gm,.z n]=>.v (.int .i64 0) | _=>.v undef⟩
noncomputable def A_checkEvent:List SV→List Dat→Nat→List SV→Ann:=fun _ _ _ _=>noAnn
def V_checkEvent:Prop:=
 ∀(B:RW) (d c b e a:Int),((1:Int)≤d∧d≤(5:Int))∧((0:Int)≤c∧c < a)∧((0:Int)≤b∧b≤(1000000:Int))∧((0:Int)≤e∧e≤(1000000:Int))∧a≤(1000:Int)→Ob True∧(¬inB d (1:Int) (5:Int)→Ob (Value.int .i64 (3:Int)=Value.int .i64 (0:Int))∧True)∧(¬¬inB d (1:Int) (5:Int)→Ob ((0:Int)≤a∧a≤(1000:Int))∧(¬inB c (0:Int) (a-(1:Int))→Ob (Value.int .i64 (6:Int)=Value.int .i64 (0:Int))∧True)∧(¬¬inB c (0:Int) (a-(1:Int))→Ob True∧(¬¬inB b (0:Int) (1000000:Int)→Ob True∧(¬inB e (0:Int) (1000000:Int)→Ob (Value.int .i64 (1:Int)=Value.int .i64 (0:Int))∧True)∧(¬¬inB e (0:Int) (1000000:Int)→Ob (Value.int .i64 (0:Int)=Value.int .i64 (0:Int))∧True))∧(¬inB b (0:Int) (1000000:Int)→Ob (Value.int .i64 (1:Int)=Value.int .i64 (0:Int))∧True)))
set_option linter.unusedSimpArgs false in
set_option maxRecDepth 4000 in
set_option maxHeartbeats 400000 in
theorem v_checkEvent:V_checkEvent:=by
 unfold V_checkEvent
 intro B kd gr ct gm n
 simp only [Ob_iff,and_true,true_and,inB]
 intro h
 repeat' (first | apply And.intro | intro _)
 all_goals first | rfl | trivial | omega
theorem e_checkEvent:V_checkEvent=needF P [F_within,F_isIndex,F_isWare] A_checkEvent F_checkEvent:=by kernel_rfl
theorem n_checkEvent:Ob (needF P [F_within,F_isIndex,F_isWare] A_checkEvent F_checkEvent):=by
 rw [← e_checkEvent]
 exact⟨v_checkEvent⟩
theorem b_checkEvent:((P.funcs[26]?).any fun fn=>fn.body.isSome)=true:=by kernel_rfl
theorem checkEvent_ok:Fn0.Ok P F_checkEvent:=Fn0.ok named (l:=[F_within,F_isIndex,F_isWare]) (A:=A_checkEvent) (by rfl) (by
 intro F h
 simp only [List.mem_cons,List.not_mem_nil,or_false]at h
 rcases h with rfl | rfl | rfl
 ·exact within_ok
 ·exact isIndex_ok
 ·exact isWare_ok
) b_checkEvent (by
 intro ds N
 simp only [F_checkEvent]
 split<;>rfl) n_checkEvent
noncomputable def F_plus:Fn0:=⟨40,[.agg [.i .i64,.i .i64],.agg [.i .i64,.i .i64]],fun l=>match l with | [.z a,.z b,.z c,.z d]=>(-1000000000≤a∧a≤1000000000)∧(-1000000000≤b∧b≤1000000000)∧(-1000000000≤c∧c≤1000000000)∧(-1000000000≤d∧d≤1000000000) | _=>False,fun l=>match l with | [.z a,.z b,.z c,.z d]=>.agg [.i .i64 (a+c),.i .i64 (b+d)] | _=>.v undef⟩
noncomputable def A_plus:List SV→List Dat→Nat→List SV→Ann:=fun _ _ _ _=>noAnn
def V_plus:Prop:=
 ∀(B:RW) (d c b a:Int),((-1000000000:Int)≤d∧d≤(1000000000:Int))∧((-1000000000:Int)≤c∧c≤(1000000000:Int))∧((-1000000000:Int)≤b∧b≤(1000000000:Int))∧(-1000000000:Int)≤a∧a≤(1000000000:Int)→Ob (InR .i64 (d+b))∧Ob (InR .i64 (c+a))∧Ob (d+b=d+b)∧Ob (c+a=c+a)∧True
set_option linter.unusedSimpArgs false in
set_option maxRecDepth 4000 in
set_option maxHeartbeats 400000 in
theorem v_plus:V_plus:=by
 unfold V_plus
 intro B a b c d h
 simp only [Ob_iff,and_true,true_and,InR]
 repeat' (with_reducible apply And.intro)
 all_goals first | rfl | omega
theorem e_plus:V_plus=needF P [] A_plus F_plus:=by kernel_rfl
theorem n_plus:Ob (needF P [] A_plus F_plus):=by
 rw [← e_plus]
 exact⟨v_plus⟩
theorem b_plus:((P.funcs[40]?).any fun fn=>fn.body.isSome)=true:=by kernel_rfl
theorem plus_ok:Fn0.Ok P F_plus:=Fn0.ok named (l:=[]) (A:=A_plus) (by rfl) (by
 intro F h; simp at h) b_plus (by
 intro ds N
 simp only [F_plus]
 split<;>rfl) n_plus
noncomputable def F_canBe:Fn0:=⟨39,[.agg [.i .i64,.i .i64]],fun _=>True,fun l=>match l with | [.z a,.z b]=>.p (a≤b∧(0 < a∨b=0)) | _=>.v undef⟩
noncomputable def A_canBe:List SV→List Dat→Nat→List SV→Ann:=fun _ _ _ _=>noAnn
def V_canBe:Prop:=
 ∀(B:RW) (a b:Int),True→(a≤b→(¬(0:Int) < a→Ob (b=(0:Int)↔a≤b∧((0:Int) < a∨b=(0:Int)))∧True)∧((0:Int) < a→Ob (true=true↔a≤b∧((0:Int) < a∨b=(0:Int)))∧True))∧(¬a≤b→Ob (false=true↔a≤b∧((0:Int) < a∨b=(0:Int)))∧True)
set_option linter.unusedSimpArgs false in
set_option maxRecDepth 4000 in
set_option maxHeartbeats 400000 in
theorem v_canBe:V_canBe:=by
 unfold V_canBe
 intro B a b
 simp only [Ob_iff,and_true,true_and]
 repeat' (first | apply And.intro | intro _)
 all_goals first | trivial | omega | (simp only [true_iff]; omega) | (simp only [Bool.false_eq_true,false_iff]; omega)
theorem e_canBe:V_canBe=needF P [] A_canBe F_canBe:=by kernel_rfl
theorem n_canBe:Ob (needF P [] A_canBe F_canBe):=by
 rw [← e_canBe]
 exact⟨v_canBe⟩
theorem b_canBe:((P.funcs[39]?).any fun fn=>fn.body.isSome)=true:=by kernel_rfl
theorem canBe_ok:Fn0.Ok P F_canBe:=Fn0.ok named (l:=[]) (A:=A_canBe) (by rfl) (by
 intro F h; simp at h) b_canBe (by
 intro ds N
 simp only [F_canBe]
 split<;>rfl) n_canBe
end Go.Proofs.Ytdnphbnnhfpphaa.Sy
