import Derived.Test.YtfebjikidfcbcaaSyP2
import Derived.Test.YtfebjikidfcbcaaGrM
import Derived.Test.YtfebjikidfcbcaaStM
import Derived.Test.YtfebjikidfcbcaaLrM
import Derived.Test.YtfebjikidfcbcaaDhM
import Derived.Test.YtfebjikidfcbcaaKtT
import Derived.Test.YtfebjikidfcbcaaKtA
import Derived.Test.YtfebjikidfcbcaaKtB
import Derived.Test.YtfebjikidfcbcaaKwA
import Derived.Test.YtfebjikidfcbcaaKwB
import Derived.Test.YtfebjikidfcbcaaKwC
import Derived.Test.YtfebjikidfcbcaaKwD
import Derived.Test.YtfebjikidfcbcaaKwE
import Derived.Test.YtfebjikidfcbcaaSyP2
import Derived.KernelRfl
import Derived.Test.YtfebjikidfcbcaaProg
namespace Go.Proofs.Ytfebjikidfcbcaa.Sy
open Go Go.Rv
set_option linter.unusedVariables false
def shL (d:Int) (A:Rows) (k:Nat):Rows:=(List.range k).map fun i=>[((i:Nat):Int),cFl d A i,cR d A i]
theorem shL_len (d:Int) (A:Rows) (k:Nat):(shL d A k).length=k:=by simp [shL]
theorem shL_succ (d:Int) (A:Rows) (k:Nat):shL d A (k+1)=shL d A k++[[(k:Int),cFl d A k,cR d A k]]:=by simp [shL,List.range_succ]
theorem shL_at (d:Int) (A:Rows) {k i:Nat} (h:i < k+1):(behind k (.fn (Rv.elemOf [.i64,.i64,.i64] (shL d A k))) 1 (litEl [SV.i .i64 (k:Int),SV.i .i64 (cFl d A k),SV.i .i64 (cR d A k)] 3 1)).at i=(El.fn (Rv.elemOf [.i64,.i64,.i64] (shL d A (k+1)))).at i:=by
 have:=snoc_at (R:=shL d A k) (ks:=[.i64,.i64,.i64]) (r:=[(k:Int),cFl d A k,cR d A k]) (cs:=[SV.i .i64 (k:Int),SV.i .i64 (cFl d A k),SV.i .i64 (cR d A k)]) rfl (i:=i) (by rw [shL_len]; exact h)
 rw [shL_len,← shL_succ]at this
 exact this
structure Iq where
 i:Nat
 D:Nat→Nat
structure Jq where
 j:Nat
 D:Nat→Nat
structure Srt (R:Nat→Int) (D:Nat→Nat) (i n:Nat):Prop where
 lo:∀q,q < i→D q < i
 hi:∀q,i≤q→q < n→D q=q
 so:∀p q,p < q→q < i→bfr R (D p) (D q)
structure Ins (R:Nat→Int) (D:Nat→Nat) (j i n:Nat):Prop where
 ji:j≤i
 inn:i < n
 pl:D j=i
 lo:∀q,q≤i→q≠j→D q < i
 hi:∀q,i < q→q < n→D q=q
 so:∀p q,p < q→q≤i→p≠j→q≠j→bfr R (D p) (D q)
 up:∀q,j < q→q≤i→bfr R i (D q)
theorem srt_one (R:Nat→Int) (n:Nat):Srt R (fun q=>q) 1 n:=⟨fun q h=>h,fun _ _ _=>rfl,fun p q h1 h2=>by omega⟩
theorem Srt.ins {R:Nat→Int} {D:Nat→Nat} {i n:Nat} (h:Srt R D i n) (hi:i < n):Ins R D i i n:=
 ⟨Nat.le_refl _,hi,h.hi i (Nat.le_refl _) hi,fun q h1 h2=>h.lo q (by omega),fun q h1 h2=>h.hi q (by omega) h2,fun p q h1 h2 h3 h4=>h.so p q h1 (by omega),fun q h1 h2=>by omega⟩
def swp (D:Nat→Nat) (j q:Nat):Nat:=if q=j then D (j-1)else if q=j-1 then D j else D q
theorem Ins.step {R:Nat→Int} {D:Nat→Nat} {j i n:Nat} (h:Ins R D j i n) (hj:0 < j) (hR:R (D (j-1)) < R i):Ins R (swp D j) (j-1) i n:=by
 have hji:=h.ji
 have e1:swp D j j=D (j-1):=by unfold swp; rw [if_pos rfl]
 have e2:swp D j (j-1)=i:=by unfold swp; rw [if_neg (by omega),if_pos rfl,h.pl]
 have e3:∀q,q≠j→q≠j-1→swp D j q=D q:=fun q h1 h2=>by unfold swp; rw [if_neg h1,if_neg h2]
 have hb:bfr R i (D (j-1)):=.inl hR
 refine⟨by omega,h.inn,e2,fun q h1 h2=>?_,fun q h1 h2=>?_,fun p q h1 h2 h3 h4=>?_,fun q h1 h2=>?_⟩
 ·by_cases e:q=j
  ·rw [e,e1]; exact h.lo _ (by omega) (by omega)
  ·rw [e3 q e h2]; exact h.lo q h1 e
 ·rw [e3 q (by omega) (by omega)]; exact h.hi q h1 h2
 ·by_cases e:q=j
  ·rw [e,e1,e3 p (by omega) h3]; exact h.so p (j-1) (by omega) (by omega) (by omega) (by omega)
  ·rw [e3 q e h4]
   by_cases e':p=j
   ·rw [e',e1]; exact h.so (j-1) q (by omega) h2 (by omega) e
   ·rw [e3 p e' h3]; exact h.so p q h1 h2 e' e
 ·by_cases e:q=j
  ·rw [e,e1]; exact hb
  ·rw [e3 q e (by omega)]; exact h.up q (by omega) h2
theorem Ins.done {R:Nat→Int} {D:Nat→Nat} {j i n:Nat} (h:Ins R D j i n) (hs:j=0∨¬ R (D (j-1)) < R i):Srt R D (i+1) n:=by
 have hji:=h.ji
 refine⟨fun q h1=>?_,fun q h1 h2=>h.hi q (by omega) h2,fun p q h1 h2=>?_⟩
 ·by_cases e:q=j
  ·rw [e,h.pl]; omega
  ·have:=h.lo q (by omega) e; omega
 ·by_cases e:q=j
  ·rw [e,h.pl]
   have hj:0 < j:=by omega
   have hl:=h.lo (j-1) (by omega) (by omega)
   have hb:bfr R (D (j-1)) i:=by
    unfold bfr
    rcases hs with hs | hs<;>omega
   by_cases e':p=j-1
   ·rw [e']; exact hb
   ·exact bfr_trans (h.so p (j-1) (by omega) (by omega) (by omega) (by omega)) hb
  ·by_cases e':p=j
   ·rw [e',h.pl]; exact h.up q (by omega) (by omega)
   ·exact h.so p q h1 (by omega) e' e
theorem cmp_neg (a b:Int):(if a < b then (-1:Int)else if b < a then 1 else 0) < 0↔a < b:=by
 by_cases h:a < b
 ·rw [if_pos h]; omega
 ·rw [if_neg h]
  by_cases h2:b < a
  ·rw [if_pos h2]; omega
  ·rw [if_neg h2]; omega
def Rkd (d:Int) (A:Rows) (D:Nat→Nat):Prop:=∀q,q < A.length→D q < A.length∧cK d A (D q)=q
theorem Srt.rkd {d:Int} {A:Rows} {D:Nat→Nat} (h:Srt (cR d A) D A.length A.length):Rkd d A D:=by
 have lt:∀p q,p < q→q < A.length→rk (cR d A) A.length (D p) < rk (cR d A) A.length (D q):=fun p q h1 h2=>rk_lt (h.lo p (by omega)) (h.so p q h1 h2)
 have ge:∀q,q < A.length→q≤rk (cR d A) A.length (D q):=by
  intro q
  induction q with
  | zero=>intro _; exact Nat.zero_le _
  | succ q ih=>intro hq; have h1:=ih (by omega); have h2:=lt q (q+1) (by omega) hq; omega
 have le:∀k q,q+k+1=A.length→rk (cR d A) A.length (D q)≤q:=by
  intro k
  induction k with
  | zero=>intro q hq; have:=rk_n (R:=cR d A) (h.lo q (by omega)); omega
  | succ k ih=>intro q hq; have h1:=ih (q+1) (by omega); have h2:=lt q (q+1) (by omega) (by omega); omega
 intro q hq
 refine⟨h.lo q hq,?_⟩
 have h1:=ge q hq
 have h2:=le (A.length-q-1) q (by omega)
 unfold cK
 omega
theorem shL_el (d:Int) (A:Rows) {n i:Nat} (h:i < n):(El.fn (Rv.elemOf [.i64,.i64,.i64] (shL d A n))).at i=(El.fn fun q=>[SV.i .i64 (((fun q=>q) q:Nat):Int),SV.i .i64 (cFl d A ((fun q=>q) q)),SV.i .i64 (cR d A ((fun q=>q) q))]).at i:=by
 have e:(shL d A n).getD i []=[(i:Int),cFl d A i,cR d A i]:=by
  unfold shL
  simp [List.getD_eq_getElem?_getD,h]
 show [SV.i .i64 (((shL d A n).getD i []).getD 0 0),SV.i .i64 (((shL d A n).getD i []).getD 1 0),SV.i .i64 (((shL d A n).getD i []).getD 2 0)]=[SV.i .i64 (i:Int),SV.i .i64 (cFl d A i),SV.i .i64 (cR d A i)]
 rw [e]
 rfl
theorem swp_upd3 (d:Int) (A:Rows) {D:Nat→Nat} {j:Nat} (hj:0 < j) (i:Nat):(updL (updL (El.fn fun q=>[SV.i .i64 (D q:Nat),SV.i .i64 (cFl d A (D q)),SV.i .i64 (cR d A (D q))]) j 0 [SV.i .i64 (D (j-1):Nat),SV.i .i64 (cFl d A (D (j-1))),SV.i .i64 (cR d A (D (j-1)))]) (j-1) 0 [SV.i .i64 (D j:Nat),SV.i .i64 (cFl d A (D j)),SV.i .i64 (cR d A (D j))]).at i=(El.fn fun q=>[SV.i .i64 (swp D j q:Nat),SV.i .i64 (cFl d A (swp D j q)),SV.i .i64 (cR d A (swp D j q))]).at i:=by
 simp only [updL,El.at,swp]
 by_cases e:i=j-1
 ·have n1:¬ i=j:=by omega
  simp only [if_pos e,if_neg n1]
  rfl
 ·by_cases e2:i=j
  ·simp only [if_neg e,if_pos e2]
   rfl
  ·simp only [if_neg e,if_neg e2]
theorem plain_fn3 (n:Nat) (f g h:Nat→Int):PlainE n (.fn fun i=>[SV.i .i64 (f i),SV.i .i64 (g i),SV.i .i64 (h i)]):=by
 intro i _ y hy
 simp only [El.at,List.mem_cons,List.not_mem_nil,or_false]at hy
 rcases hy with rfl | rfl | rfl<;>trivial
theorem plain_up3 (n:Nat) (f g h:Nat→Int) (j:Nat) (a b c:Int):PlainE n (updL (El.fn fun i=>[SV.i .i64 (f i),SV.i .i64 (g i),SV.i .i64 (h i)]) j 0 [SV.i .i64 a,SV.i .i64 b,SV.i .i64 c]):=by
 intro i _ y hy
 simp only [updL,El.at]at hy
 by_cases e:i=j
 ·simp only [if_pos e]at hy
  have hy:y∈[SV.i .i64 a,SV.i .i64 b,SV.i .i64 c]:=hy
  simp only [List.mem_cons,List.not_mem_nil,or_false]at hy
  rcases hy with rfl | rfl | rfl<;>trivial
 ·simp only [if_neg e,List.mem_cons,List.not_mem_nil,or_false]at hy
  rcases hy with rfl | rfl | rfl<;>trivial
theorem up3_len (f g h:Nat→Int) (j k:Nat) (a b c:Int):((updL (El.fn fun i=>[SV.i .i64 (f i),SV.i .i64 (g i),SV.i .i64 (h i)]) j 0 [SV.i .i64 a,SV.i .i64 b,SV.i .i64 c]).at k).length=3:=by
 simp only [updL,El.at]
 by_cases e:k=j
 ·simp only [if_pos e]
  rfl
 ·simp only [if_neg e]
  rfl
theorem cS_is {d:Int} {A:Rows} (h:ShOk d A) (i:Nat):cS d A i=cFl d A i+(if cK d A i < cL d A then 1 else 0):=by
 have h0:cN A≠0:=h.z
 unfold cS shr
 rw [if_neg h0]
 rfl
theorem cS_upd {d:Int} {A:Rows} {b i j:Nat} {z:Int} (hb:b < A.length) (hi:i < A.length) (e:cK d A b=j) (hz:z=cS d A b):(updL (El.fn fun i=>[SV.i .i64 (if cK d A i < j then cS d A i else 0)]) b 0 [SV.i .i64 z]).at i=(El.fn fun i=>[SV.i .i64 (if cK d A i < ((j+1:Nat):Int)then cS d A i else 0)]).at i:=by
 simp only [updL,El.at]
 by_cases h:i=b
 ·have n2:cK d A b < ((j+1:Nat):Int):=by omega
  rw [if_pos h,h]
  show [SV.i .i64 z]=[SV.i .i64 (if cK d A b < ((j+1:Nat):Int)then cS d A b else 0)]
  rw [if_pos n2,hz]
 ·rw [if_neg h]
  by_cases e2:cK d A i < j
  ·have n1:cK d A i < ((j+1:Nat):Int):=by omega
   rw [if_pos e2,if_pos n1]
  ·have n1:¬ cK d A i < ((j+1:Nat):Int):=fun h1=>h (cK_inj (d:=d) hi hb (by omega))
   rw [if_neg e2,if_neg n1]
noncomputable def F_isNaN:Fn0:=⟨93,[i64],fun _=>True,fun l=>match l with | [.z a]=>.p False | _=>.v undef⟩
noncomputable def A_isNaN:List SV→List Dat→Nat→List SV→Ann:=fun _ _ _ _=>noAnn
def V_isNaN:Prop:=
 ∀(B:RW) (a:Int),True→Ob (¬a=a↔False)∧True
set_option linter.unusedSimpArgs false in
set_option maxRecDepth 4000 in
set_option maxHeartbeats 400000 in
theorem v_isNaN:V_isNaN:=by
 unfold V_isNaN
 intros
 simp only [Ob_iff,and_true,not_true_eq_false]
theorem e_isNaN:V_isNaN=needF P [] A_isNaN F_isNaN:=by kernel_rfl
theorem n_isNaN:Ob (needF P [] A_isNaN F_isNaN):=by
 rw [← e_isNaN]
 exact⟨v_isNaN⟩
theorem b_isNaN:((P.funcs[93]?).any fun fn=>fn.body.isSome)=true:=by kernel_rfl
theorem isNaN_ok:Fn0.Ok P F_isNaN:=Fn0.ok named (l:=[]) (A:=A_isNaN) (by rfl) (by
 intro F h; simp at h) b_isNaN (by
 intro ds N
 simp only [F_isNaN]
 split<;>rfl) n_isNaN
noncomputable def F_cmp:Fn0:=⟨88,[i64,i64],fun _=>True,fun l=>match l with | [.z a,.z b]=>.i .i64 (if a < b then -1 else if b < a then 1 else 0) | _=>.v undef⟩
noncomputable def A_cmp:List SV→List Dat→Nat→List SV→Ann:=fun _ _ _ _=>noAnn
def V_cmp:Prop:=
 ∀(B:RW) (b a:Int),True→Ob True∧Ob True∧(False→(False→Ob ((0:Int)=if b < a then (-1:Int)else if a < b then (1:Int)else (0:Int))∧True)∧(¬False→Ob ((-1:Int)=if b < a then (-1:Int)else if a < b then (1:Int)else (0:Int))∧True))∧(¬False→(False→Ob ((1:Int)=if b < a then (-1:Int)else if a < b then (1:Int)else (0:Int))∧True)∧(¬False→(b < a→Ob ((-1:Int)=if b < a then (-1:Int)else if a < b then (1:Int)else (0:Int))∧True)∧(¬b < a→(a < b→Ob ((1:Int)=if b < a then (-1:Int)else if a < b then (1:Int)else (0:Int))∧True)∧(¬a < b→Ob ((0:Int)=if b < a then (-1:Int)else if a < b then (1:Int)else (0:Int))∧True))))
set_option linter.unusedSimpArgs false in
set_option maxRecDepth 4000 in
set_option maxHeartbeats 400000 in
theorem v_cmp:V_cmp:=by
 unfold V_cmp
 intro B a b _
 simp only [Ob_iff,and_true,true_and,not_false_eq_true,true_implies,false_implies]
 refine⟨fun h=>?_,fun h=>⟨fun h2=>?_,fun h2=>?_⟩⟩
 ·rw [if_pos h]
 ·rw [if_neg h,if_pos h2]
 ·rw [if_neg h,if_neg h2]
theorem e_cmp:V_cmp=needF P [F_isNaN] A_cmp F_cmp:=by kernel_rfl
theorem n_cmp:Ob (needF P [F_isNaN] A_cmp F_cmp):=by
 rw [← e_cmp]
 exact⟨v_cmp⟩
theorem b_cmp:((P.funcs[88]?).any fun fn=>fn.body.isSome)=true:=by kernel_rfl
theorem cmp_ok:Fn0.Ok P F_cmp:=Fn0.ok named (l:=[F_isNaN]) (A:=A_cmp) (by rfl) (by
 intro F h
 simp only [List.mem_cons,List.not_mem_nil,or_false]at h
 rcases h with rfl
 ·exact isNaN_ok
) b_cmp (by
 intro ds N
 simp only [F_cmp]
 split<;>rfl) n_cmp
noncomputable def F_restC:Fn0:=⟨69,[.agg [.i .i64,.i .i64,.i .i64]],fun _=>True,fun l=>match l with | [.z a,.z b,.z c]=>.i .i64 c | _=>.v undef⟩
noncomputable def A_restC:List SV→List Dat→Nat→List SV→Ann:=fun _ _ _ _=>noAnn
def V_restC:Prop:=
 ∀(B:RW) (c b a:Int),True→Ob (a=a)∧True
set_option linter.unusedSimpArgs false in
set_option maxRecDepth 4000 in
set_option maxHeartbeats 400000 in
theorem v_restC:V_restC:=by
 unfold V_restC
 intros
 exact⟨⟨rfl⟩,trivial⟩
theorem e_restC:V_restC=needF P [] A_restC F_restC:=by kernel_rfl
theorem n_restC:Ob (needF P [] A_restC F_restC):=by
 rw [← e_restC]
 exact⟨v_restC⟩
theorem b_restC:((P.funcs[69]?).any fun fn=>fn.body.isSome)=true:=by kernel_rfl
theorem restC_ok:Fn0.Ok P F_restC:=Fn0.ok named (l:=[]) (A:=A_restC) (by rfl) (by
 intro F h; simp at h) b_restC (by
 intro ds N
 simp only [F_restC]
 split<;>rfl) n_restC
noncomputable def C_sharesC:List Dat→Prop:=fun l=>match l with | [.z fee,.z itr,.z pri,.z cre,.l A,.z till,.z d]=>idl A | _=>False
noncomputable def F_sharesC:FnE:=⟨46,none,[.agg [.i .i64,.i .i64,.i .i64,.i .i64,.l [.i64,.i64,.i64],.i .i64],i64],fun l=>match l with | [.z fee,.z itr,.z pri,.z cre,.l A,.z till,.z d]=>coopErr fee itr pri cre A till=0∧mny d | _=>False,fun l=>match l with | [.z fee,.z itr,.z pri,.z cre,.l A,.z till,.z d]=>[.gsl 0 A.length 1 false,.v (.int .i64 0)] | _=>[],fun l=>match l with | [.z fee,.z itr,.z pri,.z cre,.l A,.z till,.z d]=>[.gr A.length 1 (.fn fun i=>[.i .i64 (cS d A i)]) .ex false] | _=>[],fun l=>match l with | [.z fee,.z itr,.z pri,.z cre,.l A,.z till,.z d]=>[] | _=>[],false,some ⟨C_sharesC,isNil,fun l=>match l with | [.z fee,.z itr,.z pri,.z cre,.l A,.z till,.z d]=>[.v (.slice none 0 0),.v (.int .i64 6)] | _=>[],fun l=>match l with | [.z fee,.z itr,.z pri,.z cre,.l A,.z till,.z d]=>[] | _=>[],fun l=>match l with | [.z fee,.z itr,.z pri,.z cre,.l A,.z till,.z d]=>[] | _=>[]⟩,none⟩
noncomputable def A_sharesC:List SV→List Dat→Nat→List SV→Ann:=fun xs ds n ts=>match xs with
 | [.agg [_,_,_,_,.lst x _ _ _,_],.i _ _]=>match ds with
  | [.z fee,.z itr,.z pri,.z cre,.l A,.z till,.z d]=>match n with
   | 7=>⟨Nat,fun k=>([none,some (SV.i IntKind.i64 d),none,none,some (SV.v (Value.slice none ((0:Nat)) ((0:Nat)))),some (SV.v (Value.int IntKind.i64 (0:Int))),some (.i .i64 (colS 2 A A.length)),some (.gsl 3 k 3 true),some (.i .i64 (d-sumF (cFl d A) k))]++nN 13++[some (.gsl 2 A.length 1 true),some (.i .i64 (A.length:Nat)),some (.i .i64 k)]++nN 51),fun k=>[.gr k 3 (.fn (Rv.elemOf [.i64,.i64,.i64] (shL d A k))) .gr true,.gr A.length 1 (.fn (Rv.elemOf [.i64] (colO 2 A A.length))) .gr true,.dead,SObj.cells [SV.i IntKind.i64 fee,SV.i IntKind.i64 itr,SV.i IntKind.i64 pri,SV.i IntKind.i64 cre,SV.lst x A.length ((3:Nat)) (Rv.elemOf [IntKind.i64,IntKind.i64,IntKind.i64] A),SV.i IntKind.i64 till] Kd.ex],fun k=>k≤A.length,fun k=>A.length-k,0⟩
   | 15=>⟨Jq,fun v=>([none,none,none,none,some (SV.v (Value.slice none ((0:Nat)) ((0:Nat)))),some (SV.v (Value.int IntKind.i64 (0:Int))),none,none,some (.i .i64 (cL d A)),none,none,none,some (.gsl 4 A.length 1 false)]++nN 41++[some (.gsl 3 A.length 3 true),some (.i .i64 (A.length:Nat)),some (.i .i64 (v.j:Nat))]++nN 19),fun v=>[SObj.cells [SV.v (Value.func (Fn.func ((69:Nat))) #[] #[])] Kd.ex,.gr A.length 1 (.fn fun i=>[.i .i64 (if cK d A i < v.j then cS d A i else 0)]) .ex false,.gr A.length 3 (.fn fun q=>[.i .i64 (v.D q:Nat),.i .i64 (cFl d A (v.D q)),.i .i64 (cR d A (v.D q))]) .gr true,SObj.gr A.length ((1:Nat)) (El.fn (Rv.elemOf [IntKind.i64] (colO ((2:Nat)) A A.length))) Kd.gr true,SObj.dead,SObj.cells [SV.i IntKind.i64 fee,SV.i IntKind.i64 itr,SV.i IntKind.i64 pri,SV.i IntKind.i64 cre,SV.lst x A.length ((3:Nat)) (Rv.elemOf [IntKind.i64,IntKind.i64,IntKind.i64] A),SV.i IntKind.i64 till] Kd.ex],fun v=>v.j≤A.length∧Rkd d A v.D,fun v=>A.length-v.j,0⟩
   | _=>noAnn
  | _=>noAnn
 | _=>noAnn
noncomputable def A_sharesC_1:List SV→List Dat→List SV→List SObj→Nat→List SV→Ann:=fun _ _ _ _ _ _=>noAnn
noncomputable def A_sharesC_2:List SV→List Dat→List SV→List SObj→Nat→List SV→Ann:=fun _ _ _ _ _ _=>noAnn
noncomputable def A_sharesC_3:List SV→List Dat→List SV→List SObj→Nat→List SV→Ann:=fun xs ds ar bs n ts=>match xs with
 | [.agg [_,_,_,_,.lst x _ _ _,_],.i _ _]=>match ds with
  | [.z fee,.z itr,.z pri,.z cre,.l A,.z till,.z d]=>match n with
   | 2=>⟨Unit,fun _=>[],fun _=>[],fun _=>True,fun _=>0,1⟩
   | 7=>⟨Unit,fun _=>[],fun _=>[],fun _=>True,fun _=>0,1⟩
   | 9=>⟨Unit,fun _=>[],fun _=>[],fun _=>True,fun _=>0,1⟩
   | _=>noAnn
  | _=>noAnn
 | _=>noAnn
noncomputable def A_sharesC_4:List SV→List Dat→List SV→List SObj→Nat→List SV→Ann:=fun xs ds ar bs n ts=>match xs with
 | [.agg [_,_,_,_,.lst x _ _ _,_],.i _ _]=>match ds with
  | [.z fee,.z itr,.z pri,.z cre,.l A,.z till,.z d]=>match n with
   | 1=>⟨Iq,fun v=>([some (.gsl 3 A.length 3 true),some (SV.v (Value.int IntKind.i64 (0:Int))),some (.i .i64 (A.length:Nat)),some (SV.fv ((87:Nat)) [(5:Nat)]),none,none,none,none,some (.i .i64 (v.i:Nat))]++nN 44),fun v=>[SObj.cells [SV.v (Value.func (Fn.func ((69:Nat))) #[] #[])] Kd.ex,.gr A.length 1 (.fn fun i=>[.i .i64 (0)]) .ex false,.gr A.length 3 (.fn fun q=>[.i .i64 (v.D q:Nat),.i .i64 (cFl d A (v.D q)),.i .i64 (cR d A (v.D q))]) .gr true,SObj.gr A.length ((1:Nat)) (El.fn (Rv.elemOf [IntKind.i64] (colO ((2:Nat)) A A.length))) Kd.gr true,SObj.dead,SObj.cells [SV.i IntKind.i64 fee,SV.i IntKind.i64 itr,SV.i IntKind.i64 pri,SV.i IntKind.i64 cre,SV.lst x A.length ((3:Nat)) (Rv.elemOf [IntKind.i64,IntKind.i64,IntKind.i64] A),SV.i IntKind.i64 till] Kd.ex],fun v=>1≤v.i∧v.i≤A.length∧Srt (cR d A) v.D v.i A.length,fun v=>A.length-v.i,0⟩
   | 4=>(match lget ts 8 with | some (SV.i _ r8)=>⟨Jq,fun v=>([some (SV.gsl ((3:Nat)) A.length ((3:Nat)) true),some (SV.v (Value.int IntKind.i64 (0:Int))),some (SV.i IntKind.i64 (↑A.length:Int)),some (SV.fv ((87:Nat)) [(5:Nat)]),none,none,none,none,some (SV.i .i64 r8),some (.i .i64 (v.j:Nat))]++nN 43),fun v=>[SObj.cells [SV.v (Value.func (Fn.func ((69:Nat))) #[] #[])] Kd.ex,.gr A.length 1 (.fn fun i=>[.i .i64 (0)]) .ex false,.gr A.length 3 (.fn fun q=>[.i .i64 (v.D q:Nat),.i .i64 (cFl d A (v.D q)),.i .i64 (cR d A (v.D q))]) .gr true,SObj.gr A.length ((1:Nat)) (El.fn (Rv.elemOf [IntKind.i64] (colO ((2:Nat)) A A.length))) Kd.gr true,SObj.dead,SObj.cells [SV.i IntKind.i64 fee,SV.i IntKind.i64 itr,SV.i IntKind.i64 pri,SV.i IntKind.i64 cre,SV.lst x A.length ((3:Nat)) (Rv.elemOf [IntKind.i64,IntKind.i64,IntKind.i64] A),SV.i IntKind.i64 till] Kd.ex],fun v=>0≤r8∧Ins (cR d A) v.D v.j r8.toNat A.length,fun v=>v.j,0⟩ | _=>noAnn)
   | _=>noAnn
  | _=>noAnn
 | _=>noAnn
noncomputable def A_sharesC_5:List SV→List Dat→List SV→List SObj→Nat→List SV→Ann:=fun _ _ _ _ _ _=>noAnn
noncomputable def I_sharesC:List SV→List Dat→List In:=fun xs ds=>[⟨68,A_sharesC_1 xs ds⟩,⟨86,A_sharesC_2 xs ds⟩,⟨92,A_sharesC_3 xs ds⟩,⟨94,A_sharesC_4 xs ds⟩,⟨87,A_sharesC_5 xs ds⟩]
set_option maxRecDepth 10000 in
def V_sharesC:Prop:=
 ∀(B:RW) (k l n m:Int) (i:RV) (a:List (List Int)),IsLst B i a.length 3 (Rv.elemOf I3 a)→oneB i=true→(∀row∈a,row.length=3)→∀(j c:Int),F_sharesC.pre ([Dat.z k,Dat.z l,Dat.z n,Dat.z m,Dat.l a,Dat.z j]++([Dat.z c]++[]))→RwB B i a.length 3 I3 a fun q=>Ob (F_each.pre ([Dat.z k,Dat.z l,Dat.z n,Dat.z m,Dat.l q,Dat.z j]++[Dat.z (Int.ofNat 67)]))∧RwA q.length q.length 1 [.i64] ((El.fn (Rv.elemOf [.i64] (colO 2 q q.length))).at) fun o=>Ob (o.length≤100∧∀(g:Nat),g < o.length→(-1000000000000000:Int)≤cell o g 0∧cell o g 0≤(1000000000000000:Int))∧(totTo o o.length=(0:Int)→Ob (C_sharesC ([Dat.z k,Dat.z l,Dat.z n,Dat.z m,Dat.l a,Dat.z j]++([Dat.z c]++[])))∧Ob (SV.v (Value.slice none 0 0)=SV.v (Value.slice none 0 0))∧Ob (Value.int .i64 (6:Int)=Value.int .i64 (6:Int))∧True)∧(¬totTo o o.length=(0:Int)→RwB B i a.length 3 I3 a fun p=>Ob (F_each.pre ([Dat.z k,Dat.z l,Dat.z n,Dat.z m,Dat.l p,Dat.z j]++[Dat.z (Int.ofNat 67)]))∧(∃(h:Nat),Ob (h≤a.length)∧Ob (c=c)∧Ob (SV.v (Value.slice none 0 0)=SV.v (Value.slice none 0 0))∧Ob (Value.int .i64 (0:Int)=Value.int .i64 (0:Int))∧Ob (totTo o o.length=colS 2 a a.length)∧Ob (h=(0:Nat))∧Ob (c=c-sumF (cFl c a) h)∧Ob (p.length=a.length)∧Ob ((↑p.length:Int)=(↑a.length:Int))∧Ob ((0:Int)=(↑h:Int))∧Ob (h=(0:Nat))∧EqA p.length a.length (El.fn (Rv.elemOf [.i64] (colO 2 p p.length))) (El.fn (Rv.elemOf [.i64] (colO 2 a a.length)))∧Ob (k=k)∧Ob (l=l)∧Ob (n=n)∧Ob (m=m)∧Ob (SV.lst i a.length 3 (Rv.elemOf I3 a)=SV.lst i a.length 3 (Rv.elemOf I3 a))∧Ob (j=j)∧Ob (PlainE h (El.fn (Rv.elemOf I3 (shL c a h))))∧Ob (PlainE a.length (El.fn (Rv.elemOf [.i64] (colO 2 a a.length))))∧LsA B i I3 a∧True)∧∀(h:Nat),h≤a.length→∀(_ _ _ _ _ _ _ _ _ _ _ _ _ _ _ _ _ _ _ _ _ _ _ _ _ _ _ _ _ _ _ _ _ _ _ _ _ _ _ _ _ _ _ _ _ _ _ _ _ _ _ _ _ _ _ _ _ _ _ _ _ _ _ _ _ _ _:Value),((↑h:Int) < (↑a.length:Int)→Ob ((0:Int)≤(↑h:Int)∧h < a.length)∧Ob (h < a.length)∧Ob (InR .i64 (c*cell (colO 2 a a.length) h 0))∧Ob ((0:Int) < colS 2 a a.length∧InR .i64 ((c*cell (colO 2 a a.length) h 0).tdiv (colS 2 a a.length)))∧Ob (InR .i64 (c*cell (colO 2 a a.length) h 0))∧Ob ((0:Int) < colS 2 a a.length∧InR .i64 ((c*cell (colO 2 a a.length) h 0).tmod (colS 2 a a.length)))∧Ob (InR .i64 (c-sumF (cFl c a) h-(c*cell (colO 2 a a.length) h 0).tdiv (colS 2 a a.length)))∧Ob (h=h∧∀(g:Nat),g < h→((El.fn (Rv.elemOf I3 (shL c a h))).at g).length=(3:Nat))∧Ob ((h+(1:Nat))*(2:Nat)*(25:Nat)≤1099511627776)∧Ob (h=h)∧Ob (InR .i64 ((↑h:Int)+(1:Int)))∧∃(e:Nat),Ob (e≤a.length∧a.length-e < a.length-h)∧Ob (c=c)∧Ob (SV.v (Value.slice none 0 0)=SV.v (Value.slice none 0 0))∧Ob (Value.int .i64 (0:Int)=Value.int .i64 (0:Int))∧Ob (colS 2 a a.length=colS 2 a a.length)∧Ob (h+(1:Nat)=e)∧Ob (c-sumF (cFl c a) h-(c*cell (colO 2 a a.length) h 0).tdiv (colS 2 a a.length)=c-sumF (cFl c a) e)∧Ob (a.length=a.length)∧Ob ((↑a.length:Int)=(↑a.length:Int))∧Ob ((↑h:Int)+(1:Int)=(↑e:Int))∧EqA (h+(1:Nat)) e (behind h (El.fn (Rv.elemOf I3 (shL c a h))) 1 (litEl (symL [SV.i .i64 (↑h:Int),SV.i .i64 ((c*cell (colO 2 a a.length) h 0).tdiv (colS 2 a a.length)),SV.i .i64 ((c*cell (colO 2 a a.length) h 0).tmod (colS 2 a a.length))]) 3 1)) (El.fn (Rv.elemOf I3 (shL c a e)))∧EqA a.length a.length (El.fn (Rv.elemOf [.i64] (colO 2 a a.length))) (El.fn (Rv.elemOf [.i64] (colO 2 a a.length)))∧Ob (k=k)∧Ob (l=l)∧Ob (n=n)∧Ob (m=m)∧Ob (SV.lst i a.length 3 (Rv.elemOf I3 a)=SV.lst i a.length 3 (Rv.elemOf I3 a))∧Ob (j=j)∧Ob (PlainE e (El.fn (Rv.elemOf I3 (shL c a e))))∧Ob (PlainE a.length (El.fn (Rv.elemOf [.i64] (colO 2 a a.length))))∧LsA B i I3 a∧True)∧(¬(↑h:Int) < (↑a.length:Int)→Ob ((↑h:Int)=(↑h:Int)∧(0:Int)≤(↑h:Int)∧h*(9:Nat)≤1099511627776)∧((20:Int)≤(↑h:Int)→(∃(f:Iq),Ob ((1:Nat)≤f.i∧f.i≤a.length∧Srt (cR c a) f.D f.i a.length)∧Ob (h=a.length)∧Ob (Value.int .i64 (0:Int)=Value.int .i64 (0:Int))∧Ob ((20:Int)=(↑a.length:Int))∧Ob (Int.ofNat 1=(↑f.i:Int))∧Ob (SV.v (Value.func (Fn.func 69) #[] #[])=SV.v (Value.func (Fn.func 69) #[] #[]))∧EqA h a.length (El.fn fun(i:Nat)↦symL (List.map SV.v (Value.int .i64 (0:Int)).cells.toList)) (El.fn fun(g:Nat)↦[SV.i .i64 (0:Int)])∧EqA h a.length (El.fn (Rv.elemOf I3 (shL c a h))) (El.fn fun(d:Nat)↦[SV.i .i64 (↑(f.D d):Int),SV.i .i64 (cFl c a (f.D d)),SV.i .i64 (cR c a (f.D d))])∧EqA a.length a.length (El.fn (Rv.elemOf [.i64] (colO 2 a a.length))) (El.fn (Rv.elemOf [.i64] (colO 2 a a.length)))∧Ob (k=k)∧Ob (l=l)∧Ob (n=n)∧Ob (m=m)∧Ob (SV.lst i a.length 3 (Rv.elemOf I3 a)=SV.lst i a.length 3 (Rv.elemOf I3 a))∧Ob (j=j)∧Ob (PlainE a.length (El.fn fun(g:Nat)↦[SV.i .i64 (0:Int)]))∧Ob (PlainE a.length (El.fn fun(d:Nat)↦[SV.i .i64 (↑(f.D d):Int),SV.i .i64 (cFl c a (f.D d)),SV.i .i64 (cR c a (f.D d))]))∧Ob (PlainE a.length (El.fn (Rv.elemOf [.i64] (colO 2 a a.length))))∧LsA B i I3 a∧True)∧∀(f:Iq),(1:Nat)≤f.i∧f.i≤a.length∧Srt (cR c a) f.D f.i a.length→∀(_ _ _ _ _ _ _ _ _ _ _ _ _ _ _ _ _ _ _ _ _ _ _ _ _ _ _ _ _ _ _ _ _ _ _ _ _ _ _ _ _ _ _ _ _ _ _ _:Value),((↑f.i:Int) < (↑a.length:Int)→(∃(b:Jq),Ob ((0:Int)≤(↑f.i:Int)∧Ins (cR c a) b.D b.j f.i a.length)∧Ob (a.length=a.length)∧Ob (Value.int .i64 (0:Int)=Value.int .i64 (0:Int))∧Ob ((↑a.length:Int)=(↑a.length:Int))∧Ob ((↑f.i:Int)=(↑f.i:Int))∧Ob ((↑f.i:Int)=(↑b.j:Int))∧Ob (SV.v (Value.func (Fn.func 69) #[] #[])=SV.v (Value.func (Fn.func 69) #[] #[]))∧EqA a.length a.length (El.fn fun(g:Nat)↦[SV.i .i64 (0:Int)]) (El.fn fun(g:Nat)↦[SV.i .i64 (0:Int)])∧EqA a.length a.length (El.fn fun(d:Nat)↦[SV.i .i64 (↑(f.D d):Int),SV.i .i64 (cFl c a (f.D d)),SV.i .i64 (cR c a (f.D d))]) (El.fn fun(d:Nat)↦[SV.i .i64 (↑(b.D d):Int),SV.i .i64 (cFl c a (b.D d)),SV.i .i64 (cR c a (b.D d))])∧EqA a.length a.length (El.fn (Rv.elemOf [.i64] (colO 2 a a.length))) (El.fn (Rv.elemOf [.i64] (colO 2 a a.length)))∧Ob (k=k)∧Ob (l=l)∧Ob (n=n)∧Ob (m=m)∧Ob (SV.lst i a.length 3 (Rv.elemOf I3 a)=SV.lst i a.length 3 (Rv.elemOf I3 a))∧Ob (j=j)∧Ob (PlainE a.length (El.fn fun(g:Nat)↦[SV.i .i64 (0:Int)]))∧Ob (PlainE a.length (El.fn fun(d:Nat)↦[SV.i .i64 (↑(b.D d):Int),SV.i .i64 (cFl c a (b.D d)),SV.i .i64 (cR c a (b.D d))]))∧Ob (PlainE a.length (El.fn (Rv.elemOf [.i64] (colO 2 a a.length))))∧LsA B i I3 a∧True)∧∀(b:Jq),(0:Int)≤(↑f.i:Int)∧Ins (cR c a) b.D b.j f.i a.length→∀(_ _ _ _ _ _ _ _ _ _ _ _ _ _ _ _ _ _ _ _ _ _ _ _ _ _ _ _ _ _ _ _ _ _ _ _ _ _ _ _ _ _ _ _ _ _ _:Value),((0:Int) < (↑b.j:Int)→Ob ((0:Int)≤(↑b.j:Int)∧b.j < a.length)∧Ob (b.j < a.length)∧Ob (InR .i64 ((↑b.j:Int)-(1:Int)))∧Ob ((0:Int)≤(↑b.j:Int)-(1:Int)∧((↑b.j:Int)-(1:Int)).toNat < a.length)∧Ob (((↑b.j:Int)-(1:Int)).toNat < a.length)∧Ob True∧Ob True∧Ob True∧((if cR c a (b.D ((↑b.j:Int)-(1:Int)).toNat) < cR c a (b.D b.j)then (-1:Int)else if cR c a (b.D b.j) < cR c a (b.D ((↑b.j:Int)-(1:Int)).toNat)then (1:Int)else (0:Int)) < (0:Int)→Ob (InR .i64 ((↑b.j:Int)-(1:Int)))∧Ob (InR .i64 ((↑b.j:Int)-(1:Int)))∧Ob ((0:Int)≤(↑b.j:Int)-(1:Int)∧((↑b.j:Int)-(1:Int)).toNat < a.length)∧Ob (((↑b.j:Int)-(1:Int)).toNat < a.length)∧Ob ((0:Int)≤(↑b.j:Int)∧b.j < a.length)∧Ob (b.j < a.length)∧Ob ((0:Int)≤(↑b.j:Int)∧b.j < a.length)∧Ob (b.j < a.length∧((El.fn fun(d:Nat)↦[SV.i .i64 (↑(b.D d):Int),SV.i .i64 (cFl c a (b.D d)),SV.i .i64 (cR c a (b.D d))]).at b.j).length=(3:Nat))∧Ob (PlainE a.length (updL (El.fn fun(d:Nat)↦[SV.i .i64 (↑(b.D d):Int),SV.i .i64 (cFl c a (b.D d)),SV.i .i64 (cR c a (b.D d))]) b.j 0 [SV.i .i64 (↑(b.D ((↑b.j:Int)-(1:Int)).toNat):Int),SV.i .i64 (cFl c a (b.D ((↑b.j:Int)-(1:Int)).toNat)),SV.i .i64 (cR c a (b.D ((↑b.j:Int)-(1:Int)).toNat))]))∧Ob ((0:Int)≤(↑b.j:Int)-(1:Int)∧((↑b.j:Int)-(1:Int)).toNat < a.length)∧Ob (((↑b.j:Int)-(1:Int)).toNat < a.length∧((updL (El.fn fun(d:Nat)↦[SV.i .i64 (↑(b.D d):Int),SV.i .i64 (cFl c a (b.D d)),SV.i .i64 (cR c a (b.D d))]) b.j 0 [SV.i .i64 (↑(b.D ((↑b.j:Int)-(1:Int)).toNat):Int),SV.i .i64 (cFl c a (b.D ((↑b.j:Int)-(1:Int)).toNat)),SV.i .i64 (cR c a (b.D ((↑b.j:Int)-(1:Int)).toNat))]).at ((↑b.j:Int)-(1:Int)).toNat).length=(3:Nat))∧Ob (InR .i64 ((↑b.j:Int)-(1:Int)))∧∃(e:Jq),Ob (((0:Int)≤(↑f.i:Int)∧Ins (cR c a) e.D e.j f.i a.length)∧e.j < b.j)∧Ob (a.length=a.length)∧Ob (Value.int .i64 (0:Int)=Value.int .i64 (0:Int))∧Ob ((↑a.length:Int)=(↑a.length:Int))∧Ob ((↑f.i:Int)=(↑f.i:Int))∧Ob ((↑b.j:Int)-(1:Int)=(↑e.j:Int))∧Ob (SV.v (Value.func (Fn.func 69) #[] #[])=SV.v (Value.func (Fn.func 69) #[] #[]))∧EqA a.length a.length (El.fn fun(g:Nat)↦[SV.i .i64 (0:Int)]) (El.fn fun(g:Nat)↦[SV.i .i64 (0:Int)])∧EqA a.length a.length (updL (updL (El.fn fun(d:Nat)↦[SV.i .i64 (↑(b.D d):Int),SV.i .i64 (cFl c a (b.D d)),SV.i .i64 (cR c a (b.D d))]) b.j 0 [SV.i .i64 (↑(b.D ((↑b.j:Int)-(1:Int)).toNat):Int),SV.i .i64 (cFl c a (b.D ((↑b.j:Int)-(1:Int)).toNat)),SV.i .i64 (cR c a (b.D ((↑b.j:Int)-(1:Int)).toNat))]) ((↑b.j:Int)-(1:Int)).toNat 0 [SV.i .i64 (↑(b.D b.j):Int),SV.i .i64 (cFl c a (b.D b.j)),SV.i .i64 (cR c a (b.D b.j))]) (El.fn fun(d:Nat)↦[SV.i .i64 (↑(e.D d):Int),SV.i .i64 (cFl c a (e.D d)),SV.i .i64 (cR c a (e.D d))])∧EqA a.length a.length (El.fn (Rv.elemOf [.i64] (colO 2 a a.length))) (El.fn (Rv.elemOf [.i64] (colO 2 a a.length)))∧Ob (k=k)∧Ob (l=l)∧Ob (n=n)∧Ob (m=m)∧Ob (SV.lst i a.length 3 (Rv.elemOf I3 a)=SV.lst i a.length 3 (Rv.elemOf I3 a))∧Ob (j=j)∧Ob (PlainE a.length (El.fn fun(g:Nat)↦[SV.i .i64 (0:Int)]))∧Ob (PlainE a.length (El.fn fun(d:Nat)↦[SV.i .i64 (↑(e.D d):Int),SV.i .i64 (cFl c a (e.D d)),SV.i .i64 (cR c a (e.D d))]))∧Ob (PlainE a.length (El.fn (Rv.elemOf [.i64] (colO 2 a a.length))))∧LsA B i I3 a∧True)∧(¬(if cR c a (b.D ((↑b.j:Int)-(1:Int)).toNat) < cR c a (b.D b.j)then (-1:Int)else if cR c a (b.D b.j) < cR c a (b.D ((↑b.j:Int)-(1:Int)).toNat)then (1:Int)else (0:Int)) < (0:Int)→Ob (InR .i64 ((↑f.i:Int)+(1:Int)))∧∃(e:Iq),Ob (((1:Nat)≤e.i∧e.i≤a.length∧Srt (cR c a) e.D e.i a.length)∧a.length-e.i < a.length-f.i)∧Ob (a.length=a.length)∧Ob (Value.int .i64 (0:Int)=Value.int .i64 (0:Int))∧Ob ((↑a.length:Int)=(↑a.length:Int))∧Ob ((↑f.i:Int)+(1:Int)=(↑e.i:Int))∧Ob (SV.v (Value.func (Fn.func 69) #[] #[])=SV.v (Value.func (Fn.func 69) #[] #[]))∧EqA a.length a.length (El.fn fun(g:Nat)↦[SV.i .i64 (0:Int)]) (El.fn fun(g:Nat)↦[SV.i .i64 (0:Int)])∧EqA a.length a.length (El.fn fun(d:Nat)↦[SV.i .i64 (↑(b.D d):Int),SV.i .i64 (cFl c a (b.D d)),SV.i .i64 (cR c a (b.D d))]) (El.fn fun(d:Nat)↦[SV.i .i64 (↑(e.D d):Int),SV.i .i64 (cFl c a (e.D d)),SV.i .i64 (cR c a (e.D d))])∧EqA a.length a.length (El.fn (Rv.elemOf [.i64] (colO 2 a a.length))) (El.fn (Rv.elemOf [.i64] (colO 2 a a.length)))∧Ob (k=k)∧Ob (l=l)∧Ob (n=n)∧Ob (m=m)∧Ob (SV.lst i a.length 3 (Rv.elemOf I3 a)=SV.lst i a.length 3 (Rv.elemOf I3 a))∧Ob (j=j)∧Ob (PlainE a.length (El.fn fun(g:Nat)↦[SV.i .i64 (0:Int)]))∧Ob (PlainE a.length (El.fn fun(d:Nat)↦[SV.i .i64 (↑(e.D d):Int),SV.i .i64 (cFl c a (e.D d)),SV.i .i64 (cR c a (e.D d))]))∧Ob (PlainE a.length (El.fn (Rv.elemOf [.i64] (colO 2 a a.length))))∧LsA B i I3 a∧True))∧(¬(0:Int) < (↑b.j:Int)→Ob (InR .i64 ((↑f.i:Int)+(1:Int)))∧∃(e:Iq),Ob (((1:Nat)≤e.i∧e.i≤a.length∧Srt (cR c a) e.D e.i a.length)∧a.length-e.i < a.length-f.i)∧Ob (a.length=a.length)∧Ob (Value.int .i64 (0:Int)=Value.int .i64 (0:Int))∧Ob ((↑a.length:Int)=(↑a.length:Int))∧Ob ((↑f.i:Int)+(1:Int)=(↑e.i:Int))∧Ob (SV.v (Value.func (Fn.func 69) #[] #[])=SV.v (Value.func (Fn.func 69) #[] #[]))∧EqA a.length a.length (El.fn fun(g:Nat)↦[SV.i .i64 (0:Int)]) (El.fn fun(g:Nat)↦[SV.i .i64 (0:Int)])∧EqA a.length a.length (El.fn fun(d:Nat)↦[SV.i .i64 (↑(b.D d):Int),SV.i .i64 (cFl c a (b.D d)),SV.i .i64 (cR c a (b.D d))]) (El.fn fun(d:Nat)↦[SV.i .i64 (↑(e.D d):Int),SV.i .i64 (cFl c a (e.D d)),SV.i .i64 (cR c a (e.D d))])∧EqA a.length a.length (El.fn (Rv.elemOf [.i64] (colO 2 a a.length))) (El.fn (Rv.elemOf [.i64] (colO 2 a a.length)))∧Ob (k=k)∧Ob (l=l)∧Ob (n=n)∧Ob (m=m)∧Ob (SV.lst i a.length 3 (Rv.elemOf I3 a)=SV.lst i a.length 3 (Rv.elemOf I3 a))∧Ob (j=j)∧Ob (PlainE a.length (El.fn fun(g:Nat)↦[SV.i .i64 (0:Int)]))∧Ob (PlainE a.length (El.fn fun(d:Nat)↦[SV.i .i64 (↑(e.D d):Int),SV.i .i64 (cFl c a (e.D d)),SV.i .i64 (cR c a (e.D d))]))∧Ob (PlainE a.length (El.fn (Rv.elemOf [.i64] (colO 2 a a.length))))∧LsA B i I3 a∧True))∧(¬(↑f.i:Int) < (↑a.length:Int)→False))∧(¬(20:Int)≤(↑h:Int)→(∃(f:Iq),Ob ((1:Nat)≤f.i∧f.i≤a.length∧Srt (cR c a) f.D f.i a.length)∧Ob (h=a.length)∧Ob (Value.int .i64 (0:Int)=Value.int .i64 (0:Int))∧Ob ((↑h:Int)=(↑a.length:Int))∧Ob (Int.ofNat 1=(↑f.i:Int))∧Ob (SV.v (Value.func (Fn.func 69) #[] #[])=SV.v (Value.func (Fn.func 69) #[] #[]))∧EqA h a.length (El.fn fun(i:Nat)↦symL (List.map SV.v (Value.int .i64 (0:Int)).cells.toList)) (El.fn fun(g:Nat)↦[SV.i .i64 (0:Int)])∧EqA h a.length (El.fn (Rv.elemOf I3 (shL c a h))) (El.fn fun(d:Nat)↦[SV.i .i64 (↑(f.D d):Int),SV.i .i64 (cFl c a (f.D d)),SV.i .i64 (cR c a (f.D d))])∧EqA a.length a.length (El.fn (Rv.elemOf [.i64] (colO 2 a a.length))) (El.fn (Rv.elemOf [.i64] (colO 2 a a.length)))∧Ob (k=k)∧Ob (l=l)∧Ob (n=n)∧Ob (m=m)∧Ob (SV.lst i a.length 3 (Rv.elemOf I3 a)=SV.lst i a.length 3 (Rv.elemOf I3 a))∧Ob (j=j)∧Ob (PlainE a.length (El.fn fun(g:Nat)↦[SV.i .i64 (0:Int)]))∧Ob (PlainE a.length (El.fn fun(d:Nat)↦[SV.i .i64 (↑(f.D d):Int),SV.i .i64 (cFl c a (f.D d)),SV.i .i64 (cR c a (f.D d))]))∧Ob (PlainE a.length (El.fn (Rv.elemOf [.i64] (colO 2 a a.length))))∧LsA B i I3 a∧True)∧∀(f:Iq),(1:Nat)≤f.i∧f.i≤a.length∧Srt (cR c a) f.D f.i a.length→∀(_ _ _ _ _ _ _ _ _ _ _ _ _ _ _ _ _ _ _ _ _ _ _ _ _ _ _ _ _ _ _ _ _ _ _ _ _ _ _ _ _ _ _ _ _ _ _ _:Value),((↑f.i:Int) < (↑a.length:Int)→(∃(b:Jq),Ob ((0:Int)≤(↑f.i:Int)∧Ins (cR c a) b.D b.j f.i a.length)∧Ob (a.length=a.length)∧Ob (Value.int .i64 (0:Int)=Value.int .i64 (0:Int))∧Ob ((↑a.length:Int)=(↑a.length:Int))∧Ob ((↑f.i:Int)=(↑f.i:Int))∧Ob ((↑f.i:Int)=(↑b.j:Int))∧Ob (SV.v (Value.func (Fn.func 69) #[] #[])=SV.v (Value.func (Fn.func 69) #[] #[]))∧EqA a.length a.length (El.fn fun(g:Nat)↦[SV.i .i64 (0:Int)]) (El.fn fun(g:Nat)↦[SV.i .i64 (0:Int)])∧EqA a.length a.length (El.fn fun(d:Nat)↦[SV.i .i64 (↑(f.D d):Int),SV.i .i64 (cFl c a (f.D d)),SV.i .i64 (cR c a (f.D d))]) (El.fn fun(d:Nat)↦[SV.i .i64 (↑(b.D d):Int),SV.i .i64 (cFl c a (b.D d)),SV.i .i64 (cR c a (b.D d))])∧EqA a.length a.length (El.fn (Rv.elemOf [.i64] (colO 2 a a.length))) (El.fn (Rv.elemOf [.i64] (colO 2 a a.length)))∧Ob (k=k)∧Ob (l=l)∧Ob (n=n)∧Ob (m=m)∧Ob (SV.lst i a.length 3 (Rv.elemOf I3 a)=SV.lst i a.length 3 (Rv.elemOf I3 a))∧Ob (j=j)∧Ob (PlainE a.length (El.fn fun(g:Nat)↦[SV.i .i64 (0:Int)]))∧Ob (PlainE a.length (El.fn fun(d:Nat)↦[SV.i .i64 (↑(b.D d):Int),SV.i .i64 (cFl c a (b.D d)),SV.i .i64 (cR c a (b.D d))]))∧Ob (PlainE a.length (El.fn (Rv.elemOf [.i64] (colO 2 a a.length))))∧LsA B i I3 a∧True)∧∀(b:Jq),(0:Int)≤(↑f.i:Int)∧Ins (cR c a) b.D b.j f.i a.length→∀(_ _ _ _ _ _ _ _ _ _ _ _ _ _ _ _ _ _ _ _ _ _ _ _ _ _ _ _ _ _ _ _ _ _ _ _ _ _ _ _ _ _ _ _ _ _ _:Value),((0:Int) < (↑b.j:Int)→Ob ((0:Int)≤(↑b.j:Int)∧b.j < a.length)∧Ob (b.j < a.length)∧Ob (InR .i64 ((↑b.j:Int)-(1:Int)))∧Ob ((0:Int)≤(↑b.j:Int)-(1:Int)∧((↑b.j:Int)-(1:Int)).toNat < a.length)∧Ob (((↑b.j:Int)-(1:Int)).toNat < a.length)∧Ob True∧Ob True∧Ob True∧((if cR c a (b.D ((↑b.j:Int)-(1:Int)).toNat) < cR c a (b.D b.j)then (-1:Int)else if cR c a (b.D b.j) < cR c a (b.D ((↑b.j:Int)-(1:Int)).toNat)then (1:Int)else (0:Int)) < (0:Int)→Ob (InR .i64 ((↑b.j:Int)-(1:Int)))∧Ob (InR .i64 ((↑b.j:Int)-(1:Int)))∧Ob ((0:Int)≤(↑b.j:Int)-(1:Int)∧((↑b.j:Int)-(1:Int)).toNat < a.length)∧Ob (((↑b.j:Int)-(1:Int)).toNat < a.length)∧Ob ((0:Int)≤(↑b.j:Int)∧b.j < a.length)∧Ob (b.j < a.length)∧Ob ((0:Int)≤(↑b.j:Int)∧b.j < a.length)∧Ob (b.j < a.length∧((El.fn fun(d:Nat)↦[SV.i .i64 (↑(b.D d):Int),SV.i .i64 (cFl c a (b.D d)),SV.i .i64 (cR c a (b.D d))]).at b.j).length=(3:Nat))∧Ob (PlainE a.length (updL (El.fn fun(d:Nat)↦[SV.i .i64 (↑(b.D d):Int),SV.i .i64 (cFl c a (b.D d)),SV.i .i64 (cR c a (b.D d))]) b.j 0 [SV.i .i64 (↑(b.D ((↑b.j:Int)-(1:Int)).toNat):Int),SV.i .i64 (cFl c a (b.D ((↑b.j:Int)-(1:Int)).toNat)),SV.i .i64 (cR c a (b.D ((↑b.j:Int)-(1:Int)).toNat))]))∧Ob ((0:Int)≤(↑b.j:Int)-(1:Int)∧((↑b.j:Int)-(1:Int)).toNat < a.length)∧Ob (((↑b.j:Int)-(1:Int)).toNat < a.length∧((updL (El.fn fun(d:Nat)↦[SV.i .i64 (↑(b.D d):Int),SV.i .i64 (cFl c a (b.D d)),SV.i .i64 (cR c a (b.D d))]) b.j 0 [SV.i .i64 (↑(b.D ((↑b.j:Int)-(1:Int)).toNat):Int),SV.i .i64 (cFl c a (b.D ((↑b.j:Int)-(1:Int)).toNat)),SV.i .i64 (cR c a (b.D ((↑b.j:Int)-(1:Int)).toNat))]).at ((↑b.j:Int)-(1:Int)).toNat).length=(3:Nat))∧Ob (InR .i64 ((↑b.j:Int)-(1:Int)))∧∃(e:Jq),Ob (((0:Int)≤(↑f.i:Int)∧Ins (cR c a) e.D e.j f.i a.length)∧e.j < b.j)∧Ob (a.length=a.length)∧Ob (Value.int .i64 (0:Int)=Value.int .i64 (0:Int))∧Ob ((↑a.length:Int)=(↑a.length:Int))∧Ob ((↑f.i:Int)=(↑f.i:Int))∧Ob ((↑b.j:Int)-(1:Int)=(↑e.j:Int))∧Ob (SV.v (Value.func (Fn.func 69) #[] #[])=SV.v (Value.func (Fn.func 69) #[] #[]))∧EqA a.length a.length (El.fn fun(g:Nat)↦[SV.i .i64 (0:Int)]) (El.fn fun(g:Nat)↦[SV.i .i64 (0:Int)])∧EqA a.length a.length (updL (updL (El.fn fun(d:Nat)↦[SV.i .i64 (↑(b.D d):Int),SV.i .i64 (cFl c a (b.D d)),SV.i .i64 (cR c a (b.D d))]) b.j 0 [SV.i .i64 (↑(b.D ((↑b.j:Int)-(1:Int)).toNat):Int),SV.i .i64 (cFl c a (b.D ((↑b.j:Int)-(1:Int)).toNat)),SV.i .i64 (cR c a (b.D ((↑b.j:Int)-(1:Int)).toNat))]) ((↑b.j:Int)-(1:Int)).toNat 0 [SV.i .i64 (↑(b.D b.j):Int),SV.i .i64 (cFl c a (b.D b.j)),SV.i .i64 (cR c a (b.D b.j))]) (El.fn fun(d:Nat)↦[SV.i .i64 (↑(e.D d):Int),SV.i .i64 (cFl c a (e.D d)),SV.i .i64 (cR c a (e.D d))])∧EqA a.length a.length (El.fn (Rv.elemOf [.i64] (colO 2 a a.length))) (El.fn (Rv.elemOf [.i64] (colO 2 a a.length)))∧Ob (k=k)∧Ob (l=l)∧Ob (n=n)∧Ob (m=m)∧Ob (SV.lst i a.length 3 (Rv.elemOf I3 a)=SV.lst i a.length 3 (Rv.elemOf I3 a))∧Ob (j=j)∧Ob (PlainE a.length (El.fn fun(g:Nat)↦[SV.i .i64 (0:Int)]))∧Ob (PlainE a.length (El.fn fun(d:Nat)↦[SV.i .i64 (↑(e.D d):Int),SV.i .i64 (cFl c a (e.D d)),SV.i .i64 (cR c a (e.D d))]))∧Ob (PlainE a.length (El.fn (Rv.elemOf [.i64] (colO 2 a a.length))))∧LsA B i I3 a∧True)∧(¬(if cR c a (b.D ((↑b.j:Int)-(1:Int)).toNat) < cR c a (b.D b.j)then (-1:Int)else if cR c a (b.D b.j) < cR c a (b.D ((↑b.j:Int)-(1:Int)).toNat)then (1:Int)else (0:Int)) < (0:Int)→Ob (InR .i64 ((↑f.i:Int)+(1:Int)))∧∃(e:Iq),Ob (((1:Nat)≤e.i∧e.i≤a.length∧Srt (cR c a) e.D e.i a.length)∧a.length-e.i < a.length-f.i)∧Ob (a.length=a.length)∧Ob (Value.int .i64 (0:Int)=Value.int .i64 (0:Int))∧Ob ((↑a.length:Int)=(↑a.length:Int))∧Ob ((↑f.i:Int)+(1:Int)=(↑e.i:Int))∧Ob (SV.v (Value.func (Fn.func 69) #[] #[])=SV.v (Value.func (Fn.func 69) #[] #[]))∧EqA a.length a.length (El.fn fun(g:Nat)↦[SV.i .i64 (0:Int)]) (El.fn fun(g:Nat)↦[SV.i .i64 (0:Int)])∧EqA a.length a.length (El.fn fun(d:Nat)↦[SV.i .i64 (↑(b.D d):Int),SV.i .i64 (cFl c a (b.D d)),SV.i .i64 (cR c a (b.D d))]) (El.fn fun(d:Nat)↦[SV.i .i64 (↑(e.D d):Int),SV.i .i64 (cFl c a (e.D d)),SV.i .i64 (cR c a (e.D d))])∧EqA a.length a.length (El.fn (Rv.elemOf [.i64] (colO 2 a a.length))) (El.fn (Rv.elemOf [.i64] (colO 2 a a.length)))∧Ob (k=k)∧Ob (l=l)∧Ob (n=n)∧Ob (m=m)∧Ob (SV.lst i a.length 3 (Rv.elemOf I3 a)=SV.lst i a.length 3 (Rv.elemOf I3 a))∧Ob (j=j)∧Ob (PlainE a.length (El.fn fun(g:Nat)↦[SV.i .i64 (0:Int)]))∧Ob (PlainE a.length (El.fn fun(d:Nat)↦[SV.i .i64 (↑(e.D d):Int),SV.i .i64 (cFl c a (e.D d)),SV.i .i64 (cR c a (e.D d))]))∧Ob (PlainE a.length (El.fn (Rv.elemOf [.i64] (colO 2 a a.length))))∧LsA B i I3 a∧True))∧(¬(0:Int) < (↑b.j:Int)→Ob (InR .i64 ((↑f.i:Int)+(1:Int)))∧∃(e:Iq),Ob (((1:Nat)≤e.i∧e.i≤a.length∧Srt (cR c a) e.D e.i a.length)∧a.length-e.i < a.length-f.i)∧Ob (a.length=a.length)∧Ob (Value.int .i64 (0:Int)=Value.int .i64 (0:Int))∧Ob ((↑a.length:Int)=(↑a.length:Int))∧Ob ((↑f.i:Int)+(1:Int)=(↑e.i:Int))∧Ob (SV.v (Value.func (Fn.func 69) #[] #[])=SV.v (Value.func (Fn.func 69) #[] #[]))∧EqA a.length a.length (El.fn fun(g:Nat)↦[SV.i .i64 (0:Int)]) (El.fn fun(g:Nat)↦[SV.i .i64 (0:Int)])∧EqA a.length a.length (El.fn fun(d:Nat)↦[SV.i .i64 (↑(b.D d):Int),SV.i .i64 (cFl c a (b.D d)),SV.i .i64 (cR c a (b.D d))]) (El.fn fun(d:Nat)↦[SV.i .i64 (↑(e.D d):Int),SV.i .i64 (cFl c a (e.D d)),SV.i .i64 (cR c a (e.D d))])∧EqA a.length a.length (El.fn (Rv.elemOf [.i64] (colO 2 a a.length))) (El.fn (Rv.elemOf [.i64] (colO 2 a a.length)))∧Ob (k=k)∧Ob (l=l)∧Ob (n=n)∧Ob (m=m)∧Ob (SV.lst i a.length 3 (Rv.elemOf I3 a)=SV.lst i a.length 3 (Rv.elemOf I3 a))∧Ob (j=j)∧Ob (PlainE a.length (El.fn fun(g:Nat)↦[SV.i .i64 (0:Int)]))∧Ob (PlainE a.length (El.fn fun(d:Nat)↦[SV.i .i64 (↑(e.D d):Int),SV.i .i64 (cFl c a (e.D d)),SV.i .i64 (cR c a (e.D d))]))∧Ob (PlainE a.length (El.fn (Rv.elemOf [.i64] (colO 2 a a.length))))∧LsA B i I3 a∧True))∧(¬(↑f.i:Int) < (↑a.length:Int)→((20:Int) < (↑h:Int)→(Int.ofNat 40≤(↑h:Int)→False)∧(¬Int.ofNat 40≤(↑h:Int)→(Int.ofNat 20 < (↑h:Int)→False)∧(¬Int.ofNat 20 < (↑h:Int)→False)))∧(¬(20:Int) < (↑h:Int)→(∃(b:Jq),Ob (b.j≤a.length∧Rkd c a b.D)∧Ob (SV.v (Value.slice none 0 0)=SV.v (Value.slice none 0 0))∧Ob (Value.int .i64 (0:Int)=Value.int .i64 (0:Int))∧Ob (c-sumF (cFl c a) h=cL c a)∧Ob (h=a.length)∧Ob (h=a.length)∧Ob ((↑h:Int)=(↑a.length:Int))∧Ob ((0:Int)=(↑b.j:Int))∧Ob (SV.v (Value.func (Fn.func 69) #[] #[])=SV.v (Value.func (Fn.func 69) #[] #[]))∧EqA a.length a.length (El.fn fun(g:Nat)↦[SV.i .i64 (0:Int)]) (El.fn fun(g:Nat)↦[SV.i .i64 (if cK c a g < (↑b.j:Int)then cS c a g else (0:Int))])∧EqA a.length a.length (El.fn fun(d:Nat)↦[SV.i .i64 (↑(f.D d):Int),SV.i .i64 (cFl c a (f.D d)),SV.i .i64 (cR c a (f.D d))]) (El.fn fun(d:Nat)↦[SV.i .i64 (↑(b.D d):Int),SV.i .i64 (cFl c a (b.D d)),SV.i .i64 (cR c a (b.D d))])∧EqA a.length a.length (El.fn (Rv.elemOf [.i64] (colO 2 a a.length))) (El.fn (Rv.elemOf [.i64] (colO 2 a a.length)))∧Ob (k=k)∧Ob (l=l)∧Ob (n=n)∧Ob (m=m)∧Ob (SV.lst i a.length 3 (Rv.elemOf I3 a)=SV.lst i a.length 3 (Rv.elemOf I3 a))∧Ob (j=j)∧Ob (PlainE a.length (El.fn fun(g:Nat)↦[SV.i .i64 (if cK c a g < (↑b.j:Int)then cS c a g else (0:Int))]))∧Ob (PlainE a.length (El.fn fun(d:Nat)↦[SV.i .i64 (↑(b.D d):Int),SV.i .i64 (cFl c a (b.D d)),SV.i .i64 (cR c a (b.D d))]))∧Ob (PlainE a.length (El.fn (Rv.elemOf [.i64] (colO 2 a a.length))))∧LsA B i I3 a∧True)∧∀(b:Jq),b.j≤a.length∧Rkd c a b.D→∀(_ _ _ _ _ _ _ _ _ _ _ _ _ _ _ _ _ _ _ _ _ _ _ _ _ _ _ _ _ _ _ _ _ _ _ _ _ _ _ _ _ _ _ _ _ _ _ _ _ _ _ _ _ _ _ _ _ _ _ _ _ _ _ _ _ _ _ _ _:Value),((↑b.j:Int) < (↑a.length:Int)→Ob ((0:Int)≤(↑b.j:Int)∧b.j < a.length)∧Ob (b.j < a.length)∧((↑b.j:Int) < cL c a→Ob (InR .i64 (cFl c a (b.D b.j)+(1:Int)))∧Ob ((0:Int)≤(↑(b.D b.j):Int)∧b.D b.j < a.length)∧Ob (b.D b.j < a.length∧((El.fn fun(g:Nat)↦[SV.i .i64 (if cK c a g < (↑b.j:Int)then cS c a g else (0:Int))]).at (b.D b.j)).length=(1:Nat))∧Ob (InR .i64 ((↑b.j:Int)+(1:Int)))∧∃(e:Jq),Ob ((e.j≤a.length∧Rkd c a e.D)∧a.length-e.j < a.length-b.j)∧Ob (SV.v (Value.slice none 0 0)=SV.v (Value.slice none 0 0))∧Ob (Value.int .i64 (0:Int)=Value.int .i64 (0:Int))∧Ob (cL c a=cL c a)∧Ob (a.length=a.length)∧Ob (a.length=a.length)∧Ob ((↑a.length:Int)=(↑a.length:Int))∧Ob ((↑b.j:Int)+(1:Int)=(↑e.j:Int))∧Ob (SV.v (Value.func (Fn.func 69) #[] #[])=SV.v (Value.func (Fn.func 69) #[] #[]))∧EqA a.length a.length (updL (El.fn fun(g:Nat)↦[SV.i .i64 (if cK c a g < (↑b.j:Int)then cS c a g else (0:Int))]) (b.D b.j) 0 [SV.i .i64 (cFl c a (b.D b.j)+(1:Int))]) (El.fn fun(g:Nat)↦[SV.i .i64 (if cK c a g < (↑e.j:Int)then cS c a g else (0:Int))])∧EqA a.length a.length (El.fn fun(d:Nat)↦[SV.i .i64 (↑(b.D d):Int),SV.i .i64 (cFl c a (b.D d)),SV.i .i64 (cR c a (b.D d))]) (El.fn fun(d:Nat)↦[SV.i .i64 (↑(e.D d):Int),SV.i .i64 (cFl c a (e.D d)),SV.i .i64 (cR c a (e.D d))])∧EqA a.length a.length (El.fn (Rv.elemOf [.i64] (colO 2 a a.length))) (El.fn (Rv.elemOf [.i64] (colO 2 a a.length)))∧Ob (k=k)∧Ob (l=l)∧Ob (n=n)∧Ob (m=m)∧Ob (SV.lst i a.length 3 (Rv.elemOf I3 a)=SV.lst i a.length 3 (Rv.elemOf I3 a))∧Ob (j=j)∧Ob (PlainE a.length (El.fn fun(g:Nat)↦[SV.i .i64 (if cK c a g < (↑e.j:Int)then cS c a g else (0:Int))]))∧Ob (PlainE a.length (El.fn fun(d:Nat)↦[SV.i .i64 (↑(e.D d):Int),SV.i .i64 (cFl c a (e.D d)),SV.i .i64 (cR c a (e.D d))]))∧Ob (PlainE a.length (El.fn (Rv.elemOf [.i64] (colO 2 a a.length))))∧LsA B i I3 a∧True)∧(¬(↑b.j:Int) < cL c a→Ob ((0:Int)≤(↑(b.D b.j):Int)∧b.D b.j < a.length)∧Ob (b.D b.j < a.length∧((El.fn fun(g:Nat)↦[SV.i .i64 (if cK c a g < (↑b.j:Int)then cS c a g else (0:Int))]).at (b.D b.j)).length=(1:Nat))∧Ob (InR .i64 ((↑b.j:Int)+(1:Int)))∧∃(e:Jq),Ob ((e.j≤a.length∧Rkd c a e.D)∧a.length-e.j < a.length-b.j)∧Ob (SV.v (Value.slice none 0 0)=SV.v (Value.slice none 0 0))∧Ob (Value.int .i64 (0:Int)=Value.int .i64 (0:Int))∧Ob (cL c a=cL c a)∧Ob (a.length=a.length)∧Ob (a.length=a.length)∧Ob ((↑a.length:Int)=(↑a.length:Int))∧Ob ((↑b.j:Int)+(1:Int)=(↑e.j:Int))∧Ob (SV.v (Value.func (Fn.func 69) #[] #[])=SV.v (Value.func (Fn.func 69) #[] #[]))∧EqA a.length a.length (updL (El.fn fun(g:Nat)↦[SV.i .i64 (if cK c a g < (↑b.j:Int)then cS c a g else (0:Int))]) (b.D b.j) 0 [SV.i .i64 (cFl c a (b.D b.j))]) (El.fn fun(g:Nat)↦[SV.i .i64 (if cK c a g < (↑e.j:Int)then cS c a g else (0:Int))])∧EqA a.length a.length (El.fn fun(d:Nat)↦[SV.i .i64 (↑(b.D d):Int),SV.i .i64 (cFl c a (b.D d)),SV.i .i64 (cR c a (b.D d))]) (El.fn fun(d:Nat)↦[SV.i .i64 (↑(e.D d):Int),SV.i .i64 (cFl c a (e.D d)),SV.i .i64 (cR c a (e.D d))])∧EqA a.length a.length (El.fn (Rv.elemOf [.i64] (colO 2 a a.length))) (El.fn (Rv.elemOf [.i64] (colO 2 a a.length)))∧Ob (k=k)∧Ob (l=l)∧Ob (n=n)∧Ob (m=m)∧Ob (SV.lst i a.length 3 (Rv.elemOf I3 a)=SV.lst i a.length 3 (Rv.elemOf I3 a))∧Ob (j=j)∧Ob (PlainE a.length (El.fn fun(g:Nat)↦[SV.i .i64 (if cK c a g < (↑e.j:Int)then cS c a g else (0:Int))]))∧Ob (PlainE a.length (El.fn fun(d:Nat)↦[SV.i .i64 (↑(e.D d):Int),SV.i .i64 (cFl c a (e.D d)),SV.i .i64 (cR c a (e.D d))]))∧Ob (PlainE a.length (El.fn (Rv.elemOf [.i64] (colO 2 a a.length))))∧LsA B i I3 a∧True))∧(¬(↑b.j:Int) < (↑a.length:Int)→Ob ¬C_sharesC ([Dat.z k,Dat.z l,Dat.z n,Dat.z m,Dat.l a,Dat.z j]++([Dat.z c]++[]))∧Ob (a.length=a.length)∧Ob (Value.int .i64 (0:Int)=Value.int .i64 (0:Int))∧EqA a.length a.length (El.fn fun(g:Nat)↦[SV.i .i64 (if cK c a g < (↑b.j:Int)then cS c a g else (0:Int))]) (El.fn fun(g:Nat)↦[SV.i .i64 (cS c a g)])∧Ob (PlainE a.length (El.fn fun(g:Nat)↦[SV.i .i64 (cS c a g)]))∧True))))))
set_option linter.unusedSimpArgs false in
set_option maxRecDepth 4000 in
set_option maxHeartbeats 2000000 in
theorem v_sharesC:V_sharesC:=by
 unfold V_sharesC EqA I3 LsA RwA RwB
 intro B fee itr pri cre x A hx hox hrx till d hok
 have hok:coopErr fee itr pri cre A till=0∧mny d:=hok
 have hc0:=coop_ok hok.1
 have hd:=hok.2
 have hl:=hc0.l
 have hcA:∀i,i < A.length→0≤cell A i 2∧cell A i 2≤1000000000:=fun i hi=>(hc0.a i hi).2.2
 have cl:(colO 2 A A.length).length=A.length:=colO_len 2 A _
 have t2:totTo (colO 2 A A.length) (colO 2 A A.length).length=colS 2 A A.length:=by rw [cl,tot_col 2 A _ _ (Nat.le_refl _)]
 simp only [Ob_iff,and_true,true_and,implies_true,true_implies,not_true_eq_false,false_implies,forall_const,cmp_neg]
 refine⟨A,⟨hx,rfl,hrx,fun _ _=>rfl⟩,by show A.length≤4000000; omega,colO 2 A A.length,⟨cl,colO_row _ _ _,fun _ _=>rfl⟩,⟨by rw [cl]; omega,fun i hi=>by
  rw [cl]at hi
  rw [colO_cell 2 A hi]
  have:=hcA i hi
  omega⟩,fun h0=>?_,fun h0=>?_⟩
 ·have h0:colS 2 A A.length=0:=by rw [← t2]; exact h0
  exact(idl_zero hc0).2 h0
 have h0:¬ colS 2 A A.length=0:=by rw [← t2]; exact h0
 have hi:¬ idl A:=fun h=>h0 ((idl_zero hc0).1 h)
 have ok:=hc0.shr hd hi
 have sh:=ok.sh
 have hN:=ok.n.1
 have nb:=ok.n.2
 have hN2:0 < colS 2 A A.length:=hN
 have nb2:colS 2 A A.length≤12000000000:=nb
 have dd:0≤d∧d≤1000000000:=hd
 refine⟨A,⟨hx,rfl,hrx,fun _ _=>rfl⟩,by show A.length≤4000000; omega,⟨0,?_⟩,?_⟩
 ·repeat' (first | assumption | exact(show Int.ofNat 1=((1:Nat):Int)from rfl) | exact plain_elemOf _ _ _ | exact plain_fnD _ _ | exact plain_fn3 _ _ _ _ | (with_reducible rfl) | exact Nat.zero_le _ | exact t2 | exact st | exact up | exact fun _ _=>rfl | omega | (simp only [sumF]; omega) | with_reducible apply And.intro)
 intro k hk
 intros
 refine⟨fun h=>?_,fun h=>?_⟩
 ·have hk':k < A.length:=by omega
  have ec:cell (colO 2 A A.length) k 0=cell A k 2:=colO_cell 2 A hk'
  have c:=cFl_bd ok hk'
  have s:=sFl_bd ok (k:=k) (by omega)
  have s1:=sFl_bd ok (k:=k+1) hk'
  have e3:sumF (cFl d A) (k+1)=sumF (cFl d A) k+cFl d A k:=rfl
  have e1:(d*cell A k 2).tdiv (colS 2 A A.length)=cFl d A k:=by rw [Int.tdiv_eq_ediv_of_nonneg c.2.2.1]; rfl
  have e2:(d*cell A k 2).tmod (colS 2 A A.length)=cR d A k:=by rw [Int.tmod_eq_emod_of_nonneg c.2.2.1]; rfl
  have hr:0≤cR d A k∧cR d A k≤cN A-1:=sh.rstB k
  simp only [ec,e1,e2]
  refine⟨⟨by omega,hk'⟩,hk',by simp only [InR]; omega,⟨hN2,by simp only [InR]; omega⟩,by simp only [InR]; omega,⟨hN2,by simp only [InR]; omega⟩,by simp only [InR]; omega,?_,by omega,by simp only [InR]; omega,k+1,?_⟩
  ·repeat' (first | assumption | exact(show Int.ofNat 1=((1:Nat):Int)from rfl) | exact plain_elemOf _ _ _ | exact plain_fnD _ _ | exact plain_fn3 _ _ _ _ | (with_reducible rfl) | exact Nat.zero_le _ | exact t2 | exact st | exact up | exact fun _ _=>rfl | omega | (simp only [sumF]; omega) | with_reducible apply And.intro)
  ·have st:∀i,i < k+1→_=_:=fun i h=>shL_at d A (k:=k) (i:=i) h
   repeat' (first | assumption | exact(show Int.ofNat 1=((1:Nat):Int)from rfl) | exact plain_elemOf _ _ _ | exact plain_fnD _ _ | exact plain_fn3 _ _ _ _ | (with_reducible rfl) | exact Nat.zero_le _ | exact t2 | exact st | exact up | exact fun _ _=>rfl | omega | (simp only [sumF]; omega) | with_reducible apply And.intro)
 have ek:k=A.length:=by omega
 subst ek
 clear h hk
 refine⟨by omega,fun h20=>absurd h20 (by omega),fun _=>⟨⟨⟨1,fun q=>q⟩,?_⟩,?_⟩⟩
 ·have so:=srt_one (cR d A) A.length
  have st:∀i,i < A.length→_=_:=fun i h=>shL_el d A (n:=A.length) (i:=i) h
  repeat' (first | assumption | exact(show Int.ofNat 1=((1:Nat):Int)from rfl) | exact plain_elemOf _ _ _ | exact plain_fnD _ _ | exact plain_fn3 _ _ _ _ | (with_reducible rfl) | exact Nat.zero_le _ | exact t2 | exact st | exact up | exact fun _ _=>rfl | omega | (simp only [sumF]; omega) | with_reducible apply And.intro)
 intro v ⟨hi1,hi2,hs⟩
 intros
 refine⟨fun h1=>?_,fun h1=>?_⟩
 ·have h1:v.i < A.length:=by omega
  refine⟨⟨⟨v.i,v.D⟩,?_⟩,?_⟩
  ·have st:Ins (cR d A) v.D v.i v.i A.length:=hs.ins h1
   repeat' (first | assumption | exact(show Int.ofNat 1=((1:Nat):Int)from rfl) | exact plain_elemOf _ _ _ | exact plain_fnD _ _ | exact plain_fn3 _ _ _ _ | (with_reducible rfl) | exact Nat.zero_le _ | exact t2 | exact st | exact up | exact fun _ _=>rfl | omega | (simp only [sumF]; omega) | with_reducible apply And.intro)
  intro u ⟨hu1,hu⟩
  intros
  have hj1:=hu.ji
  have hj2:=hu.inn
  try simp only [Int.toNat_natCast]at hj1 hj2
  refine⟨fun h2=>?_,fun h2=>?_⟩
  ·have hj:0 < u.j:=by omega
   have et:((u.j:Int)-1).toNat=u.j-1:=by omega
   have l2:=hu.pl
   simp only [et,Int.toNat_natCast]at l2 ⊢
   refine⟨⟨by omega,by omega⟩,by omega,by simp only [InR]; omega,⟨by omega,by omega⟩,by omega,fun h3=>?_,fun h3=>?_⟩
   ·have st:=hu.step hj (by rw [l2]at h3; simpa using h3)
    have up:=fun i (_:i < A.length)=>swp_upd3 d A (D:=u.D) hj i
    refine⟨by simp only [InR]; omega,by simp only [InR]; omega,⟨by omega,by omega⟩,by omega,⟨by omega,by omega⟩,by omega,⟨by omega,by omega⟩,⟨by omega,rfl⟩,plain_up3 _ _ _ _ _ _ _ _,⟨by omega,by omega⟩,⟨by omega,up3_len _ _ _ _ _ _ _ _⟩,by simp only [InR]; omega,⟨u.j-1,swp u.D u.j⟩,?_⟩
    repeat' (first | assumption | exact(show Int.ofNat 1=((1:Nat):Int)from rfl) | exact plain_elemOf _ _ _ | exact plain_fnD _ _ | exact plain_fn3 _ _ _ _ | (with_reducible rfl) | exact Nat.zero_le _ | exact t2 | exact st | exact up | exact fun _ _=>rfl | omega | (simp only [sumF]; omega) | with_reducible apply And.intro)
   ·have st:=hu.done (.inr (by rw [l2]at h3; simpa using h3))
    try simp only [Int.toNat_natCast]at st
    refine⟨by simp only [InR]; omega,⟨v.i+1,u.D⟩,?_⟩
    repeat' (first | assumption | exact(show Int.ofNat 1=((1:Nat):Int)from rfl) | exact plain_elemOf _ _ _ | exact plain_fnD _ _ | exact plain_fn3 _ _ _ _ | (with_reducible rfl) | exact Nat.zero_le _ | exact t2 | exact st | exact up | exact fun _ _=>rfl | omega | (simp only [sumF]; omega) | with_reducible apply And.intro)
  ·have st:=hu.done (.inl (by omega))
   try simp only [Int.toNat_natCast]at st
   refine⟨by simp only [InR]; omega,⟨v.i+1,u.D⟩,?_⟩
   repeat' (first | assumption | exact(show Int.ofNat 1=((1:Nat):Int)from rfl) | exact plain_elemOf _ _ _ | exact plain_fnD _ _ | exact plain_fn3 _ _ _ _ | (with_reducible rfl) | exact Nat.zero_le _ | exact t2 | exact st | exact up | exact fun _ _=>rfl | omega | (simp only [sumF]; omega) | with_reducible apply And.intro)
 have ei:v.i=A.length:=by omega
 rw [ei]at hs
 refine⟨fun h=>absurd h (by omega),fun _=>⟨⟨⟨0,v.D⟩,?_⟩,?_⟩⟩
 ·have rk:=hs.rkd
  have z0:∀i,i < A.length→(El.fn fun(i:Nat)=>[SV.i .i64 0]).at i=(El.fn fun(i:Nat)=>[SV.i .i64 (if cK d A i < ((0:Nat):Int)then cS d A i else 0)]).at i:=fun i _=>by
   have:=cK_nn d A i
   show [SV.i .i64 0]=[SV.i .i64 (if cK d A i < ((0:Nat):Int)then cS d A i else 0)]
   rw [if_neg (by omega)]
  have le:d-sumF (cFl d A) A.length=cL d A:=rfl
  repeat' (first | assumption | exact(show Int.ofNat 1=((1:Nat):Int)from rfl) | exact plain_elemOf _ _ _ | exact plain_fnD _ _ | exact plain_fn3 _ _ _ _ | (with_reducible rfl) | exact Nat.zero_le _ | exact t2 | exact st | exact up | exact fun _ _=>rfl | omega | (simp only [sumF]; omega) | with_reducible apply And.intro)
 intro y ⟨hy1,hy2⟩
 intros
 refine⟨fun h5=>?_,fun h5=>?_⟩
 ·have hj:y.j < A.length:=by omega
  obtain⟨hD,hK⟩:=hy2 y.j hj
  have cb:=cFl_bd ok hD
  have is:=cS_is ok (y.D y.j)
  refine⟨⟨by omega,hj⟩,hj,fun h6=>?_,fun h6=>?_⟩
  ·have ez:cFl d A (y.D y.j)+1=cS d A (y.D y.j):=by rw [is,if_pos (by omega)]
   have up:=fun i (hi:i < A.length)=>cS_upd (i:=i) hD hi hK ez
   refine⟨by simp only [InR]; omega,⟨by omega,hD⟩,⟨hD,rfl⟩,by simp only [InR]; omega,⟨y.j+1,y.D⟩,?_⟩
   repeat' (first | assumption | exact(show Int.ofNat 1=((1:Nat):Int)from rfl) | exact plain_elemOf _ _ _ | exact plain_fnD _ _ | exact plain_fn3 _ _ _ _ | (with_reducible rfl) | exact Nat.zero_le _ | exact t2 | exact st | exact up | exact fun _ _=>rfl | omega | (simp only [sumF]; omega) | with_reducible apply And.intro)
  ·have ez:cFl d A (y.D y.j)=cS d A (y.D y.j):=by rw [is,if_neg (by omega)]; simp
   have up:=fun i (hi:i < A.length)=>cS_upd (i:=i) hD hi hK ez
   refine⟨⟨by omega,hD⟩,⟨hD,rfl⟩,by simp only [InR]; omega,⟨y.j+1,y.D⟩,?_⟩
   repeat' (first | assumption | exact(show Int.ofNat 1=((1:Nat):Int)from rfl) | exact plain_elemOf _ _ _ | exact plain_fnD _ _ | exact plain_fn3 _ _ _ _ | (with_reducible rfl) | exact Nat.zero_le _ | exact t2 | exact st | exact up | exact fun _ _=>rfl | omega | (simp only [sumF]; omega) | with_reducible apply And.intro)
 have ej:y.j=A.length:=by omega
 have fin:∀i,i < A.length→(El.fn fun(i:Nat)=>[SV.i .i64 (if cK d A i < (y.j:Int)then cS d A i else 0)]).at i=(El.fn fun(i:Nat)=>[SV.i .i64 (cS d A i)]).at i:=fun i h=>by
  have:cK d A i < (y.j:Int):=by
   have:=rk_n (R:=cR d A) h
   unfold cK
   omega
  show [SV.i .i64 (if cK d A i < (y.j:Int)then cS d A i else 0)]=[SV.i .i64 (cS d A i)]
  rw [if_pos this]
 refine⟨fun hc=>hi hc,?_⟩
 repeat' (first | assumption | exact(show Int.ofNat 1=((1:Nat):Int)from rfl) | exact plain_elemOf _ _ _ | exact plain_fnD _ _ | exact plain_fn3 _ _ _ _ | (with_reducible rfl) | exact Nat.zero_le _ | exact t2 | exact st | exact up | exact fun _ _=>rfl | omega | (simp only [sumF]; omega) | with_reducible apply And.intro)
theorem e_sharesC:V_sharesC=needEI P [F_sum,F_cmp,F_restC] [F_each] I_sharesC A_sharesC F_sharesC:=by kernel_rfl
theorem n_sharesC:Ob (needEI P [F_sum,F_cmp,F_restC] [F_each] I_sharesC A_sharesC F_sharesC):=by
 rw [← e_sharesC]
 exact⟨v_sharesC⟩
theorem b_sharesC:((P.funcs[46]?).any fun fn=>fn.body.isSome)=true:=by kernel_rfl
theorem sharesC_ok:FnE.Ok P F_sharesC:=FnE.okI named (l:=[F_sum,F_cmp,F_restC]) (es:=[F_each]) (I:=I_sharesC) (A:=A_sharesC) (by rfl) (by rfl) (by rfl) (by
 intro F h
 simp only [List.mem_cons,List.not_mem_nil,or_false]at h
 rcases h with rfl | rfl | rfl
 ·exact sum_ok
 ·exact cmp_ok
 ·exact restC_ok
) (by
 intro F h
 simp only [List.mem_cons,List.not_mem_nil,or_false]at h
 rcases h with rfl
 ·exact each_ok
) b_sharesC (by
 intro ds h o ho n sz e k z he
 subst he
 simp only [F_sharesC]at ho
 split at ho
 ·simp only [List.mem_cons,List.not_mem_nil,or_false,SObj.gr.injEq]at ho
  obtain⟨rfl,rfl,rfl,rfl,rfl⟩:=ho
  exact plain_fnD _ _
 ·simp at ho) n_sharesC (by
 intro a ha ds h hc o ho n sz e k z he
 have ha:some _=some a:=ha
 simp only [Option.some.injEq]at ha
 subst ha
 simp only at ho
 split at ho<;>simp at ho)
end Go.Proofs.Ytfebjikidfcbcaa.Sy
