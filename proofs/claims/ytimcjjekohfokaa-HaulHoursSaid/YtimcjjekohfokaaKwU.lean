import Derived.Test.YtimcjjekohfokaaSyP4
import Derived.Test.YtimcjjekohfokaaGrM
import Derived.Test.YtimcjjekohfokaaKtT
import Derived.Test.YtimcjjekohfokaaSyP2
import Derived.KernelRfl
import Derived.Test.YtimcjjekohfokaaProg
namespace Go.Proofs.Ytimcjjekohfokaa.Sy
open Go Go.Rv
set_option linter.unusedVariables false
def rowA (a:Int):Nat→Int
 | 0=>a
 | k+1=>belowA (rowA a k) ((k:Int)+1)
def rowP (a:Int) (k:Nat):Nat:=(belowV (rowA a k) ((k:Int)+1)).toNat
def rowR (a:Int):Nat→Rows
 | 0=>[]
 | k+1=>((rowR a k++[[(k:Int)]]).set k ((rowR a k++[[(k:Int)]]).getD (rowP a k) [])).set (rowP a k) ((rowR a k++[[(k:Int)]]).getD k [])
theorem rowR_len (a:Int):∀k,(rowR a k).length=k
 | 0=>rfl
 | k+1=>by simp [rowR,rowR_len a k]
theorem rowP_lt (a:Int) (k:Nat):rowP a k < k+1:=by
 have h:=belowV_in (rowA a k) ((k:Int)+1)
 unfold rowP
 omega
theorem rowR_perm (a:Int):∀k,(rowR a k).Perm ((List.range k).map fun i:Nat=>[(i:Int)])
 | 0=>.refl _
 | k+1=>by
  have h1:=rowR_len a k
  have h2:=rowP_lt a k
  have h3:k < (rowR a k++[[(k:Int)]]).length:=by simp [h1]
  have h4:rowP a k < (rowR a k++[[(k:Int)]]).length:=by simp [h1]; omega
  have h5:=@List.set_set_perm _ (rowR a k++[[(k:Int)]]) k (rowP a k) h3 h4
  simp only [rowR,List.getD_eq_getElem?_getD,List.getElem?_eq_getElem h3,List.getElem?_eq_getElem h4,Option.getD_some]
  refine h5.trans ?_
  rw [List.range_succ,List.map_append]
  exact(rowR_perm a k).append_right _
theorem getD_set_self {l:Rows} {i:Nat} (v:List Int) (h:i < l.length):(l.set i v).getD i []=v:=by
 rw [List.getD_eq_getElem?_getD,List.getElem?_set_self h]
 rfl
theorem getD_set_ne (l:Rows) {i p:Nat} (v:List Int) (h:¬ i=p):(l.set p v).getD i []=l.getD i []:=by
 rw [List.getD_eq_getElem?_getD,List.getElem?_set_ne (by omega),← List.getD_eq_getElem?_getD]
theorem getD_app {l m:Rows} {i:Nat} (h:i < l.length):(l++m).getD i []=l.getD i []:=by
 rw [List.getD_eq_getElem?_getD,List.getElem?_append_left h,← List.getD_eq_getElem?_getD]
theorem rowR_at (a:Int) (k:Nat) {i:Nat} (hi:i < k+1):cell (rowR a (k+1)) i 0=if i=rowP a k then (k:Int)else if i=k then (if rowP a k < k then cell (rowR a k) (rowP a k) 0 else (k:Int))else cell (rowR a k) i 0:=by
 have h1:=rowR_len a k
 have h2:=rowP_lt a k
 have e1:(rowR a k++[[(k:Int)]]).getD k []=[(k:Int)]:=by simp [List.getD_eq_getElem?_getD,h1]
 have e2:(rowR a k++[[(k:Int)]]).getD (rowP a k) []=if rowP a k < k then (rowR a k).getD (rowP a k) []else [(k:Int)]:=by
  split
  ·rename_i h
   simp only [List.getD_eq_getElem?_getD]
   rw [List.getElem?_append_left (by omega)]
  ·rename_i h
   have e:rowP a k=k:=by omega
   rw [e]
   exact e1
 unfold cell
 simp only [rowR,e1,e2]
 generalize rowP a k=p at *
 by_cases hp:i=p
 ·subst hp
  rw [if_pos rfl,getD_set_self _ (by simp [h1]; omega)]
  rfl
 ·rw [if_neg hp,getD_set_ne _ _ hp]
  by_cases hk:i=k
  ·subst hk
   rw [if_pos rfl,getD_set_self _ (by simp [h1])]
   split<;>rfl
  ·rw [if_neg hk,getD_set_ne _ _ hk,getD_app (by omega)]
theorem two_at {R:Rows} {k p i:Nat} {x y z:Int} (hR:R.length=k) (hi:i < k+1):(updL (updL (behind k (.fn (Rv.elemOf [.i64] R)) 1 (litEl [.i .i64 z] 1 1)) k 0 [.i .i64 x]) p 0 [.i .i64 y]).at i=[.i .i64 (if i=p then y else if i=k then x else cell R i 0)]:=by
 have e:∀i,i < k→(behind k (.fn (Rv.elemOf [.i64] R)) 1 (litEl [.i .i64 z] 1 1)).at i=[.i .i64 (cell R i 0)]:=fun i h=>by
  show(if i < k then [SV.i .i64 (cell R i 0)]else _)=_
  rw [if_pos h]
 have e0:(behind k (.fn (Rv.elemOf [.i64] R)) 1 (litEl [.i .i64 z] 1 1)).at k=[.i .i64 z]:=by
  show(if k < k then [SV.i .i64 (cell R k 0)]else [SV.i .i64 z])=_
  rw [if_neg (by omega)]
 have e1:∀i,i < k+1→(updL (behind k (.fn (Rv.elemOf [.i64] R)) 1 (litEl [.i .i64 z] 1 1)) k 0 [.i .i64 x]).at i=[.i .i64 (if i=k then x else cell R i 0)]:=fun i h=>by
  show(if i=k then ((behind k (.fn (Rv.elemOf [.i64] R)) 1 (litEl [.i .i64 z] 1 1)).at i).set 0 (.i .i64 x)else (behind k (.fn (Rv.elemOf [.i64] R)) 1 (litEl [.i .i64 z] 1 1)).at i)=_
  by_cases hk:i=k
  ·subst hk
   rw [if_pos rfl,if_pos rfl,e0]
   rfl
  ·rw [if_neg hk,if_neg hk,e i (by omega)]
 show(if i=p then ((updL (behind k (.fn (Rv.elemOf [.i64] R)) 1 (litEl [.i .i64 z] 1 1)) k 0 [.i .i64 x]).at i).set 0 (.i .i64 y)else (updL (behind k (.fn (Rv.elemOf [.i64] R)) 1 (litEl [.i .i64 z] 1 1)) k 0 [.i .i64 x]).at i)=_
 by_cases hp:i=p
 ·rw [if_pos hp,if_pos hp,e1 i hi]
  rfl
 ·rw [if_neg hp,if_neg hp,e1 i hi]
theorem one_at {R:Rows} {k i:Nat} {x z:Int} (hi:i < k+1):(updL (behind k (.fn (Rv.elemOf [.i64] R)) 1 (litEl [.i .i64 z] 1 1)) k 0 [.i .i64 x]).at i=[.i .i64 (if i=k then x else cell R i 0)]:=by
 show(if i=k then ((if i < k then [SV.i .i64 (cell R i 0)]else [SV.i .i64 z]):List SV).set 0 (.i .i64 x)else (if i < k then [SV.i .i64 (cell R i 0)]else [SV.i .i64 z]))=_
 by_cases hk:i=k
 ·subst hk
  rw [if_pos rfl,if_pos rfl,if_neg (by omega)]
  rfl
 ·rw [if_neg hk,if_neg hk,if_pos (by omega)]
theorem plain_one {R:Rows} {k:Nat} {x z:Int}:PlainE (k+1) (updL (behind k (.fn (Rv.elemOf [.i64] R)) 1 (litEl [.i .i64 z] 1 1)) k 0 [.i .i64 x]):=by
 intro i hi y hy
 rw [one_at hi]at hy
 simp only [List.mem_singleton]at hy
 subst hy
 exact trivial
noncomputable def F_Row:FnE:=⟨16,(some [.i .u64]),[i64],fun l=>match l with | [.z a,.z c]=>0≤c∧c≤1000 | _=>False,fun l=>match l with | [.z a,.z c]=>[.gsl 0 c.toNat 1 true] | _=>[],fun l=>match l with | [.z a,.z c]=>[.gr c.toNat 1 (.fn (Rv.elemOf [.i64] (rowR a c.toNat))) .gr true] | _=>[],fun l=>match l with | [.z a,.z c]=>[.i .u64 (rowA a c.toNat)] | _=>[],false,none,none⟩
noncomputable def A_Row:List SV→List Dat→Nat→List SV→Ann:=fun xs ds n ts=>match xs with
 | [.agg _,.i _ _]=>match ds with
  | [.z a,.z c]=>match n with
   | 3=>⟨Nat,fun k=>([some (SV.ptr ((0:Nat)) ((0:Nat))),some (SV.i IntKind.i64 c),none,none,some (SV.v (Value.slice none ((0:Nat)) ((0:Nat)))),some (.gsl 1 k 1 true),some (.i .i64 k)]++nN 29),fun k=>[.gr k 1 (.fn (Rv.elemOf [.i64] (rowR a k))) .gr true,.cells [.i .u64 (rowA a k)] .ex],fun k=>(k:Int)≤c,fun k=>(c-k).toNat,0⟩
   | _=>noAnn
  | _=>noAnn
 | _=>noAnn
def V_Row:Prop:=
 ∀(B:RW) (b d:Int),F_Row.pre ([Dat.z b]++([Dat.z d]++[]))→(∃(a:Nat),Ob ((↑a:Int)≤d)∧Ob (d=d)∧Ob (SV.v (Value.slice none 0 0)=SV.v (Value.slice none 0 0))∧Ob (a=(0:Nat))∧Ob ((0:Int)=(↑a:Int))∧Ob (a=(0:Nat))∧Ob (b=rowA b a)∧Ob (PlainE a (El.fn (Rv.elemOf [.i64] (rowR b a))))∧True)∧∀(a:Nat),(↑a:Int)≤d→∀(_ _ _ _ _ _ _ _ _ _ _ _ _ _ _ _ _ _ _ _ _ _ _ _ _ _ _ _ _ _ _:Value),((↑a:Int) < d→Ob (InR .i64 ((↑a:Int)+(1:Int)))∧Ob (F_Below.pre ([Dat.z (rowA b a)]++[Dat.z ((↑a:Int)+(1:Int))]))∧Ob (a=a∧∀(e:Nat),e < a→((El.fn (Rv.elemOf [.i64] (rowR b a))).at e).length=(1:Nat))∧Ob ((a+(1:Nat))*(2:Nat)*(9:Nat)≤1099511627776)∧Ob (a=a)∧Ob ((0:Int)≤belowV (rowA b a) ((↑a:Int)+(1:Int))∧(belowV (rowA b a) ((↑a:Int)+(1:Int))).toNat < a+(1:Nat))∧Ob ((belowV (rowA b a) ((↑a:Int)+(1:Int))).toNat < a+(1:Nat))∧((belowV (rowA b a) ((↑a:Int)+(1:Int))).toNat < a→Ob ((0:Int)≤(↑a:Int)∧a < a+(1:Nat))∧Ob (a < a+(1:Nat))∧(a < a→Ob ((0:Int)≤(↑a:Int)∧a < a+(1:Nat))∧Ob (a < a+(1:Nat)∧((behind a (El.fn (Rv.elemOf [.i64] (rowR b a))) 1 (litEl (symL [SV.i .i64 (↑a:Int)]) 1 1)).at a).length=(1:Nat))∧Ob (PlainE (a+(1:Nat)) (updL (behind a (El.fn (Rv.elemOf [.i64] (rowR b a))) 1 (litEl (symL [SV.i .i64 (↑a:Int)]) 1 1)) a 0 [SV.i .i64 (cell (rowR b a) (belowV (rowA b a) ((↑a:Int)+(1:Int))).toNat 0)]))∧Ob ((0:Int)≤belowV (rowA b a) ((↑a:Int)+(1:Int))∧(belowV (rowA b a) ((↑a:Int)+(1:Int))).toNat < a+(1:Nat))∧Ob ((belowV (rowA b a) ((↑a:Int)+(1:Int))).toNat < a+(1:Nat)∧((updL (behind a (El.fn (Rv.elemOf [.i64] (rowR b a))) 1 (litEl (symL [SV.i .i64 (↑a:Int)]) 1 1)) a 0 [SV.i .i64 (cell (rowR b a) (belowV (rowA b a) ((↑a:Int)+(1:Int))).toNat 0)]).at (belowV (rowA b a) ((↑a:Int)+(1:Int))).toNat).length=(1:Nat))∧Ob (InR .i64 ((↑a:Int)+(1:Int)))∧∃(c:Nat),Ob ((↑c:Int)≤d∧(d-(↑c:Int)).toNat < (d-(↑a:Int)).toNat)∧Ob (d=d)∧Ob (SV.v (Value.slice none 0 0)=SV.v (Value.slice none 0 0))∧Ob (a+(1:Nat)=c)∧Ob ((↑a:Int)+(1:Int)=(↑c:Int))∧EqA (a+(1:Nat)) c (updL (updL (behind a (El.fn (Rv.elemOf [.i64] (rowR b a))) 1 (litEl (symL [SV.i .i64 (↑a:Int)]) 1 1)) a 0 [SV.i .i64 (cell (rowR b a) (belowV (rowA b a) ((↑a:Int)+(1:Int))).toNat 0)]) (belowV (rowA b a) ((↑a:Int)+(1:Int))).toNat 0 [SV.i .i64 (cell (rowR b a) a 0)]) (El.fn (Rv.elemOf [.i64] (rowR b c)))∧Ob (belowA (rowA b a) ((↑a:Int)+(1:Int))=rowA b c)∧Ob (PlainE c (El.fn (Rv.elemOf [.i64] (rowR b c))))∧True)∧(¬a < a→Ob ((0:Int)≤(↑a:Int)∧a < a+(1:Nat))∧Ob (a < a+(1:Nat)∧((behind a (El.fn (Rv.elemOf [.i64] (rowR b a))) 1 (litEl (symL [SV.i .i64 (↑a:Int)]) 1 1)).at a).length=(1:Nat))∧Ob (PlainE (a+(1:Nat)) (updL (behind a (El.fn (Rv.elemOf [.i64] (rowR b a))) 1 (litEl (symL [SV.i .i64 (↑a:Int)]) 1 1)) a 0 [SV.i .i64 (cell (rowR b a) (belowV (rowA b a) ((↑a:Int)+(1:Int))).toNat 0)]))∧Ob ((0:Int)≤belowV (rowA b a) ((↑a:Int)+(1:Int))∧(belowV (rowA b a) ((↑a:Int)+(1:Int))).toNat < a+(1:Nat))∧Ob ((belowV (rowA b a) ((↑a:Int)+(1:Int))).toNat < a+(1:Nat)∧((updL (behind a (El.fn (Rv.elemOf [.i64] (rowR b a))) 1 (litEl (symL [SV.i .i64 (↑a:Int)]) 1 1)) a 0 [SV.i .i64 (cell (rowR b a) (belowV (rowA b a) ((↑a:Int)+(1:Int))).toNat 0)]).at (belowV (rowA b a) ((↑a:Int)+(1:Int))).toNat).length=(1:Nat))∧Ob (InR .i64 ((↑a:Int)+(1:Int)))∧∃(c:Nat),Ob ((↑c:Int)≤d∧(d-(↑c:Int)).toNat < (d-(↑a:Int)).toNat)∧Ob (d=d)∧Ob (SV.v (Value.slice none 0 0)=SV.v (Value.slice none 0 0))∧Ob (a+(1:Nat)=c)∧Ob ((↑a:Int)+(1:Int)=(↑c:Int))∧EqA (a+(1:Nat)) c (updL (updL (behind a (El.fn (Rv.elemOf [.i64] (rowR b a))) 1 (litEl (symL [SV.i .i64 (↑a:Int)]) 1 1)) a 0 [SV.i .i64 (cell (rowR b a) (belowV (rowA b a) ((↑a:Int)+(1:Int))).toNat 0)]) (belowV (rowA b a) ((↑a:Int)+(1:Int))).toNat 0 [SV.i .i64 (↑a:Int)]) (El.fn (Rv.elemOf [.i64] (rowR b c)))∧Ob (belowA (rowA b a) ((↑a:Int)+(1:Int))=rowA b c)∧Ob (PlainE c (El.fn (Rv.elemOf [.i64] (rowR b c))))∧True))∧(¬(belowV (rowA b a) ((↑a:Int)+(1:Int))).toNat < a→Ob ((0:Int)≤(↑a:Int)∧a < a+(1:Nat))∧Ob (a < a+(1:Nat))∧(a < a→Ob ((0:Int)≤(↑a:Int)∧a < a+(1:Nat))∧Ob (a < a+(1:Nat)∧((behind a (El.fn (Rv.elemOf [.i64] (rowR b a))) 1 (litEl (symL [SV.i .i64 (↑a:Int)]) 1 1)).at a).length=(1:Nat))∧Ob (PlainE (a+(1:Nat)) (updL (behind a (El.fn (Rv.elemOf [.i64] (rowR b a))) 1 (litEl (symL [SV.i .i64 (↑a:Int)]) 1 1)) a 0 [SV.i .i64 (↑a:Int)]))∧Ob ((0:Int)≤belowV (rowA b a) ((↑a:Int)+(1:Int))∧(belowV (rowA b a) ((↑a:Int)+(1:Int))).toNat < a+(1:Nat))∧Ob ((belowV (rowA b a) ((↑a:Int)+(1:Int))).toNat < a+(1:Nat)∧((updL (behind a (El.fn (Rv.elemOf [.i64] (rowR b a))) 1 (litEl (symL [SV.i .i64 (↑a:Int)]) 1 1)) a 0 [SV.i .i64 (↑a:Int)]).at (belowV (rowA b a) ((↑a:Int)+(1:Int))).toNat).length=(1:Nat))∧Ob (InR .i64 ((↑a:Int)+(1:Int)))∧∃(c:Nat),Ob ((↑c:Int)≤d∧(d-(↑c:Int)).toNat < (d-(↑a:Int)).toNat)∧Ob (d=d)∧Ob (SV.v (Value.slice none 0 0)=SV.v (Value.slice none 0 0))∧Ob (a+(1:Nat)=c)∧Ob ((↑a:Int)+(1:Int)=(↑c:Int))∧EqA (a+(1:Nat)) c (updL (updL (behind a (El.fn (Rv.elemOf [.i64] (rowR b a))) 1 (litEl (symL [SV.i .i64 (↑a:Int)]) 1 1)) a 0 [SV.i .i64 (↑a:Int)]) (belowV (rowA b a) ((↑a:Int)+(1:Int))).toNat 0 [SV.i .i64 (cell (rowR b a) a 0)]) (El.fn (Rv.elemOf [.i64] (rowR b c)))∧Ob (belowA (rowA b a) ((↑a:Int)+(1:Int))=rowA b c)∧Ob (PlainE c (El.fn (Rv.elemOf [.i64] (rowR b c))))∧True)∧(¬a < a→Ob ((0:Int)≤(↑a:Int)∧a < a+(1:Nat))∧Ob (a < a+(1:Nat)∧((behind a (El.fn (Rv.elemOf [.i64] (rowR b a))) 1 (litEl (symL [SV.i .i64 (↑a:Int)]) 1 1)).at a).length=(1:Nat))∧Ob (PlainE (a+(1:Nat)) (updL (behind a (El.fn (Rv.elemOf [.i64] (rowR b a))) 1 (litEl (symL [SV.i .i64 (↑a:Int)]) 1 1)) a 0 [SV.i .i64 (↑a:Int)]))∧Ob ((0:Int)≤belowV (rowA b a) ((↑a:Int)+(1:Int))∧(belowV (rowA b a) ((↑a:Int)+(1:Int))).toNat < a+(1:Nat))∧Ob ((belowV (rowA b a) ((↑a:Int)+(1:Int))).toNat < a+(1:Nat)∧((updL (behind a (El.fn (Rv.elemOf [.i64] (rowR b a))) 1 (litEl (symL [SV.i .i64 (↑a:Int)]) 1 1)) a 0 [SV.i .i64 (↑a:Int)]).at (belowV (rowA b a) ((↑a:Int)+(1:Int))).toNat).length=(1:Nat))∧Ob (InR .i64 ((↑a:Int)+(1:Int)))∧∃(c:Nat),Ob ((↑c:Int)≤d∧(d-(↑c:Int)).toNat < (d-(↑a:Int)).toNat)∧Ob (d=d)∧Ob (SV.v (Value.slice none 0 0)=SV.v (Value.slice none 0 0))∧Ob (a+(1:Nat)=c)∧Ob ((↑a:Int)+(1:Int)=(↑c:Int))∧EqA (a+(1:Nat)) c (updL (updL (behind a (El.fn (Rv.elemOf [.i64] (rowR b a))) 1 (litEl (symL [SV.i .i64 (↑a:Int)]) 1 1)) a 0 [SV.i .i64 (↑a:Int)]) (belowV (rowA b a) ((↑a:Int)+(1:Int))).toNat 0 [SV.i .i64 (↑a:Int)]) (El.fn (Rv.elemOf [.i64] (rowR b c)))∧Ob (belowA (rowA b a) ((↑a:Int)+(1:Int))=rowA b c)∧Ob (PlainE c (El.fn (Rv.elemOf [.i64] (rowR b c))))∧True)))∧(¬(↑a:Int) < d→Ob (a=d.toNat)∧EqA a d.toNat (El.fn (Rv.elemOf [.i64] (rowR b a))) (El.fn (Rv.elemOf [.i64] (rowR b d.toNat)))∧Ob (rowA b a=rowA b d.toNat)∧Ob (PlainE d.toNat (El.fn (Rv.elemOf [.i64] (rowR b d.toNat))))∧True)
set_option linter.unusedSimpArgs false in
set_option maxRecDepth 4000 in
set_option maxHeartbeats 400000 in
theorem v_Row:V_Row:=by
 unfold V_Row EqA
 intro B a c h
 simp only [F_Row,F_Below,List.cons_append,List.nil_append,Ob_iff,InR]at h ⊢
 refine⟨⟨0,by omega,trivial,trivial,rfl,rfl,rfl,rfl,plain_elemOf _ _ _,trivial⟩,?_⟩
 intro k hk
 intros
 have hb:=belowV_in (rowA a k) ((k:Int)+1)
 have hp:rowP a k < k+1:=rowP_lt a k
 have eP:(belowV (rowA a k) ((k:Int)+1)).toNat=rowP a k:=rfl
 have hl:=rowR_len a k
 have hat:=fun i hi=>rowR_at a k (i:=i) hi
 refine⟨fun h1=>?_,fun h1=>?_⟩
 ·rw [eP]
  generalize rowP a k=p at *
  have fin:∀x y:Int,(∀i,i < k+1→(if i=p then y else if i=k then x else cell (rowR a k) i 0)=cell (rowR a (k+1)) i 0)→∀i,i < k+1→(updL (updL (behind k (.fn (Rv.elemOf [.i64] (rowR a k))) 1 (litEl [.i .i64 (k:Int)] 1 1)) k 0 [.i .i64 x]) p 0 [.i .i64 y]).at i=(El.fn (Rv.elemOf [.i64] (rowR a (k+1)))).at i:=fun x y hxy i hi=>by
   rw [two_at hl hi,hxy i hi]
   rfl
  refine⟨by omega,by omega,⟨trivial,fun i hi=>rfl⟩,by omega,trivial,⟨by omega,hp⟩,hp,fun h2=>?_,fun h2=>?_⟩
  ·refine⟨⟨by omega,by omega⟩,by omega,fun h3=>by omega,fun h3=>⟨⟨by omega,by omega⟩,⟨by omega,?_⟩,plain_one,⟨by omega,hp⟩,⟨hp,?_⟩,by omega,k+1,by omega,trivial,trivial,rfl,by omega,⟨rfl,fin _ _ fun i hi=>?_⟩,rfl,plain_elemOf _ _ _,trivial⟩⟩
   ·show(if k < k then _ else [SV.i .i64 (k:Int)]).length=1
    rw [if_neg (by omega)]; rfl
   ·exact(congrArg List.length (one_at (R:=rowR a k) hp)).trans rfl
   ·rw [hat i hi,if_pos h2]
  ·refine⟨⟨by omega,by omega⟩,by omega,fun h3=>by omega,fun h3=>⟨⟨by omega,by omega⟩,⟨by omega,?_⟩,plain_one,⟨by omega,hp⟩,⟨hp,?_⟩,by omega,k+1,by omega,trivial,trivial,rfl,by omega,⟨rfl,fin _ _ fun i hi=>?_⟩,rfl,plain_elemOf _ _ _,trivial⟩⟩
   ·show(if k < k then _ else [SV.i .i64 (k:Int)]).length=1
    rw [if_neg (by omega)]; rfl
   ·exact(congrArg List.length (one_at (R:=rowR a k) hp)).trans rfl
   ·rw [hat i hi,if_neg h2]
 ·have e:k=c.toNat:=by omega
  subst e
  exact⟨rfl,⟨rfl,fun _ _=>rfl⟩,rfl,plain_elemOf _ _ _,trivial⟩
theorem e_Row:V_Row=needE P [] [F_Below] A_Row F_Row:=by kernel_rfl
theorem n_Row:Ob (needE P [] [F_Below] A_Row F_Row):=by
 rw [← e_Row]
 exact⟨v_Row⟩
theorem b_Row:((P.funcs[16]?).any fun fn=>fn.body.isSome)=true:=by kernel_rfl
theorem Row_ok:FnE.Ok P F_Row:=FnE.ok named (l:=[]) (es:=[F_Below]) (A:=A_Row) (by rfl) (by rfl) (by rfl) (by
 intro F h; simp at h) (by
 intro F h
 simp only [List.mem_cons,List.not_mem_nil,or_false]at h
 rcases h with rfl
 ·exact Below_ok
) b_Row (by
 intro ds h o ho n sz e k z he
 subst he
 simp only [F_Row]at ho
 split at ho
 ·simp only [List.mem_cons,List.not_mem_nil,or_false,SObj.gr.injEq]at ho
  obtain⟨rfl,rfl,rfl,rfl,rfl⟩:=ho
  exact plain_elemOf _ _ _
 ·simp at ho) n_Row
end Go.Proofs.Ytimcjjekohfokaa.Sy
