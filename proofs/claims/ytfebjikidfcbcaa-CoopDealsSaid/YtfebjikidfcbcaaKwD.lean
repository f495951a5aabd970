import Derived.Test.YtfebjikidfcbcaaSyP2
import Derived.Test.YtfebjikidfcbcaaGrM
import Derived.Test.YtfebjikidfcbcaaStM
import Derived.Test.YtfebjikidfcbcaaLrM
import Derived.Test.YtfebjikidfcbcaaDhM
import Derived.Test.YtfebjikidfcbcaaKtT
import Derived.Test.YtfebjikidfcbcaaKtA
import Derived.Test.YtfebjikidfcbcaaKtB
import Derived.Test.YtfebjikidfcbcaaKwA
import Derived.Test.YtfebjikidfcbcaaKwB
import Derived.Test.YtfebjikidfcbcaaKwC
import Derived.Test.YtfebjikidfcbcaaSyP2
import Derived.KernelRfl
import Derived.Test.YtfebjikidfcbcaaProg
namespace Go.Proofs.Ytfebjikidfcbcaa.Sy
open Go Go.Rv
set_option linter.unusedVariables false
theorem plain_fnD (n:Nat) (f:Nat→Int):PlainE n (.fn fun i=>[SV.i .i64 (f i)]):=by
 intro i _ y hy
 simp only [El.at,List.mem_cons,List.not_mem_nil,or_false]at hy
 subst hy
 trivial
structure ShOk (d:Int) (A:Rows):Prop where
 l:A.length≤12
 c:∀i,i < A.length→0≤cell A i 2∧cell A i 2≤1000000000
 d:0≤d∧d≤1000000000
 z:colS 2 A A.length≠0
def cA (A:Rows) (i:Nat):Int:=cell A i 2
def cN (A:Rows):Int:=colS 2 A A.length
def cR (d:Int) (A:Rows):Nat→Int:=rst d (cN A) (cA A)
def cL (d:Int) (A:Rows):Int:=lef d (cN A) (cA A) A.length
def cFl (d:Int) (A:Rows):Nat→Int:=flo d (cN A) (cA A)
def cF (d:Int) (A:Rows) (k i:Nat):Int:=if i < k then cFl d A i else 0
noncomputable def cK (d:Int) (A:Rows) (i:Nat):Int:=(rk (cR d A) A.length i:Nat)
def cG (d:Int) (A:Rows) (s:Int) (i:Nat):Prop:=cK d A i < s
noncomputable def cO (d:Int) (A:Rows) (s:Int) (i:Nat):Int:=cFl d A i+(if cK d A i < s then 1 else 0)
noncomputable def cS (d:Int) (A:Rows):Nat→Int:=shr d (cN A) (cA A) A.length
structure Bq where
 k:Nat
 b:Int
structure Bq.Ok (v:Bq) (d:Int) (A:Rows) (s:Int):Prop where
 k:v.k≤A.length
 b:(v.b=-1∧∀i,i < v.k→cK d A i < s)∨∃b:Nat,v.b=b∧b < v.k∧s≤cK d A b∧∀i,i < v.k→s≤cK d A i→i≠b→bfr (cR d A) b i
theorem plain_p (n:Nat) (f:Nat→Prop):PlainE n (.fn fun i=>[SV.p (f i)]):=by
 intro i _ y hy
 simp only [El.at,List.mem_cons,List.not_mem_nil,or_false]at hy
 subst hy
 trivial
theorem cS_bd {A:Rows} (h:∀i,i < A.length→0≤cell A i 2∧cell A i 2≤1000000000):∀ {k:Nat},k≤A.length→0≤colS 2 A k∧colS 2 A k≤k*1000000000
 | 0,_=>by simp [colS,sumF]
 | k+1,hk=>by
  have ih:=cS_bd h (k:=k) (by omega)
  have hc:=h k (by omega)
  have e:colS 2 A (k+1)=colS 2 A k+cell A k 2:=rfl
  have e2:((k+1:Nat):Int)*1000000000=k*1000000000+1000000000:=by rw [Int.natCast_add,Int.add_mul]; simp
  rw [e,e2]
  omega
theorem ShOk.n {d:Int} {A:Rows} (h:ShOk d A):0 < cN A∧cN A≤12000000000:=by
 have:=cS_bd h.c (Nat.le_refl _)
 have z:=h.z
 have hl:=h.l
 unfold cN
 omega
theorem ShOk.sh {d:Int} {A:Rows} (h:ShOk d A):ShA d (cN A) (cA A) A.length:=
 ⟨h.d.1,fun i hi=>(h.c i hi).1,rfl,h.n.1⟩
theorem bq_skip {v:Bq} {d:Int} {A:Rows} {s:Int} (h:v.Ok d A s) (hk:v.k < A.length) (hg:cK d A v.k < s):Bq.Ok ⟨v.k+1,v.b⟩ d A s:=by
 refine⟨hk,?_⟩
 rcases h.b with ⟨h1,h2⟩ | ⟨b,h1,h2,h3,h4⟩
 ·refine .inl ⟨h1,fun i hi=>?_⟩
  have hi:i < v.k+1:=hi
  by_cases e:i=v.k
  ·subst e; exact hg
  ·exact h2 i (by omega)
 ·refine .inr ⟨b,h1,Nat.lt_succ_of_lt h2,h3,fun i hi h5 h6=>?_⟩
  have hi:i < v.k+1:=hi
  by_cases e:i=v.k
  ·subst e; omega
  ·exact h4 i (by omega) h5 h6
theorem bq_keep {v:Bq} {d:Int} {A:Rows} {s:Int} (h:v.Ok d A s) (hk:v.k < A.length) (hb:0≤v.b) (hr:¬ cR d A v.b.toNat < cR d A v.k):Bq.Ok ⟨v.k+1,v.b⟩ d A s:=by
 refine⟨hk,?_⟩
 rcases h.b with ⟨h1,h2⟩ | ⟨b,h1,h2,h3,h4⟩
 ·omega
 ·refine .inr ⟨b,h1,Nat.lt_succ_of_lt h2,h3,fun i hi h5 h6=>?_⟩
  have hi:i < v.k+1:=hi
  by_cases e:i=v.k
  ·subst e
   rw [h1,Int.toNat_natCast]at hr
   unfold bfr
   omega
  ·exact h4 i (by omega) h5 h6
theorem bq_new {v:Bq} {d:Int} {A:Rows} {s:Int} (h:v.Ok d A s) (hk:v.k < A.length) (hn:¬ cK d A v.k < s) (hc:v.b < 0∨cR d A v.b.toNat < cR d A v.k):Bq.Ok ⟨v.k+1,v.k⟩ d A s:=by
 refine⟨hk,.inr ⟨v.k,rfl,Nat.lt_succ_self _,by omega,fun i hi h5 h6=>?_⟩⟩
 have hi:i < v.k+1:=hi
 rcases h.b with ⟨h1,h2⟩ | ⟨b,h1,h2,h3,h4⟩
 ·have:=h2 i (by omega)
  omega
 ·have hc:cR d A b < cR d A v.k:=by
   rcases hc with hc | hc
   ·omega
   ·rwa [h1,Int.toNat_natCast]at hc
  by_cases e:i=b
  ·subst e
   exact .inl hc
  ·have:=h4 i (by omega) h5 e
   unfold bfr at *
   omega
theorem cK_nn (d:Int) (A:Rows) (i:Nat):0≤cK d A i:=by unfold cK; omega
theorem cK_inj {d:Int} {A:Rows} {i j:Nat} (hi:i < A.length) (hj:j < A.length) (h:cK d A i=cK d A j):i=j:=rk_inj (R:=cR d A) hi hj (by unfold cK at h; omega)
theorem best_is {d:Int} {A:Rows} {s:Int} (hs:0≤s) (h1:s < cL d A) (sh:ShA d (cN A) (cA A) A.length) {v:Bq} (hk:v.k=A.length) (h:v.Ok d A s):∃b:Nat,v.b=b∧b < A.length∧cK d A b=s:=by
 have hl:cL d A≤A.length:=sh.lt
 obtain⟨s',rfl⟩:=Int.eq_ofNat_of_zero_le hs
 have hsn:s'≤A.length:=by omega
 rcases h.b with ⟨h2,h3⟩ | ⟨b,h2,h3,h4,h5⟩
 ·have e1:=rk_cnt (cR d A) A.length s' hsn
  rw [cnt_all fun i hi=>by have:=h3 i (by omega); unfold cK at this; omega]at e1
  omega
 ·refine⟨b,h2,by omega,?_⟩
  have:=rk_next (R:=cR d A) (n:=A.length) (s:=s') (b:=b) (by omega) hsn (by unfold cK at h4; omega) fun i hi h6 h7=>h5 i (by omega) (by unfold cK; omega) h7
  unfold cK
  omega
theorem cFl_bd {d:Int} {A:Rows} (h:ShOk d A) {i:Nat} (hi:i < A.length):0≤cFl d A i∧cFl d A i≤1000000000000000000∧0≤d*cell A i 2∧d*cell A i 2≤1000000000000000000:=by
 have c:=h.c i hi
 have hd:=h.d
 have m0:0≤d*cell A i 2:=Int.mul_nonneg hd.1 c.1
 have m1:d*cell A i 2≤1000000000*1000000000:=Int.mul_le_mul hd.2 c.2 c.1 (by omega)
 have hN:=h.n.1
 have e:cFl d A i=d*cell A i 2 / cN A:=rfl
 rw [e]
 exact⟨Int.ediv_nonneg m0 (by omega),by have:=Int.ediv_le_self (cN A) m0; omega,m0,by omega⟩
theorem sumF_mono {f:Nat→Int}:∀ {n k:Nat},k≤n→(∀i,i < n→0≤f i)→0≤sumF f k∧sumF f k≤sumF f n
 | 0,k,hk,_=>by
  have:k=0:=by omega
  subst this
  simp [sumF]
 | n+1,k,hk,h=>by
  have hn:=sumF_nn (n:=n) (f:=f) fun i hi=>h i (by omega)
  have h1:=h n (by omega)
  by_cases e:k=n+1
  ·subst e
   simp only [sumF]
   omega
  ·have:=sumF_mono (n:=n) (k:=k) (by omega) fun i hi=>h i (by omega)
   simp only [sumF]
   omega
theorem sFl_bd {d:Int} {A:Rows} (h:ShOk d A) {k:Nat} (hk:k≤A.length):0≤sumF (cFl d A) k∧sumF (cFl d A) k≤d:=by
 have h1:=sumF_mono (f:=cFl d A) hk fun i hi=>(cFl_bd h hi).1
 have h2:=h.sh.lefB.1
 have e:lef d (cN A) (cA A) A.length=d-sumF (cFl d A) A.length:=rfl
 omega
theorem cF_upd (d:Int) (A:Rows) (k i:Nat):(updL (El.fn fun i=>[SV.i .i64 (cF d A k i)]) k 0 [SV.i .i64 (cFl d A k)]).at i=(El.fn fun i=>[SV.i .i64 (cF d A (k+1) i)]).at i:=by
 simp only [updL,El.at,cF]
 by_cases e:i=k
 ·subst e
  have n1:i < i+1:=by omega
  rw [if_pos rfl]
  show [SV.i .i64 (cFl d A i)]=[SV.i .i64 (if i < i+1 then cFl d A i else 0)]
  rw [if_pos n1]
 ·rw [if_neg e]
  by_cases h:i < k
  ·have n1:i < k+1:=by omega
   rw [if_pos h,if_pos n1]
  ·have n1:¬ i < k+1:=by omega
   rw [if_neg h,if_neg n1]
theorem cG_upd {d:Int} {A:Rows} {b i:Nat} {s:Int} (hb:b < A.length) (hi:i < A.length) (e:cK d A b=s):(updL (El.fn fun i=>[SV.p (cG d A s i)]) b 0 [SV.p True]).at i=(El.fn fun i=>[SV.p (cG d A (s+1) i)]).at i:=by
 simp only [updL,El.at]
 by_cases h:i=b
 ·rw [if_pos h,h]
  show [SV.p True]=[SV.p (cG d A (s+1) b)]
  have:True=cG d A (s+1) b:=propext ⟨fun _=>by unfold cG; omega,fun _=>trivial⟩
  rw [this]
 ·rw [if_neg h]
  have:cG d A s i=cG d A (s+1) i:=propext (by
   unfold cG
   constructor
   ·intro h1; omega
   ·intro h1
    by_cases e2:cK d A i=s
    ·exact absurd (cK_inj (d:=d) hi hb (by omega)) h
    ·omega)
  show [SV.p (cG d A s i)]=_
  rw [this]
theorem cO_upd {d:Int} {A:Rows} {b i:Nat} {s:Int} (hb:b < A.length) (hi:i < A.length) (e:cK d A b=s):(updL (El.fn fun i=>[SV.i .i64 (cO d A s i)]) b 0 [SV.i .i64 (cO d A s b+1)]).at i=(El.fn fun i=>[SV.i .i64 (cO d A (s+1) i)]).at i:=by
 simp only [updL,El.at]
 by_cases h:i=b
 ·rw [if_pos h,h]
  show [SV.i .i64 (cO d A s b+1)]=[SV.i .i64 (cO d A (s+1) b)]
  have n1:¬ cK d A b < s:=by omega
  have n2:cK d A b < s+1:=by omega
  unfold cO
  rw [if_neg n1,if_pos n2]
  simp
 ·rw [if_neg h]
  show [SV.i .i64 (cO d A s i)]=[SV.i .i64 (cO d A (s+1) i)]
  unfold cO
  by_cases e2:cK d A i < s
  ·have n1:cK d A i < s+1:=by omega
   rw [if_pos e2,if_pos n1]
  ·have n1:¬ cK d A i < s+1:=fun h1=>h (cK_inj (d:=d) hi hb (by omega))
   rw [if_neg e2,if_neg n1]
noncomputable def F_sharesR:FnE:=⟨85,none,[.one (.l [.i64,.i64,.i64]),i64],fun l=>match l with | [.l A,.z d]=>ShOk d A | _=>False,fun l=>match l with | [.l A,.z d]=>[.gsl 0 A.length 1 false] | _=>[],fun l=>match l with | [.l A,.z d]=>[.gr A.length 1 (.fn fun i=>[.i .i64 (cS d A i)]) .ex false] | _=>[],fun l=>match l with | [.l A,.z d]=>[] | _=>[],false,none,none⟩
noncomputable def A_sharesR:List SV→List Dat→Nat→List SV→Ann:=fun xs ds n ts=>match xs with
 | [.lst x _ _ _,.i _ _]=>match ds with
  | [.l A,.z d]=>match n with
   | 3=>⟨Nat,fun k=>([some (SV.lst x A.length ((3:Nat)) (Rv.elemOf [IntKind.i64,IntKind.i64,IntKind.i64] A)),some (SV.i IntKind.i64 d),none,none,some (SV.v (Value.slice none ((0:Nat)) ((0:Nat)))),some (.i .i64 (colS 2 A k)),some (.i .i64 k)]++nN 101),fun k=>[],fun k=>k≤A.length,fun k=>A.length-k,0⟩
   | 9=>⟨Nat,fun k=>([some (SV.lst x A.length ((3:Nat)) (Rv.elemOf [IntKind.i64,IntKind.i64,IntKind.i64] A)),some (SV.i IntKind.i64 d),none,none,some (SV.v (Value.slice none ((0:Nat)) ((0:Nat)))),some (.i .i64 (cN A)),none,some (.gsl 0 A.length 1 false),some (.i .i64 (d-sumF (cFl d A) k)),some (.i .i64 k)]++nN 98),fun k=>[.gr A.length 1 (.fn fun i=>[.i .i64 (cF d A k i)]) .ex false],fun k=>k≤A.length,fun k=>A.length-k,0⟩
   | 14=>⟨Int,fun r=>([some (SV.lst x A.length ((3:Nat)) (Rv.elemOf [IntKind.i64,IntKind.i64,IntKind.i64] A)),some (SV.i IntKind.i64 d),none,none,some (SV.v (Value.slice none ((0:Nat)) ((0:Nat)))),some (.i .i64 (cN A)),none,some (.gsl 0 A.length 1 false),some (.i .i64 r),none,some (.gsl 1 A.length 1 false)]++nN 97),fun r=>[.gr A.length 1 (.fn fun i=>[.p (cG d A (cL d A-r) i)]) .ex false,.gr A.length 1 (.fn fun i=>[.i .i64 (cO d A (cL d A-r) i)]) .ex false],fun r=>0≤r∧r≤cL d A,fun r=>r.toNat,0⟩
   | 18=>(match lget ts 8 with | some (SV.i _ r8)=>⟨Bq,fun v=>([some (SV.lst x A.length ((3:Nat)) (Rv.elemOf [IntKind.i64,IntKind.i64,IntKind.i64] A)),some (SV.i IntKind.i64 d),none,none,some (SV.v (Value.slice none ((0:Nat)) ((0:Nat)))),some (.i .i64 (cN A)),none,some (.gsl 0 A.length 1 false),some (SV.i .i64 r8),none,some (.gsl 1 A.length 1 false),some (.i .i64 v.b),some (.i .i64 v.k)]++nN 95),fun v=>[.gr A.length 1 (.fn fun i=>[.p (cG d A (cL d A-r8) i)]) .ex false,.gr A.length 1 (.fn fun i=>[.i .i64 (cO d A (cL d A-r8) i)]) .ex false],fun v=>v.Ok d A (cL d A-r8),fun v=>A.length-v.k,0⟩ | _=>noAnn)
   | _=>noAnn
  | _=>noAnn
 | _=>noAnn
def V_sharesR:Prop:=
 ∀(B:RW) (f:RV) (a:List (List Int)),IsLst B f a.length 3 (Rv.elemOf I3 a)→oneB f=true→(∀row∈a,row.length=3)→∀(b:Int),F_sharesR.pre ([Dat.l a]++([Dat.z b]++[]))→(∃(i:Nat),Ob (i≤a.length)∧Ob (SV.lst f a.length 3 (Rv.elemOf I3 a)=SV.lst f a.length 3 (Rv.elemOf I3 a))∧Ob (b=b)∧Ob (SV.v (Value.slice none 0 0)=SV.v (Value.slice none 0 0))∧Ob ((0:Int)=colS 2 a i)∧Ob ((0:Int)=(↑i:Int))∧LsA B f I3 a∧True)∧∀(i:Nat),i≤a.length→∀(_ _ _ _ _ _ _ _ _ _ _ _ _ _ _ _ _ _ _ _ _ _ _ _ _ _ _ _ _ _ _ _ _ _ _ _ _ _ _ _ _ _ _ _ _ _ _ _ _ _ _ _ _ _ _ _ _ _ _ _ _ _ _ _ _ _ _ _ _ _ _ _ _ _ _ _ _ _ _ _ _ _ _ _ _ _ _ _ _ _ _ _ _ _ _ _ _ _ _ _ _ _ _:Value),LsA B f I3 a∧((↑i:Int) < (↑a.length:Int)→Ob ((0:Int)≤(↑i:Int)∧i < a.length∧IsLst B f a.length 3 (Rv.elemOf I3 a))∧Ob (IsLst B f a.length 3 (Rv.elemOf I3 a)∧i < a.length)∧Ob (InR .i64 (colS 2 a i+cell a i 2))∧Ob (InR .i64 ((↑i:Int)+(1:Int)))∧∃(h:Nat),Ob (h≤a.length∧a.length-h < a.length-i)∧Ob (SV.lst f a.length 3 (Rv.elemOf I3 a)=SV.lst f a.length 3 (Rv.elemOf I3 a))∧Ob (b=b)∧Ob (SV.v (Value.slice none 0 0)=SV.v (Value.slice none 0 0))∧Ob (colS 2 a i+cell a i 2=colS 2 a h)∧Ob ((↑i:Int)+(1:Int)=(↑h:Int))∧LsA B f I3 a∧True)∧(¬(↑i:Int) < (↑a.length:Int)→LsA B f I3 a∧Ob ((↑a.length:Int)=(↑a.length:Int)∧(0:Int)≤(↑a.length:Int)∧a.length*(9:Nat)≤1099511627776)∧(∃(g:Nat),Ob (g≤a.length)∧Ob (SV.lst f a.length 3 (Rv.elemOf I3 a)=SV.lst f a.length 3 (Rv.elemOf I3 a))∧Ob (b=b)∧Ob (SV.v (Value.slice none 0 0)=SV.v (Value.slice none 0 0))∧Ob (colS 2 a i=cN a)∧Ob (a.length=a.length)∧Ob (b=b-sumF (cFl b a) g)∧Ob ((0:Int)=(↑g:Int))∧EqA a.length a.length (El.fn fun(f:Nat)↦symL (List.map SV.v (Value.int .i64 (0:Int)).cells.toList)) (El.fn fun(c:Nat)↦[SV.i .i64 (cF b a g c)])∧LsA B f I3 a∧Ob (PlainE a.length (El.fn fun(c:Nat)↦[SV.i .i64 (cF b a g c)]))∧True)∧∀(g:Nat),g≤a.length→∀(_ _ _ _ _ _ _ _ _ _ _ _ _ _ _ _ _ _ _ _ _ _ _ _ _ _ _ _ _ _ _ _ _ _ _ _ _ _ _ _ _ _ _ _ _ _ _ _ _ _ _ _ _ _ _ _ _ _ _ _ _ _ _ _ _ _ _ _ _ _ _ _ _ _ _ _ _ _ _ _ _ _ _ _ _ _ _ _ _ _ _ _ _ _ _ _ _ _ _ _ _:Value),LsA B f I3 a∧((↑g:Int) < (↑a.length:Int)→Ob ((0:Int)≤(↑g:Int)∧g < a.length∧IsLst B f a.length 3 (Rv.elemOf I3 a))∧Ob (IsLst B f a.length 3 (Rv.elemOf I3 a)∧g < a.length)∧Ob (InR .i64 (b*cell a g 2))∧Ob ((0:Int) < cN a∧InR .i64 ((b*cell a g 2).tdiv (cN a)))∧Ob ((0:Int)≤(↑g:Int)∧g < a.length)∧Ob (g < a.length∧((El.fn fun(c:Nat)↦[SV.i .i64 (cF b a g c)]).at g).length=(1:Nat))∧Ob ((0:Int)≤(↑g:Int)∧g < a.length)∧Ob (g < a.length)∧(g=g→Ob (InR .i64 (b-sumF (cFl b a) g-(b*cell a g 2).tdiv (cN a)))∧Ob (InR .i64 ((↑g:Int)+(1:Int)))∧∃(h:Nat),Ob (h≤a.length∧a.length-h < a.length-g)∧Ob (SV.lst f a.length 3 (Rv.elemOf I3 a)=SV.lst f a.length 3 (Rv.elemOf I3 a))∧Ob (b=b)∧Ob (SV.v (Value.slice none 0 0)=SV.v (Value.slice none 0 0))∧Ob (cN a=cN a)∧Ob (a.length=a.length)∧Ob (b-sumF (cFl b a) g-(b*cell a g 2).tdiv (cN a)=b-sumF (cFl b a) h)∧Ob ((↑g:Int)+(1:Int)=(↑h:Int))∧EqA a.length a.length (updL (El.fn fun(c:Nat)↦[SV.i .i64 (cF b a g c)]) g 0 [SV.i .i64 ((b*cell a g 2).tdiv (cN a))]) (El.fn fun(c:Nat)↦[SV.i .i64 (cF b a h c)])∧LsA B f I3 a∧Ob (PlainE a.length (El.fn fun(c:Nat)↦[SV.i .i64 (cF b a h c)]))∧True)∧(¬g=g→Ob (InR .i64 (b-sumF (cFl b a) g-cF b a g g))∧Ob (InR .i64 ((↑g:Int)+(1:Int)))∧∃(h:Nat),Ob (h≤a.length∧a.length-h < a.length-g)∧Ob (SV.lst f a.length 3 (Rv.elemOf I3 a)=SV.lst f a.length 3 (Rv.elemOf I3 a))∧Ob (b=b)∧Ob (SV.v (Value.slice none 0 0)=SV.v (Value.slice none 0 0))∧Ob (cN a=cN a)∧Ob (a.length=a.length)∧Ob (b-sumF (cFl b a) g-cF b a g g=b-sumF (cFl b a) h)∧Ob ((↑g:Int)+(1:Int)=(↑h:Int))∧EqA a.length a.length (updL (El.fn fun(c:Nat)↦[SV.i .i64 (cF b a g c)]) g 0 [SV.i .i64 ((b*cell a g 2).tdiv (cN a))]) (El.fn fun(c:Nat)↦[SV.i .i64 (cF b a h c)])∧LsA B f I3 a∧Ob (PlainE a.length (El.fn fun(c:Nat)↦[SV.i .i64 (cF b a h c)]))∧True))∧(¬(↑g:Int) < (↑a.length:Int)→LsA B f I3 a∧Ob ((↑a.length:Int)=(↑a.length:Int)∧(0:Int)≤(↑a.length:Int)∧a.length*(2:Nat)≤1099511627776)∧(∃(d:Int),Ob ((0:Int)≤d∧d≤cL b a)∧Ob (SV.lst f a.length 3 (Rv.elemOf I3 a)=SV.lst f a.length 3 (Rv.elemOf I3 a))∧Ob (b=b)∧Ob (SV.v (Value.slice none 0 0)=SV.v (Value.slice none 0 0))∧Ob (cN a=cN a)∧Ob (a.length=a.length)∧Ob (b-sumF (cFl b a) g=d)∧Ob (a.length=a.length)∧EqA a.length a.length (El.fn fun(f:Nat)↦symL (List.map SV.v (Value.bool false).cells.toList)) (El.fn fun(c:Nat)↦[SV.p (cG b a (cL b a-d) c)])∧EqA a.length a.length (El.fn fun(c:Nat)↦[SV.i .i64 (cF b a g c)]) (El.fn fun(c:Nat)↦[SV.i .i64 (cO b a (cL b a-d) c)])∧LsA B f I3 a∧Ob (PlainE a.length (El.fn fun(c:Nat)↦[SV.p (cG b a (cL b a-d) c)]))∧Ob (PlainE a.length (El.fn fun(c:Nat)↦[SV.i .i64 (cO b a (cL b a-d) c)]))∧True)∧∀(d:Int),(0:Int)≤d∧d≤cL b a→∀(_ _ _ _ _ _ _ _ _ _ _ _ _ _ _ _ _ _ _ _ _ _ _ _ _ _ _ _ _ _ _ _ _ _ _ _ _ _ _ _ _ _ _ _ _ _ _ _ _ _ _ _ _ _ _ _ _ _ _ _ _ _ _ _ _ _ _ _ _ _ _ _ _ _ _ _ _ _ _ _ _ _ _ _ _ _ _ _ _ _ _ _ _ _ _ _ _ _ _ _ _:Value),((0:Int) < d→(∃(e:Bq),Ob (e.Ok b a (cL b a-d))∧Ob (SV.lst f a.length 3 (Rv.elemOf I3 a)=SV.lst f a.length 3 (Rv.elemOf I3 a))∧Ob (b=b)∧Ob (SV.v (Value.slice none 0 0)=SV.v (Value.slice none 0 0))∧Ob (cN a=cN a)∧Ob (a.length=a.length)∧Ob (d=d)∧Ob (a.length=a.length)∧Ob ((-1:Int)=e.b)∧Ob ((0:Int)=(↑e.k:Int))∧EqA a.length a.length (El.fn fun(c:Nat)↦[SV.p (cG b a (cL b a-d) c)]) (El.fn fun(c:Nat)↦[SV.p (cG b a (cL b a-d) c)])∧EqA a.length a.length (El.fn fun(c:Nat)↦[SV.i .i64 (cO b a (cL b a-d) c)]) (El.fn fun(c:Nat)↦[SV.i .i64 (cO b a (cL b a-d) c)])∧LsA B f I3 a∧Ob (PlainE a.length (El.fn fun(c:Nat)↦[SV.p (cG b a (cL b a-d) c)]))∧Ob (PlainE a.length (El.fn fun(c:Nat)↦[SV.i .i64 (cO b a (cL b a-d) c)]))∧True)∧∀(e:Bq),e.Ok b a (cL b a-d)→∀(_ _ _ _ _ _ _ _ _ _ _ _ _ _ _ _ _ _ _ _ _ _ _ _ _ _ _ _ _ _ _ _ _ _ _ _ _ _ _ _ _ _ _ _ _ _ _ _ _ _ _ _ _ _ _ _ _ _ _ _ _ _ _ _ _ _ _ _ _ _ _ _ _ _ _ _ _ _ _ _ _ _ _ _ _ _ _ _ _ _ _ _ _ _ _ _ _ _ _:Value),LsA B f I3 a∧((↑e.k:Int) < (↑a.length:Int)→Ob ((0:Int)≤(↑e.k:Int)∧e.k < a.length)∧Ob (e.k < a.length)∧(¬cG b a (cL b a-d) e.k→(¬e.b < (0:Int)→LsA B f I3 a∧Ob ((0:Int)≤(↑e.k:Int)∧e.k < a.length∧IsLst B f a.length 3 (Rv.elemOf I3 a))∧Ob (IsLst B f a.length 3 (Rv.elemOf I3 a)∧e.k < a.length)∧Ob (IsLst B f a.length 3 (Rv.elemOf I3 a)∧e.k < a.length)∧Ob (IsLst B f a.length 3 (Rv.elemOf I3 a)∧e.k < a.length)∧Ob (InR .i64 (b*cell a e.k 2))∧Ob ((0:Int) < cN a∧InR .i64 ((b*cell a e.k 2).tmod (cN a)))∧LsA B f I3 a∧Ob ((0:Int)≤e.b∧e.b.toNat < a.length∧IsLst B f a.length 3 (Rv.elemOf I3 a))∧Ob (IsLst B f a.length 3 (Rv.elemOf I3 a)∧e.b.toNat < a.length)∧Ob (IsLst B f a.length 3 (Rv.elemOf I3 a)∧e.b.toNat < a.length)∧Ob (IsLst B f a.length 3 (Rv.elemOf I3 a)∧e.b.toNat < a.length)∧Ob (InR .i64 (b*cell a e.b.toNat 2))∧Ob ((0:Int) < cN a∧InR .i64 ((b*cell a e.b.toNat 2).tmod (cN a)))∧((b*cell a e.b.toNat 2).tmod (cN a) < (b*cell a e.k 2).tmod (cN a)→Ob (InR .i64 ((↑e.k:Int)+(1:Int)))∧∃(h:Bq),Ob (h.Ok b a (cL b a-d)∧a.length-h.k < a.length-e.k)∧Ob (SV.lst f a.length 3 (Rv.elemOf I3 a)=SV.lst f a.length 3 (Rv.elemOf I3 a))∧Ob (b=b)∧Ob (SV.v (Value.slice none 0 0)=SV.v (Value.slice none 0 0))∧Ob (cN a=cN a)∧Ob (a.length=a.length)∧Ob (d=d)∧Ob (a.length=a.length)∧Ob ((↑e.k:Int)=h.b)∧Ob ((↑e.k:Int)+(1:Int)=(↑h.k:Int))∧EqA a.length a.length (El.fn fun(c:Nat)↦[SV.p (cG b a (cL b a-d) c)]) (El.fn fun(c:Nat)↦[SV.p (cG b a (cL b a-d) c)])∧EqA a.length a.length (El.fn fun(c:Nat)↦[SV.i .i64 (cO b a (cL b a-d) c)]) (El.fn fun(c:Nat)↦[SV.i .i64 (cO b a (cL b a-d) c)])∧LsA B f I3 a∧Ob (PlainE a.length (El.fn fun(c:Nat)↦[SV.p (cG b a (cL b a-d) c)]))∧Ob (PlainE a.length (El.fn fun(c:Nat)↦[SV.i .i64 (cO b a (cL b a-d) c)]))∧True)∧(¬(b*cell a e.b.toNat 2).tmod (cN a) < (b*cell a e.k 2).tmod (cN a)→Ob (InR .i64 ((↑e.k:Int)+(1:Int)))∧∃(h:Bq),Ob (h.Ok b a (cL b a-d)∧a.length-h.k < a.length-e.k)∧Ob (SV.lst f a.length 3 (Rv.elemOf I3 a)=SV.lst f a.length 3 (Rv.elemOf I3 a))∧Ob (b=b)∧Ob (SV.v (Value.slice none 0 0)=SV.v (Value.slice none 0 0))∧Ob (cN a=cN a)∧Ob (a.length=a.length)∧Ob (d=d)∧Ob (a.length=a.length)∧Ob (e.b=h.b)∧Ob ((↑e.k:Int)+(1:Int)=(↑h.k:Int))∧EqA a.length a.length (El.fn fun(c:Nat)↦[SV.p (cG b a (cL b a-d) c)]) (El.fn fun(c:Nat)↦[SV.p (cG b a (cL b a-d) c)])∧EqA a.length a.length (El.fn fun(c:Nat)↦[SV.i .i64 (cO b a (cL b a-d) c)]) (El.fn fun(c:Nat)↦[SV.i .i64 (cO b a (cL b a-d) c)])∧LsA B f I3 a∧Ob (PlainE a.length (El.fn fun(c:Nat)↦[SV.p (cG b a (cL b a-d) c)]))∧Ob (PlainE a.length (El.fn fun(c:Nat)↦[SV.i .i64 (cO b a (cL b a-d) c)]))∧True))∧(e.b < (0:Int)→Ob (InR .i64 ((↑e.k:Int)+(1:Int)))∧∃(h:Bq),Ob (h.Ok b a (cL b a-d)∧a.length-h.k < a.length-e.k)∧Ob (SV.lst f a.length 3 (Rv.elemOf I3 a)=SV.lst f a.length 3 (Rv.elemOf I3 a))∧Ob (b=b)∧Ob (SV.v (Value.slice none 0 0)=SV.v (Value.slice none 0 0))∧Ob (cN a=cN a)∧Ob (a.length=a.length)∧Ob (d=d)∧Ob (a.length=a.length)∧Ob ((↑e.k:Int)=h.b)∧Ob ((↑e.k:Int)+(1:Int)=(↑h.k:Int))∧EqA a.length a.length (El.fn fun(c:Nat)↦[SV.p (cG b a (cL b a-d) c)]) (El.fn fun(c:Nat)↦[SV.p (cG b a (cL b a-d) c)])∧EqA a.length a.length (El.fn fun(c:Nat)↦[SV.i .i64 (cO b a (cL b a-d) c)]) (El.fn fun(c:Nat)↦[SV.i .i64 (cO b a (cL b a-d) c)])∧LsA B f I3 a∧Ob (PlainE a.length (El.fn fun(c:Nat)↦[SV.p (cG b a (cL b a-d) c)]))∧Ob (PlainE a.length (El.fn fun(c:Nat)↦[SV.i .i64 (cO b a (cL b a-d) c)]))∧True))∧(¬¬cG b a (cL b a-d) e.k→Ob (InR .i64 ((↑e.k:Int)+(1:Int)))∧∃(h:Bq),Ob (h.Ok b a (cL b a-d)∧a.length-h.k < a.length-e.k)∧Ob (SV.lst f a.length 3 (Rv.elemOf I3 a)=SV.lst f a.length 3 (Rv.elemOf I3 a))∧Ob (b=b)∧Ob (SV.v (Value.slice none 0 0)=SV.v (Value.slice none 0 0))∧Ob (cN a=cN a)∧Ob (a.length=a.length)∧Ob (d=d)∧Ob (a.length=a.length)∧Ob (e.b=h.b)∧Ob ((↑e.k:Int)+(1:Int)=(↑h.k:Int))∧EqA a.length a.length (El.fn fun(c:Nat)↦[SV.p (cG b a (cL b a-d) c)]) (El.fn fun(c:Nat)↦[SV.p (cG b a (cL b a-d) c)])∧EqA a.length a.length (El.fn fun(c:Nat)↦[SV.i .i64 (cO b a (cL b a-d) c)]) (El.fn fun(c:Nat)↦[SV.i .i64 (cO b a (cL b a-d) c)])∧LsA B f I3 a∧Ob (PlainE a.length (El.fn fun(c:Nat)↦[SV.p (cG b a (cL b a-d) c)]))∧Ob (PlainE a.length (El.fn fun(c:Nat)↦[SV.i .i64 (cO b a (cL b a-d) c)]))∧True))∧(¬(↑e.k:Int) < (↑a.length:Int)→Ob ((0:Int)≤e.b∧e.b.toNat < a.length)∧Ob (e.b.toNat < a.length∧((El.fn fun(c:Nat)↦[SV.p (cG b a (cL b a-d) c)]).at e.b.toNat).length=(1:Nat))∧Ob ((0:Int)≤e.b∧e.b.toNat < a.length)∧Ob (e.b.toNat < a.length)∧Ob (InR .i64 (cO b a (cL b a-d) e.b.toNat+(1:Int)))∧Ob ((0:Int)≤e.b∧e.b.toNat < a.length)∧Ob (e.b.toNat < a.length∧((El.fn fun(c:Nat)↦[SV.i .i64 (cO b a (cL b a-d) c)]).at e.b.toNat).length=(1:Nat))∧Ob (InR .i64 (d-(1:Int)))∧∃(h:Int),Ob (((0:Int)≤h∧h≤cL b a)∧h.toNat < d.toNat)∧Ob (SV.lst f a.length 3 (Rv.elemOf I3 a)=SV.lst f a.length 3 (Rv.elemOf I3 a))∧Ob (b=b)∧Ob (SV.v (Value.slice none 0 0)=SV.v (Value.slice none 0 0))∧Ob (cN a=cN a)∧Ob (a.length=a.length)∧Ob (d-(1:Int)=h)∧Ob (a.length=a.length)∧EqA a.length a.length (updL (El.fn fun(c:Nat)↦[SV.p (cG b a (cL b a-d) c)]) e.b.toNat 0 [SV.p (true=true)]) (El.fn fun(c:Nat)↦[SV.p (cG b a (cL b a-h) c)])∧EqA a.length a.length (updL (El.fn fun(c:Nat)↦[SV.i .i64 (cO b a (cL b a-d) c)]) e.b.toNat 0 [SV.i .i64 (cO b a (cL b a-d) e.b.toNat+(1:Int))]) (El.fn fun(c:Nat)↦[SV.i .i64 (cO b a (cL b a-h) c)])∧LsA B f I3 a∧Ob (PlainE a.length (El.fn fun(c:Nat)↦[SV.p (cG b a (cL b a-h) c)]))∧Ob (PlainE a.length (El.fn fun(c:Nat)↦[SV.i .i64 (cO b a (cL b a-h) c)]))∧True))∧(¬(0:Int) < d→Ob (a.length=a.length)∧EqA a.length a.length (El.fn fun(c:Nat)↦[SV.i .i64 (cO b a (cL b a-d) c)]) (El.fn fun(c:Nat)↦[SV.i .i64 (cS b a c)])∧Ob (PlainE a.length (El.fn fun(c:Nat)↦[SV.i .i64 (cS b a c)]))∧True)))
set_option linter.unusedSimpArgs false in
set_option maxRecDepth 4000 in
set_option maxHeartbeats 2000000 in
theorem v_sharesR:V_sharesR:=by
 unfold V_sharesR EqA I3 LsA
 intro B x A hx hox hrx d hok
 have hok:ShOk d A:=hok
 have hl:=hok.l
 have hc:=hok.c
 have hd:=hok.d
 have tb:∀k,k≤A.length→0≤colS 2 A k∧colS 2 A k≤k*1000000000:=fun k hk=>cS_bd hc hk
 have sh:=hok.sh
 have hN:=hok.n.1
 have nb:=hok.n.2
 have h0:cN A≠0:=hok.z
 simp only [Ob_iff,and_true,true_and,implies_true,true_implies,not_true_eq_false,false_implies]
 refine⟨⟨0,by omega,rfl,rfl,hx⟩,?_⟩
 intro k hk
 intros
 refine⟨hx,fun h=>?_,fun h=>?_⟩
 ·have hk':k < A.length:=by omega
  have t:=tb k (by omega)
  have c:=hc k hk'
  exact⟨⟨by omega,hk',hx⟩,⟨hx,hk'⟩,by simp only [InR]; omega,by simp only [InR]; omega,k+1,⟨hk',by omega⟩,rfl,by omega,hx⟩
 have ek:k=A.length:=by omega
 subst ek
 clear h hk
 refine⟨hx,⟨by omega,by omega⟩,⟨0,by omega,rfl,by simp [sumF],rfl,fun i _=>?_,hx,plain_fnD _ _⟩,?_⟩
 ·show [SV.i .i64 0]=[SV.i .i64 (cF d A 0 i)]
  simp [cF]
 intro k hk
 intros
 refine⟨hx,fun h=>?_,fun h=>?_⟩
 ·have hk':k < A.length:=by omega
  have c:=cFl_bd hok hk'
  have s:=sFl_bd hok (k:=k) (by omega)
  have tl:=tb A.length (Nat.le_refl _)
  have e:(d*cell A k 2).tdiv (cN A)=cFl d A k:=by rw [Int.tdiv_eq_ediv_of_nonneg c.2.2.1]; rfl
  rw [e]
  exact⟨⟨by omega,hk',hx⟩,⟨hx,hk'⟩,by simp only [InR]; omega,⟨hN,by simp only [InR]; omega⟩,⟨by omega,hk'⟩,⟨hk',rfl⟩,⟨by omega,hk'⟩,hk',by simp only [InR]; omega,by simp only [InR]; omega,k+1,⟨hk',by omega⟩,by simp only [sumF]; omega,by omega,fun i _=>cF_upd d A k i,hx,plain_fnD _ _⟩
 have ek:k=A.length:=by omega
 subst ek
 clear h hk
 have lb:=sh.lefB
 have ll:cL d A≤A.length:=sh.lt
 refine⟨hx,⟨by omega,by omega⟩,⟨cL d A,⟨lb.1,Int.le_refl _⟩,rfl,fun i _=>?_,fun i hi=>?_,hx,plain_p _ _,plain_fnD _ _⟩,?_⟩
 ·show [SV.p (false=true)]=[SV.p (cG d A (cL d A-cL d A) i)]
  have:(false=true)=cG d A (cL d A-cL d A) i:=propext ⟨fun h=>by simp at h,fun h=>by
   have:=cK_nn d A i
   unfold cG at h
   omega⟩
  rw [this]
 ·show [SV.i .i64 (cF d A A.length i)]=[SV.i .i64 (cO d A (cL d A-cL d A) i)]
  have:=cK_nn d A i
  unfold cF cO
  rw [if_pos hi,if_neg (by omega)]
  simp
 intro r hr
 intros
 refine⟨fun h1=>⟨⟨⟨0,-1⟩,⟨Nat.zero_le _,.inl ⟨rfl,fun i hi=>absurd hi (Nat.not_lt_zero i)⟩⟩,rfl,rfl,hx,plain_p _ _,plain_fnD _ _⟩,?_⟩,fun h1=>?_⟩
 ·intro v hv
  intros
  have hvk:=hv.k
  refine⟨hx,fun h2=>?_,fun h2=>?_⟩
  ·have hk':v.k < A.length:=by omega
   have rk1:InR .i64 ((v.k:Int)+1):=by simp only [InR]; omega
   have c:=cFl_bd hok hk'
   refine⟨⟨by omega,hk'⟩,hk',fun h3=>⟨fun h4=>?_,fun h4=>?_⟩,fun h3=>?_⟩
   ·have hb:v.b.toNat < A.length:=by
     rcases hv.b with ⟨h5,_⟩ | ⟨b,h5,h6,_⟩<;>omega
    have cb:=cFl_bd hok hb
    have e1:(d*cell A v.k 2).tmod (cN A)=cR d A v.k:=by rw [Int.tmod_eq_emod_of_nonneg c.2.2.1]; rfl
    have e2:(d*cell A v.b.toNat 2).tmod (cN A)=cR d A v.b.toNat:=by rw [Int.tmod_eq_emod_of_nonneg cb.2.2.1]; rfl
    rw [e1,e2]
    have r1:=sh.rstB v.k
    have r2:=sh.rstB v.b.toNat
    have r1:0≤cR d A v.k∧cR d A v.k≤cN A-1:=r1
    have r2:0≤cR d A v.b.toNat∧cR d A v.b.toNat≤cN A-1:=r2
    refine⟨hx,⟨by omega,hk',hx⟩,⟨hx,hk'⟩,⟨hx,hk'⟩,⟨hx,hk'⟩,by simp only [InR]; omega,⟨hN,by simp only [InR]; omega⟩,hx,⟨by omega,hb,hx⟩,⟨hx,hb⟩,⟨hx,hb⟩,⟨hx,hb⟩,by simp only [InR]; omega,⟨hN,by simp only [InR]; omega⟩,fun h5=>?_,fun h5=>?_⟩
    ·exact⟨rk1,⟨v.k+1,v.k⟩,⟨bq_new hv hk' h3 (.inr h5),by show A.length-(v.k+1) < A.length-v.k; omega⟩,rfl,rfl,hx,plain_p _ _,plain_fnD _ _⟩
    ·exact⟨rk1,⟨v.k+1,v.b⟩,⟨bq_keep hv hk' (by omega) h5,by show A.length-(v.k+1) < A.length-v.k; omega⟩,rfl,rfl,hx,plain_p _ _,plain_fnD _ _⟩
   ·exact⟨rk1,⟨v.k+1,v.k⟩,⟨bq_new hv hk' h3 (.inl h4),by show A.length-(v.k+1) < A.length-v.k; omega⟩,rfl,rfl,hx,plain_p _ _,plain_fnD _ _⟩
   ·exact⟨rk1,⟨v.k+1,v.b⟩,⟨bq_skip hv hk' (Classical.not_not.1 h3),by show A.length-(v.k+1) < A.length-v.k; omega⟩,rfl,rfl,hx,plain_p _ _,plain_fnD _ _⟩
  ·obtain⟨b,eb,hb,hK⟩:=best_is (d:=d) (A:=A) (s:=cL d A-r) (by omega) (by omega) sh (by omega) hv
   have et:v.b.toNat=b:=by omega
   rw [et]
   have cb:=cFl_bd hok hb
   have ob:0≤cO d A (cL d A-r) b∧cO d A (cL d A-r) b≤1000000000000000001:=by
    unfold cO
    split<;>omega
   have es:cL d A-(r-1)=cL d A-r+1:=by omega
   refine⟨⟨by omega,hb⟩,⟨hb,rfl⟩,⟨by omega,hb⟩,hb,by simp only [InR]; omega,⟨by omega,hb⟩,⟨hb,rfl⟩,by simp only [InR]; omega,r-1,⟨⟨by omega,by omega⟩,by omega⟩,rfl,fun i hi=>?_,fun i hi=>?_,hx,plain_p _ _,plain_fnD _ _⟩
   ·rw [es]; exact cG_upd hb hi hK
   ·rw [es]; exact cO_upd hb hi hK
 ·have er:r=0:=by omega
  subst er
  refine⟨fun i hi=>?_,plain_fnD _ _⟩
  show [SV.i .i64 (cO d A (cL d A-0) i)]=[SV.i .i64 (cS d A i)]
  have:cO d A (cL d A-0) i=cS d A i:=by
   unfold cO cS shr
   rw [if_neg h0,Int.sub_zero]
   rfl
  rw [this]
theorem e_sharesR:V_sharesR=needE P [] [] A_sharesR F_sharesR:=by kernel_rfl
theorem n_sharesR:Ob (needE P [] [] A_sharesR F_sharesR):=by
 rw [← e_sharesR]
 exact⟨v_sharesR⟩
theorem b_sharesR:((P.funcs[85]?).any fun fn=>fn.body.isSome)=true:=by kernel_rfl
theorem sharesR_ok:FnE.Ok P F_sharesR:=FnE.ok named (l:=[]) (es:=[]) (A:=A_sharesR) (by rfl) (by rfl) (by rfl) (by
 intro F h; simp at h) (by
 intro F h; simp at h) b_sharesR (by
 intro ds h o ho n sz e k z he
 subst he
 simp only [F_sharesR]at ho
 split at ho
 ·simp only [List.mem_cons,List.not_mem_nil,or_false,SObj.gr.injEq]at ho
  obtain⟨rfl,rfl,rfl,rfl,rfl⟩:=ho
  exact plain_fnD _ _
 ·simp at ho) n_sharesR
end Go.Proofs.Ytfebjikidfcbcaa.Sy
