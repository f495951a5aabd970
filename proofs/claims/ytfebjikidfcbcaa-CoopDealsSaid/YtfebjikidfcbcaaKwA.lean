import Derived.Test.YtfebjikidfcbcaaSyP2
import Derived.Test.YtfebjikidfcbcaaGrM
import Derived.Test.YtfebjikidfcbcaaStM
import Derived.Test.YtfebjikidfcbcaaKtT
import Derived.Test.YtfebjikidfcbcaaKtA
import Derived.Test.YtfebjikidfcbcaaKtB
import Derived.Test.YtfebjikidfcbcaaSyP2
import Derived.KernelRfl
import Derived.Test.YtfebjikidfcbcaaProg
namespace Go.Proofs.Ytfebjikidfcbcaa.Sy
open Go Go.Rv
set_option linter.unusedVariables false
def colO (c:Nat) (L:Rows) (k:Nat):Rows:=(List.range k).map fun i=>[cell L i c]
theorem colO_len (c:Nat) (L:Rows) (k:Nat):(colO c L k).length=k:=by simp [colO]
theorem colO_row (c:Nat) (L:Rows) (k:Nat):∀r∈colO c L k,r.length=1:=by
 intro r hr
 simp only [colO,List.mem_map]at hr
 obtain⟨_,_,rfl⟩:=hr
 rfl
theorem colO_cell (c:Nat) (L:Rows) {n k:Nat} (h:k < n):cell (colO c L n) k 0=cell L k c:=by
 show(((List.range n).map fun i=>[cell L i c]).getD k []).getD 0 0=_
 simp [List.getD_eq_getElem?_getD,h]
theorem colO_succ (c:Nat) (L:Rows) (k:Nat):colO c L (k+1)=colO c L k++[[cell L k c]]:=by simp [colO,List.range_succ]
theorem snoc1 {R:Rows} {k:Nat} {x:Int} (hl:R.length=k):∀i,i < k+1→(behind k (.fn (Rv.elemOf [.i64] R)) 1 (litEl [SV.i .i64 x] 1 1)).at i=(El.fn (Rv.elemOf [.i64] (R++[[x]]))).at i:=fun i hi=>by
 have:=snoc_at (R:=R) (ks:=[.i64]) (r:=[x]) (cs:=[SV.i .i64 x]) rfl (i:=i) (by omega)
 rw [hl]at this
 exact this
def colG (g:Int):Nat:=if g=66 then 0 else if g=65 then 1 else 2
def colS (c:Nat) (A:Rows) (k:Nat):Int:=sumF (fun i=>cell A i c) k
theorem tot_col (c:Nat) (A:Rows) (n:Nat):∀k,k≤n→totTo (colO c A n) k=colS c A k
 | 0,_=>rfl
 | k+1,h=>by
  simp only [totTo,colS,sumF]
  rw [tot_col c A n k (by omega),colO_cell c A (by omega)]
  rfl
theorem sumF_bd {f:Nat→Int} {M:Int} (h0:0≤M):∀ {n:Nat},(∀i,i < n→-M≤f i∧f i≤M)→-(n*M)≤sumF f n∧sumF f n≤n*M
 | 0,_=>by simp [sumF]
 | n+1,h=>by
  have h1:=sumF_bd (f:=f) (M:=M) h0 (n:=n) fun i hi=>h i (by omega)
  have h2:=h n (by omega)
  have e:((n+1:Nat):Int)*M=n*M+M:=by rw [Int.natCast_add,Int.add_mul]; simp
  rw [e]
  simp only [sumF]
  generalize (n:Int)*M=q at *
  omega
def surp (A:Rows) (till:Int):Int:=till+colS 1 A A.length-colS 0 A A.length
def mny (n:Int):Prop:=0≤n∧n≤1000000000
def accAt (A:Rows) (k:Nat):Prop:=mny (cell A k 0)∧mny (cell A k 1)∧mny (cell A k 2)
open Classical in
noncomputable def coopErr (fee itr pri cre:Int) (A:Rows) (till:Int):Int:=
 if (0≤fee∧fee≤1000000)∧(0≤itr∧itr≤1000000)∧(0≤pri∧pri≤1000)∧mny cre then (if A.length=0 then 4 else if 12 < A.length then 5 else if ∀k,k < A.length→accAt A k then (if mny till then (if surp A till < 0 then 9 else 0)else 1)else 1)else 1
structure Small (A:Rows) (till:Int):Prop where
 l:A.length≤100
 a:∀i,i < A.length→(-1000000000000≤cell A i 0∧cell A i 0≤1000000000000)∧(-1000000000000≤cell A i 1∧cell A i 1≤1000000000000)∧(-1000000000000≤cell A i 2∧cell A i 2≤1000000000000)
 t:-1000000000000≤till∧till≤1000000000000
theorem Small.col {A:Rows} {till:Int} (h:Small A till) {c:Nat} (hc:c < 3):∀i,i < A.length→-1000000000000≤cell A i c∧cell A i c≤1000000000000:=fun i hi=>by
 have:=h.a i hi
 have:c=0∨c=1∨c=2:=by omega
 rcases this with rfl | rfl | rfl<;>omega
theorem Small.sum {A:Rows} {till:Int} (h:Small A till) {c:Nat} (hc:c < 3) {k:Nat} (hk:k≤A.length):-100000000000000≤colS c A k∧colS c A k≤100000000000000:=by
 have h1:=sumF_bd (f:=fun i=>cell A i c) (M:=1000000000000) (by omega) (n:=k) fun i hi=>h.col hc i (by omega)
 have hl:=h.l
 have h2:(k:Int)*1000000000000≤100*1000000000000:=Int.mul_le_mul_of_nonneg_right (by omega) (by omega)
 unfold colS
 omega
noncomputable def F_within:Fn0:=⟨43,[i64,i64,i64],fun _=>True,fun l=>match l with | [.z n,.z lo,.z hi]=>.p (lo≤n∧n≤hi) | _=>.v undef⟩
noncomputable def A_within:List SV→List Dat→Nat→List SV→Ann:=fun _ _ _ _=>noAnn
def V_within:Prop:=
 ∀(B:RW) (a b c:Int),True→(b≤a→Ob (a≤c↔b≤a∧a≤c)∧True)∧(¬b≤a→Ob (false=true↔b≤a∧a≤c)∧True)
set_option linter.unusedSimpArgs false in
set_option maxRecDepth 4000 in
set_option maxHeartbeats 400000 in
theorem v_within:V_within:=by
 unfold V_within
 intros
 simp only [Ob_iff,and_true,true_and,InR]at *
 all_goals grind
theorem e_within:V_within=needF P [] A_within F_within:=by kernel_rfl
theorem n_within:Ob (needF P [] A_within F_within):=by
 rw [← e_within]
 exact⟨v_within⟩
theorem b_within:((P.funcs[43]?).any fun fn=>fn.body.isSome)=true:=by kernel_rfl
theorem within_ok:Fn0.Ok P F_within:=Fn0.ok named (l:=[]) (A:=A_within) (by rfl) (by
 intro F h; simp at h) b_within (by
 intro ds N
 simp only [F_within]
 split<;>rfl) n_within
noncomputable def F_isPart:Fn0:=⟨42,[i64],fun _=>True,fun l=>match l with | [.z n]=>.p (0≤n∧n≤1000000) | _=>.v undef⟩
noncomputable def A_isPart:List SV→List Dat→Nat→List SV→Ann:=fun _ _ _ _=>noAnn
def V_isPart:Prop:=
 ∀(B:RW) (a:Int),True→Ob True∧Ob ((0:Int)≤a∧a≤(1000000:Int)↔(0:Int)≤a∧a≤(1000000:Int))∧True
set_option linter.unusedSimpArgs false in
set_option maxRecDepth 4000 in
set_option maxHeartbeats 400000 in
theorem v_isPart:V_isPart:=by
 unfold V_isPart
 intros
 exact⟨⟨trivial⟩,⟨Iff.rfl⟩,trivial⟩
theorem e_isPart:V_isPart=needF P [F_within] A_isPart F_isPart:=by kernel_rfl
theorem n_isPart:Ob (needF P [F_within] A_isPart F_isPart):=by
 rw [← e_isPart]
 exact⟨v_isPart⟩
theorem b_isPart:((P.funcs[42]?).any fun fn=>fn.body.isSome)=true:=by kernel_rfl
theorem isPart_ok:Fn0.Ok P F_isPart:=Fn0.ok named (l:=[F_within]) (A:=A_isPart) (by rfl) (by
 intro F h
 simp only [List.mem_cons,List.not_mem_nil,or_false]at h
 rcases h with rfl
 ·exact within_ok
) b_isPart (by
 intro ds N
 simp only [F_isPart]
 split<;>rfl) n_isPart
noncomputable def F_isMoney:Fn0:=⟨44,[i64],fun _=>True,fun l=>match l with | [.z n]=>.p (mny n) | _=>.v undef⟩
noncomputable def A_isMoney:List SV→List Dat→Nat→List SV→Ann:=fun _ _ _ _=>noAnn
def V_isMoney:Prop:=
 ∀(B:RW) (a:Int),True→Ob True∧Ob ((0:Int)≤a∧a≤(1000000000:Int)↔mny a)∧True
set_option linter.unusedSimpArgs false in
set_option maxRecDepth 4000 in
set_option maxHeartbeats 400000 in
theorem v_isMoney:V_isMoney:=by
 unfold V_isMoney
 intros
 exact⟨⟨trivial⟩,⟨Iff.rfl⟩,trivial⟩
theorem e_isMoney:V_isMoney=needF P [F_within] A_isMoney F_isMoney:=by kernel_rfl
theorem n_isMoney:Ob (needF P [F_within] A_isMoney F_isMoney):=by
 rw [← e_isMoney]
 exact⟨v_isMoney⟩
theorem b_isMoney:((P.funcs[44]?).any fun fn=>fn.body.isSome)=true:=by kernel_rfl
theorem isMoney_ok:Fn0.Ok P F_isMoney:=Fn0.ok named (l:=[F_within]) (A:=A_isMoney) (by rfl) (by
 intro F h
 simp only [List.mem_cons,List.not_mem_nil,or_false]at h
 rcases h with rfl
 ·exact within_ok
) b_isMoney (by
 intro ds N
 simp only [F_isMoney]
 split<;>rfl) n_isMoney
noncomputable def F_sum:Fn0:=⟨63,[.one (.l [.i64])],fun l=>match l with | [.l L]=>L.length≤100∧∀i,i < L.length→-1000000000000000≤cell L i 0∧cell L i 0≤1000000000000000 | _=>False,fun l=>match l with | [.l L]=>.i .i64 (totTo L L.length) | _=>.v undef⟩
noncomputable def A_sum:List SV→List Dat→Nat→List SV→Ann:=fun xs ds n ts=>match xs with
 | [.lst x _ _ _]=>match ds with
  | [.l L]=>match n with
   | 3=>⟨Nat,fun k=>([none,none,some (SV.v (Value.int IntKind.i64 (0:Int))),some (.i .i64 (totTo L k)),none,none,some (SV.lst x L.length ((1:Nat)) (Rv.elemOf [IntKind.i64] L)),some (SV.i IntKind.i64 (↑L.length:Int)),some (.i .i64 k)]++nN 8),fun k=>[],fun k=>k≤L.length,fun k=>L.length-k,0⟩
   | _=>noAnn
  | _=>noAnn
 | _=>noAnn
def V_sum:Prop:=
 ∀(B:RW) (c:RV) (a:List (List Int)),IsLst B c a.length 1 (Rv.elemOf [.i64] a)→oneB c=true→(∀row∈a,row.length=1)→(a.length≤100∧∀(e:Nat),e < a.length→(-1000000000000000:Int)≤cell a e 0∧cell a e 0≤(1000000000000000:Int))→LsA B c [.i64] a∧(∃(b:Nat),Ob (b≤a.length)∧Ob (Value.int .i64 (0:Int)=Value.int .i64 (0:Int))∧Ob ((0:Int)=totTo a b)∧Ob (SV.lst c a.length 1 (Rv.elemOf [.i64] a)=SV.lst c a.length 1 (Rv.elemOf [.i64] a))∧Ob ((↑a.length:Int)=(↑a.length:Int))∧Ob ((0:Int)=(↑b:Int))∧LsA B c [.i64] a∧True)∧∀(b:Nat),b≤a.length→∀(_ _ _ _ _ _ _ _ _ _ _ _:Value),((↑b:Int) < (↑a.length:Int)→Ob ((0:Int)≤(↑b:Int)∧b < a.length∧IsLst B c a.length 1 (Rv.elemOf [.i64] a))∧Ob (IsLst B c a.length 1 (Rv.elemOf [.i64] a)∧b < a.length)∧Ob (InR .i64 (totTo a b+cell a b 0))∧Ob (InR .i64 ((↑b:Int)+(1:Int)))∧∃(d:Nat),Ob (d≤a.length∧a.length-d < a.length-b)∧Ob (Value.int .i64 (0:Int)=Value.int .i64 (0:Int))∧Ob (totTo a b+cell a b 0=totTo a d)∧Ob (SV.lst c a.length 1 (Rv.elemOf [.i64] a)=SV.lst c a.length 1 (Rv.elemOf [.i64] a))∧Ob ((↑a.length:Int)=(↑a.length:Int))∧Ob ((↑b:Int)+(1:Int)=(↑d:Int))∧LsA B c [.i64] a∧True)∧(¬(↑b:Int) < (↑a.length:Int)→Ob (totTo a b=totTo a a.length)∧True)
set_option linter.unusedSimpArgs false in
set_option maxRecDepth 4000 in
set_option maxHeartbeats 400000 in
theorem v_sum:V_sum:=by
 unfold V_sum LsA
 intro B x L hx hox hrx ⟨h1,h2⟩
 simp only [Ob_iff,and_true,true_and]
 refine⟨hx,⟨0,by omega,rfl,rfl,hx⟩,?_⟩
 intro k hk
 intros
 have hb:∀j,j≤L.length→-(j*1000000000000000:Int)≤totTo L j∧totTo L j≤j*1000000000000000:=fun j=>by
  induction j with
  | zero=>intro _; simp [totTo]
  | succ j ih =>
   intro hj
   have h3:=ih (by omega)
   have h4:=h2 j (by omega)
   have e:((j+1:Nat):Int)*1000000000000000=j*1000000000000000+1000000000000000:=by omega
   simp only [totTo,e]
   omega
 refine⟨fun h3=>?_,fun h3=>?_⟩
 ·have hk':k < L.length:=by omega
  have h4:=hb k hk
  have h5:=h2 k hk'
  exact⟨⟨by omega,hk',hx⟩,⟨hx,hk'⟩,by simp only [InR]; omega,by simp only [InR]; omega,k+1,⟨hk',by omega⟩,rfl,by omega,hx⟩
 ·have e:k=L.length:=by omega
  rw [e]
theorem e_sum:V_sum=needF P [] A_sum F_sum:=by kernel_rfl
theorem n_sum:Ob (needF P [] A_sum F_sum):=by
 rw [← e_sum]
 exact⟨v_sum⟩
theorem b_sum:((P.funcs[63]?).any fun fn=>fn.body.isSome)=true:=by kernel_rfl
theorem sum_ok:Fn0.Ok P F_sum:=Fn0.ok named (l:=[]) (A:=A_sum) (by rfl) (by
 intro F h; simp at h) b_sum (by
 intro ds N
 simp only [F_sum]
 split<;>rfl) n_sum
noncomputable def F_debtOf:Fn0:=⟨65,[.agg [.i .i64,.i .i64,.i .i64]],fun _=>True,fun l=>match l with | [.z a,.z b,.z c]=>.i .i64 b | _=>.v undef⟩
noncomputable def A_debtOf:List SV→List Dat→Nat→List SV→Ann:=fun _ _ _ _=>noAnn
def V_debtOf:Prop:=
 ∀(B:RW) (c a b:Int),True→Ob (a=a)∧True
set_option linter.unusedSimpArgs false in
set_option maxRecDepth 4000 in
set_option maxHeartbeats 400000 in
theorem v_debtOf:V_debtOf:=by
 unfold V_debtOf
 intros
 exact⟨⟨rfl⟩,trivial⟩
theorem e_debtOf:V_debtOf=needF P [] A_debtOf F_debtOf:=by kernel_rfl
theorem n_debtOf:Ob (needF P [] A_debtOf F_debtOf):=by
 rw [← e_debtOf]
 exact⟨v_debtOf⟩
theorem b_debtOf:((P.funcs[65]?).any fun fn=>fn.body.isSome)=true:=by kernel_rfl
theorem debtOf_ok:Fn0.Ok P F_debtOf:=Fn0.ok named (l:=[]) (A:=A_debtOf) (by rfl) (by
 intro F h; simp at h) b_debtOf (by
 intro ds N
 simp only [F_debtOf]
 split<;>rfl) n_debtOf
noncomputable def F_balanceOf:Fn0:=⟨66,[.agg [.i .i64,.i .i64,.i .i64]],fun _=>True,fun l=>match l with | [.z a,.z b,.z c]=>.i .i64 a | _=>.v undef⟩
noncomputable def A_balanceOf:List SV→List Dat→Nat→List SV→Ann:=fun _ _ _ _=>noAnn
def V_balanceOf:Prop:=
 ∀(B:RW) (a c b:Int),True→Ob (a=a)∧True
set_option linter.unusedSimpArgs false in
set_option maxRecDepth 4000 in
set_option maxHeartbeats 400000 in
theorem v_balanceOf:V_balanceOf:=by
 unfold V_balanceOf
 intros
 exact⟨⟨rfl⟩,trivial⟩
theorem e_balanceOf:V_balanceOf=needF P [] A_balanceOf F_balanceOf:=by kernel_rfl
theorem n_balanceOf:Ob (needF P [] A_balanceOf F_balanceOf):=by
 rw [← e_balanceOf]
 exact⟨v_balanceOf⟩
theorem b_balanceOf:((P.funcs[66]?).any fun fn=>fn.body.isSome)=true:=by kernel_rfl
theorem balanceOf_ok:Fn0.Ok P F_balanceOf:=Fn0.ok named (l:=[]) (A:=A_balanceOf) (by rfl) (by
 intro F h; simp at h) b_balanceOf (by
 intro ds N
 simp only [F_balanceOf]
 split<;>rfl) n_balanceOf
noncomputable def F_seasonOf:Fn0:=⟨67,[.agg [.i .i64,.i .i64,.i .i64]],fun _=>True,fun l=>match l with | [.z a,.z b,.z c]=>.i .i64 c | _=>.v undef⟩
noncomputable def A_seasonOf:List SV→List Dat→Nat→List SV→Ann:=fun _ _ _ _=>noAnn
def V_seasonOf:Prop:=
 ∀(B:RW) (c b a:Int),True→Ob (a=a)∧True
set_option linter.unusedSimpArgs false in
set_option maxRecDepth 4000 in
set_option maxHeartbeats 400000 in
theorem v_seasonOf:V_seasonOf:=by
 unfold V_seasonOf
 intros
 exact⟨⟨rfl⟩,trivial⟩
theorem e_seasonOf:V_seasonOf=needF P [] A_seasonOf F_seasonOf:=by kernel_rfl
theorem n_seasonOf:Ob (needF P [] A_seasonOf F_seasonOf):=by
 rw [← e_seasonOf]
 exact⟨v_seasonOf⟩
theorem b_seasonOf:((P.funcs[67]?).any fun fn=>fn.body.isSome)=true:=by kernel_rfl
theorem seasonOf_ok:Fn0.Ok P F_seasonOf:=Fn0.ok named (l:=[]) (A:=A_seasonOf) (by rfl) (by
 intro F h; simp at h) b_seasonOf (by
 intro ds N
 simp only [F_seasonOf]
 split<;>rfl) n_seasonOf
noncomputable def F_each:FnE:=⟨64,none,[.agg [.i .i64,.i .i64,.i .i64,.i .i64,.l [.i64,.i64,.i64],.i .i64],.one (.f [65,66,67])],fun l=>match l with | [.z fee,.z itr,.z pri,.z cre,.l A,.z till,.z g]=>A.length≤4000000 | _=>False,fun l=>match l with | [.z fee,.z itr,.z pri,.z cre,.l A,.z till,.z g]=>[.gsl 0 A.length 1 true] | _=>[],fun l=>match l with | [.z fee,.z itr,.z pri,.z cre,.l A,.z till,.z g]=>[.gr A.length 1 (.fn (Rv.elemOf [.i64] (colO (colG g) A A.length))) .gr true] | _=>[],fun l=>match l with | [.z fee,.z itr,.z pri,.z cre,.l A,.z till,.z g]=>[] | _=>[],false,none,none⟩
noncomputable def A_each:List SV→List Dat→Nat→List SV→Ann:=fun xs ds n ts=>match xs with
 | [.agg [_,_,_,_,.lst x _ _ _,_],.v (Value.func (.func g0) fa fc)]=>match ds with
  | [.z fee,.z itr,.z pri,.z cre,.l A,.z till,.z g]=>match n with
   | 3=>⟨Nat,fun k=>([none,some (.v (Value.func (.func g0) fa fc)),none,none,some (SV.v (Value.slice none ((0:Nat)) ((0:Nat)))),some (.gsl 1 k 1 true),none,none,none,none,some (SV.lst x A.length ((3:Nat)) (Rv.elemOf [IntKind.i64,IntKind.i64,IntKind.i64] A)),some (SV.i IntKind.i64 (↑A.length:Int)),some (.i .i64 k)]++nN 11),fun k=>[.gr k 1 (.fn (Rv.elemOf [.i64] (colO (colG g) A k))) .gr true,SObj.cells [SV.i IntKind.i64 fee,SV.i IntKind.i64 itr,SV.i IntKind.i64 pri,SV.i IntKind.i64 cre,SV.lst x A.length ((3:Nat)) (Rv.elemOf [IntKind.i64,IntKind.i64,IntKind.i64] A),SV.i IntKind.i64 till] Kd.ex],fun k=>k≤A.length,fun k=>A.length-k,0⟩
   | _=>noAnn
  | _=>noAnn
 | _=>noAnn
def V_each:Prop:=
 ∀(B:RW) (f g i h:Int) (c:RV) (a:List (List Int)),IsLst B c a.length 3 (Rv.elemOf I3 a)→oneB c=true→(∀row∈a,row.length=3)→∀(e:Int),(F_each.pre ([Dat.z f,Dat.z g,Dat.z i,Dat.z h,Dat.l a,Dat.z e]++([Dat.z (Int.ofNat (65:FuncId))]++[]))→LsA B c I3 a∧(∃(b:Nat),Ob (b≤a.length)∧Ob (SV.v (Value.func (Fn.func (65:FuncId)) #[] #[])=SV.v (Value.func (Fn.func (65:FuncId)) #[] #[]))∧Ob (SV.v (Value.slice none 0 0)=SV.v (Value.slice none 0 0))∧Ob (b=(0:Nat))∧Ob (SV.lst c a.length 3 (Rv.elemOf I3 a)=SV.lst c a.length 3 (Rv.elemOf I3 a))∧Ob ((↑a.length:Int)=(↑a.length:Int))∧Ob ((0:Int)=(↑b:Int))∧Ob (b=(0:Nat))∧Ob (f=f)∧Ob (g=g)∧Ob (i=i)∧Ob (h=h)∧Ob (SV.lst c a.length 3 (Rv.elemOf I3 a)=SV.lst c a.length 3 (Rv.elemOf I3 a))∧Ob (e=e)∧LsA B c I3 a∧Ob (PlainE b (El.fn (Rv.elemOf [.i64] (colO 1 a b))))∧LsA B c I3 a∧True)∧∀(b:Nat),b≤a.length→∀(_ _ _ _ _ _ _ _ _ _ _ _ _ _ _ _ _ _:Value),((↑b:Int) < (↑a.length:Int)→Ob ((0:Int)≤(↑b:Int)∧b < a.length∧IsLst B c a.length 3 (Rv.elemOf I3 a))∧Ob (IsLst B c a.length 3 (Rv.elemOf I3 a)∧b < a.length)∧Ob True∧Ob (b=b∧∀(j:Nat),j < b→((El.fn (Rv.elemOf [.i64] (colO 1 a b))).at j).length=(1:Nat))∧Ob ((b+(1:Nat))*(2:Nat)*(9:Nat)≤1099511627776)∧Ob (b=b)∧Ob (InR .i64 ((↑b:Int)+(1:Int)))∧∃(d:Nat),Ob (d≤a.length∧a.length-d < a.length-b)∧Ob (SV.v (Value.func (Fn.func (65:FuncId)) #[] #[])=SV.v (Value.func (Fn.func (65:FuncId)) #[] #[]))∧Ob (SV.v (Value.slice none 0 0)=SV.v (Value.slice none 0 0))∧Ob (b+(1:Nat)=d)∧Ob (SV.lst c a.length 3 (Rv.elemOf I3 a)=SV.lst c a.length 3 (Rv.elemOf I3 a))∧Ob ((↑a.length:Int)=(↑a.length:Int))∧Ob ((↑b:Int)+(1:Int)=(↑d:Int))∧EqA (b+(1:Nat)) d (behind b (El.fn (Rv.elemOf [.i64] (colO 1 a b))) 1 (litEl (symL [SV.i .i64 (cell a b 1)]) 1 1)) (El.fn (Rv.elemOf [.i64] (colO 1 a d)))∧Ob (f=f)∧Ob (g=g)∧Ob (i=i)∧Ob (h=h)∧Ob (SV.lst c a.length 3 (Rv.elemOf I3 a)=SV.lst c a.length 3 (Rv.elemOf I3 a))∧Ob (e=e)∧LsA B c I3 a∧Ob (PlainE d (El.fn (Rv.elemOf [.i64] (colO 1 a d))))∧LsA B c I3 a∧True)∧(¬(↑b:Int) < (↑a.length:Int)→Ob (b=a.length)∧EqA b a.length (El.fn (Rv.elemOf [.i64] (colO 1 a b))) (El.fn (Rv.elemOf [.i64] (colO 1 a a.length)))∧Ob (PlainE a.length (El.fn (Rv.elemOf [.i64] (colO 1 a a.length))))∧True))∧(F_each.pre ([Dat.z f,Dat.z g,Dat.z i,Dat.z h,Dat.l a,Dat.z e]++([Dat.z (Int.ofNat (66:FuncId))]++[]))→LsA B c I3 a∧(∃(b:Nat),Ob (b≤a.length)∧Ob (SV.v (Value.func (Fn.func (66:FuncId)) #[] #[])=SV.v (Value.func (Fn.func (66:FuncId)) #[] #[]))∧Ob (SV.v (Value.slice none 0 0)=SV.v (Value.slice none 0 0))∧Ob (b=(0:Nat))∧Ob (SV.lst c a.length 3 (Rv.elemOf I3 a)=SV.lst c a.length 3 (Rv.elemOf I3 a))∧Ob ((↑a.length:Int)=(↑a.length:Int))∧Ob ((0:Int)=(↑b:Int))∧Ob (b=(0:Nat))∧Ob (f=f)∧Ob (g=g)∧Ob (i=i)∧Ob (h=h)∧Ob (SV.lst c a.length 3 (Rv.elemOf I3 a)=SV.lst c a.length 3 (Rv.elemOf I3 a))∧Ob (e=e)∧LsA B c I3 a∧Ob (PlainE b (El.fn (Rv.elemOf [.i64] (colO 0 a b))))∧LsA B c I3 a∧True)∧∀(b:Nat),b≤a.length→∀(_ _ _ _ _ _ _ _ _ _ _ _ _ _ _ _ _ _:Value),((↑b:Int) < (↑a.length:Int)→Ob ((0:Int)≤(↑b:Int)∧b < a.length∧IsLst B c a.length 3 (Rv.elemOf I3 a))∧Ob (IsLst B c a.length 3 (Rv.elemOf I3 a)∧b < a.length)∧Ob True∧Ob (b=b∧∀(j:Nat),j < b→((El.fn (Rv.elemOf [.i64] (colO 0 a b))).at j).length=(1:Nat))∧Ob ((b+(1:Nat))*(2:Nat)*(9:Nat)≤1099511627776)∧Ob (b=b)∧Ob (InR .i64 ((↑b:Int)+(1:Int)))∧∃(d:Nat),Ob (d≤a.length∧a.length-d < a.length-b)∧Ob (SV.v (Value.func (Fn.func (66:FuncId)) #[] #[])=SV.v (Value.func (Fn.func (66:FuncId)) #[] #[]))∧Ob (SV.v (Value.slice none 0 0)=SV.v (Value.slice none 0 0))∧Ob (b+(1:Nat)=d)∧Ob (SV.lst c a.length 3 (Rv.elemOf I3 a)=SV.lst c a.length 3 (Rv.elemOf I3 a))∧Ob ((↑a.length:Int)=(↑a.length:Int))∧Ob ((↑b:Int)+(1:Int)=(↑d:Int))∧EqA (b+(1:Nat)) d (behind b (El.fn (Rv.elemOf [.i64] (colO 0 a b))) 1 (litEl (symL [SV.i .i64 (cell a b 0)]) 1 1)) (El.fn (Rv.elemOf [.i64] (colO 0 a d)))∧Ob (f=f)∧Ob (g=g)∧Ob (i=i)∧Ob (h=h)∧Ob (SV.lst c a.length 3 (Rv.elemOf I3 a)=SV.lst c a.length 3 (Rv.elemOf I3 a))∧Ob (e=e)∧LsA B c I3 a∧Ob (PlainE d (El.fn (Rv.elemOf [.i64] (colO 0 a d))))∧LsA B c I3 a∧True)∧(¬(↑b:Int) < (↑a.length:Int)→Ob (b=a.length)∧EqA b a.length (El.fn (Rv.elemOf [.i64] (colO 0 a b))) (El.fn (Rv.elemOf [.i64] (colO 0 a a.length)))∧Ob (PlainE a.length (El.fn (Rv.elemOf [.i64] (colO 0 a a.length))))∧True))∧(F_each.pre ([Dat.z f,Dat.z g,Dat.z i,Dat.z h,Dat.l a,Dat.z e]++([Dat.z (Int.ofNat (67:FuncId))]++[]))→LsA B c I3 a∧(∃(b:Nat),Ob (b≤a.length)∧Ob (SV.v (Value.func (Fn.func (67:FuncId)) #[] #[])=SV.v (Value.func (Fn.func (67:FuncId)) #[] #[]))∧Ob (SV.v (Value.slice none 0 0)=SV.v (Value.slice none 0 0))∧Ob (b=(0:Nat))∧Ob (SV.lst c a.length 3 (Rv.elemOf I3 a)=SV.lst c a.length 3 (Rv.elemOf I3 a))∧Ob ((↑a.length:Int)=(↑a.length:Int))∧Ob ((0:Int)=(↑b:Int))∧Ob (b=(0:Nat))∧Ob (f=f)∧Ob (g=g)∧Ob (i=i)∧Ob (h=h)∧Ob (SV.lst c a.length 3 (Rv.elemOf I3 a)=SV.lst c a.length 3 (Rv.elemOf I3 a))∧Ob (e=e)∧LsA B c I3 a∧Ob (PlainE b (El.fn (Rv.elemOf [.i64] (colO 2 a b))))∧LsA B c I3 a∧True)∧∀(b:Nat),b≤a.length→∀(_ _ _ _ _ _ _ _ _ _ _ _ _ _ _ _ _ _:Value),((↑b:Int) < (↑a.length:Int)→Ob ((0:Int)≤(↑b:Int)∧b < a.length∧IsLst B c a.length 3 (Rv.elemOf I3 a))∧Ob (IsLst B c a.length 3 (Rv.elemOf I3 a)∧b < a.length)∧Ob True∧Ob (b=b∧∀(j:Nat),j < b→((El.fn (Rv.elemOf [.i64] (colO 2 a b))).at j).length=(1:Nat))∧Ob ((b+(1:Nat))*(2:Nat)*(9:Nat)≤1099511627776)∧Ob (b=b)∧Ob (InR .i64 ((↑b:Int)+(1:Int)))∧∃(d:Nat),Ob (d≤a.length∧a.length-d < a.length-b)∧Ob (SV.v (Value.func (Fn.func (67:FuncId)) #[] #[])=SV.v (Value.func (Fn.func (67:FuncId)) #[] #[]))∧Ob (SV.v (Value.slice none 0 0)=SV.v (Value.slice none 0 0))∧Ob (b+(1:Nat)=d)∧Ob (SV.lst c a.length 3 (Rv.elemOf I3 a)=SV.lst c a.length 3 (Rv.elemOf I3 a))∧Ob ((↑a.length:Int)=(↑a.length:Int))∧Ob ((↑b:Int)+(1:Int)=(↑d:Int))∧EqA (b+(1:Nat)) d (behind b (El.fn (Rv.elemOf [.i64] (colO 2 a b))) 1 (litEl (symL [SV.i .i64 (cell a b 2)]) 1 1)) (El.fn (Rv.elemOf [.i64] (colO 2 a d)))∧Ob (f=f)∧Ob (g=g)∧Ob (i=i)∧Ob (h=h)∧Ob (SV.lst c a.length 3 (Rv.elemOf I3 a)=SV.lst c a.length 3 (Rv.elemOf I3 a))∧Ob (e=e)∧LsA B c I3 a∧Ob (PlainE d (El.fn (Rv.elemOf [.i64] (colO 2 a d))))∧LsA B c I3 a∧True)∧(¬(↑b:Int) < (↑a.length:Int)→Ob (b=a.length)∧EqA b a.length (El.fn (Rv.elemOf [.i64] (colO 2 a b))) (El.fn (Rv.elemOf [.i64] (colO 2 a a.length)))∧Ob (PlainE a.length (El.fn (Rv.elemOf [.i64] (colO 2 a a.length))))∧True))∧True
set_option linter.unusedSimpArgs false in
set_option maxRecDepth 4000 in
set_option maxHeartbeats 400000 in
theorem v_each:V_each:=by
 unfold V_each EqA I3 LsA
 intro B fee itr pri cre x A hx hox hrx till
 have step:∀(c k:Nat),k < A.length→(k+1=k+1∧∀i,i < k+1→(behind k (El.fn (Rv.elemOf [.i64] (colO c A k))) 1 (litEl [SV.i .i64 (cell A k c)] 1 1)).at i=(El.fn (Rv.elemOf [.i64] (colO c A (k+1)))).at i):=fun c k _=>by
  have hs:=snoc1 (x:=cell A k c) (colO_len c A k)
  rw [← colO_succ]at hs
  exact⟨rfl,hs⟩
 refine⟨fun h=>?_,fun h=>?_,fun h=>?_,trivial⟩
 all_goals
  have h:A.length≤4000000:=h
  simp only [Ob_iff,and_true,true_and]
  refine⟨hx,⟨0,Nat.zero_le _,?_⟩,?_⟩
  ·repeat' (first | assumption | exact plain_elemOf _ _ _ | (with_reducible rfl) | exact fun _ _=>rfl | exact fun _ _=>trivial | trivial | omega | with_reducible apply And.intro)
  intro k hk
  intros
  refine⟨fun h1=>?_,fun h1=>?_⟩
  ·have hk':k < A.length:=by omega
   refine⟨⟨by omega,hk',hx⟩,⟨hx,hk'⟩,fun _ _=>rfl,by omega,by simp only [InR]; omega,k+1,⟨hk',by omega⟩,?_⟩
   have s0:=step 0 k hk'
   have s1:=step 1 k hk'
   have s2:=step 2 k hk'
   repeat' (first | assumption | exact s0 | exact s1 | exact s2 | exact plain_elemOf _ _ _ | exact plain_fn1 _ _ | (with_reducible rfl) | exact fun _ _=>rfl | exact fun _ _=>trivial | trivial | omega | with_reducible apply And.intro)
  ·have e:k=A.length:=by omega
   subst e
   repeat' (first | assumption | exact plain_elemOf _ _ _ | (with_reducible rfl) | exact fun _ _=>rfl | exact fun _ _=>trivial | trivial | with_reducible apply And.intro)
theorem e_each:V_each=needE P [F_debtOf,F_balanceOf,F_seasonOf] [] A_each F_each:=by kernel_rfl
theorem n_each:Ob (needE P [F_debtOf,F_balanceOf,F_seasonOf] [] A_each F_each):=by
 rw [← e_each]
 exact⟨v_each⟩
theorem b_each:((P.funcs[64]?).any fun fn=>fn.body.isSome)=true:=by kernel_rfl
theorem each_ok:FnE.Ok P F_each:=FnE.ok named (l:=[F_debtOf,F_balanceOf,F_seasonOf]) (es:=[]) (A:=A_each) (by rfl) (by rfl) (by rfl) (by
 intro F h
 simp only [List.mem_cons,List.not_mem_nil,or_false]at h
 rcases h with rfl | rfl | rfl
 ·exact debtOf_ok
 ·exact balanceOf_ok
 ·exact seasonOf_ok
) (by
 intro F h; simp at h) b_each (by
 intro ds h o ho n sz e k z he
 subst he
 simp only [F_each]at ho
 split at ho
 ·simp only [List.mem_cons,List.not_mem_nil,or_false,SObj.gr.injEq]at ho
  obtain⟨rfl,rfl,rfl,rfl,rfl⟩:=ho
  exact plain_elemOf _ _ _
 ·simp at ho) n_each
end Go.Proofs.Ytfebjikidfcbcaa.Sy
