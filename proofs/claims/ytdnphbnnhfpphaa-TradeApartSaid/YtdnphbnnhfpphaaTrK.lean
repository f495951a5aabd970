import Derived.Test.YtdnphbnnhfpphaaSyP2
import Derived.Test.YtdnphbnnhfpphaaGrM
import Derived.Test.YtdnphbnnhfpphaaKtT
import Derived.Test.YtdnphbnnhfpphaaTrA
import Derived.Test.YtdnphbnnhfpphaaTrN
import Derived.Test.YtdnphbnnhfpphaaTrB
import Derived.Test.YtdnphbnnhfpphaaTrC
import Derived.Test.YtdnphbnnhfpphaaTrD
import Derived.Test.YtdnphbnnhfpphaaTrE
import Derived.Test.YtdnphbnnhfpphaaTrG
import Derived.Test.YtdnphbnnhfpphaaTrH
import Derived.Test.YtdnphbnnhfpphaaTrI
import Derived.Test.YtdnphbnnhfpphaaTrJ
import Derived.Test.YtdnphbnnhfpphaaTrM
import Derived.Test.YtdnphbnnhfpphaaSyP2
import Derived.KernelRfl
import Derived.Test.YtdnphbnnhfpphaaProg
namespace Go.Proofs.Ytdnphbnnhfpphaa.Sy
open Go Go.Rv
set_option linter.unusedVariables false
noncomputable def F_law:LawF:=⟨4,[.one (.l [.i64])],fun l=>match l with | [.l N]=>N.length≤9223372036854775807 | _=>False⟩
noncomputable def A_law:List SV→List Dat→Nat→List SV→Ann:=fun xs ds n ts=>match xs with
 | [.lst xz _ _ _]=>match ds with
  | [.l N]=>match n with
   | 7=>⟨ApS,fun v=>([none,none,some (SV.v (Value.bool false)),some (.ptr 0 0),some (.gsl 1 v.R.length 6 true),some (.gsl 2 v.L.length 4 true),some (.i .i64 (v.g:Nat)),some (.gsl 3 (fO v.L (v.g:Nat) v.k).length 4 true),some (.gsl 4 (fB v.L (v.g:Nat) v.k).length 4 true),some (.gsl 5 (fR v.L (v.g:Nat) v.k).length 4 true),some (.i .i64 v.k)]++nN 135),fun v=>[.gr (fR v.L (v.g:Nat) v.k).length 4 (.fn (Rv.elemOf [.i64,.i64,.i64,.i64] (fR v.L (v.g:Nat) v.k))) .gr true,.gr (fB v.L (v.g:Nat) v.k).length 4 (.fn (Rv.elemOf [.i64,.i64,.i64,.i64] (fB v.L (v.g:Nat) v.k))) .gr true,.gr (fO v.L (v.g:Nat) v.k).length 4 (.fn (Rv.elemOf [.i64,.i64,.i64,.i64] (fO v.L (v.g:Nat) v.k))) .gr true,.gr v.L.length 4 (.fn (Rv.elemOf [.i64,.i64,.i64,.i64] v.L)) .gr true,.gr v.R.length 6 (.fn (Rv.elemOf [.u16,.i64,.i64,.i8,.i8,.i64] v.R)) .gr true,.cells [.i .u64 v.q] .ex],fun v=>ApOk v∧v.k≤v.L.length,fun v=>v.L.length-v.k,0⟩
   | _=>noAnn
  | _=>noAnn
 | _=>noAnn
set_option maxRecDepth 10000 in
def V_law:Prop:=
 ∀(B:RW),hasTabs [] B→∀(r:RV) (n:List (List Int)),IsLst B r n.length 1 (Rv.elemOf [.i64] n)→oneB r=true→(∀row∈n,row.length=1)→n.length≤9223372036854775807→RwB B r n.length 1 [.i64] n fun g=>Ob (F_TideOf.named.pre [Dat.l g])∧Ob (F_MarketOf.named.pre ([Dat.z (tideK g g.length)]++[]))∧∀(m:Int),m=mkQ (belowA (tideK g g.length) (4:Int)) ((1:Int)+belowV (tideK g g.length) (4:Int)).toNat→Ob (F_LedgerOf.named.pre ([Dat.z m]++[Dat.z (↑((1:Int)+belowV (tideK g g.length) (4:Int)).toNat:Int),Dat.z (20:Int)]))∧∀(q:Int),q=lgQ (↑((1:Int)+belowV (tideK g g.length) (4:Int)).toNat:Int) (belowA m ((20:Int)+(1:Int))) (belowV m ((20:Int)+(1:Int))).toNat→Ob (F_Below.named.pre ([Dat.z q]++[Dat.z (↑((1:Int)+belowV (tideK g g.length) (4:Int)).toNat:Int)]))∧∀(t:Int),t=belowA q (↑((1:Int)+belowV (tideK g g.length) (4:Int)).toNat:Int)→∀(s:Int),s=belowV q (↑((1:Int)+belowV (tideK g g.length) (4:Int)).toNat:Int)→(∃(a:ApS),Ob (ApOk a∧a.k≤a.L.length)∧Ob (SV.v (Value.bool false)=SV.v (Value.bool false))∧Ob (((1:Int)+belowV (tideK g g.length) (4:Int)).toNat=a.R.length)∧Ob (List.length (lgL (↑((1:Int)+belowV (tideK g g.length) (4:Int)).toNat:Int) (belowA m ((20:Int)+(1:Int))) (belowV m ((20:Int)+(1:Int))).toNat)=a.L.length)∧Ob (s=(↑a.g:Int))∧Ob (List.length (fO a.L (↑a.g:Int) a.k)=(0:Nat))∧Ob (List.length (fB a.L (↑a.g:Int) a.k)=(0:Nat))∧Ob (List.length (fR a.L (↑a.g:Int) a.k)=(0:Nat))∧Ob ((0:Int)=(↑a.k:Int))∧Ob (List.length (fR a.L (↑a.g:Int) a.k)=(0:Nat))∧Ob (List.length (fB a.L (↑a.g:Int) a.k)=(0:Nat))∧Ob (List.length (fO a.L (↑a.g:Int) a.k)=(0:Nat))∧EqR I4 (lgL (↑((1:Int)+belowV (tideK g g.length) (4:Int)).toNat:Int) (belowA m ((20:Int)+(1:Int))) (belowV m ((20:Int)+(1:Int))).toNat) a.L∧EqA (((1:Int)+belowV (tideK g g.length) (4:Int)).toNat) a.R.length (El.fn (Rv.elemOf [IntKind.u16,.i64,.i64,IntKind.i8,IntKind.i8,.i64] (mkR (belowA (tideK g g.length) (4:Int)) ((1:Int)+belowV (tideK g g.length) (4:Int)).toNat))) (El.fn (Rv.elemOf [IntKind.u16,.i64,.i64,IntKind.i8,IntKind.i8,.i64] a.R))∧Ob (t=a.q)∧PlA I4 (fR a.L (↑a.g:Int) a.k)∧PlA I4 (fB a.L (↑a.g:Int) a.k)∧PlA I4 (fO a.L (↑a.g:Int) a.k)∧PlA I4 a.L∧Ob (PlainE (a.R.length) (El.fn (Rv.elemOf [IntKind.u16,.i64,.i64,IntKind.i8,IntKind.i8,.i64] a.R)))∧True)∧∀(a:ApS),ApOk a∧a.k≤a.L.length→∀(_ _ _ _ _ _ _ _ _ _ _ _ _ _ _ _ _ _ _ _ _ _ _ _ _ _ _ _ _ _ _ _ _ _ _ _ _ _ _ _ _ _ _ _ _ _ _ _ _ _ _ _ _ _ _ _ _ _ _ _ _ _ _ _ _ _ _ _ _ _ _ _ _ _ _ _ _ _ _ _ _ _ _ _ _ _ _ _ _ _ _ _ _ _ _ _ _ _ _ _ _ _ _ _ _ _ _ _ _ _ _ _ _ _ _ _ _ _ _ _ _ _ _ _ _ _ _ _ _ _ _ _ _ _ _ _ _:Value),((↑a.k:Int) < (↑(a.L.length):Int)→Ob ((0:Int)≤(↑a.k:Int)∧a.k < a.L.length)∧Ob (a.k < a.L.length)∧(¬cell a.L a.k 1=(↑a.g:Int)→Ob (InR .i64 ((↑a.k:Int)+(1:Int)))∧∃(c:ApS),Ob ((ApOk c∧c.k≤List.length c.L)∧List.length c.L-c.k < a.L.length-a.k)∧Ob (SV.v (Value.bool false)=SV.v (Value.bool false))∧Ob (a.R.length=List.length c.R)∧Ob (a.L.length=List.length c.L)∧Ob ((↑a.g:Int)=(↑c.g:Int))∧Ob (List.length (fO a.L (↑a.g:Int) a.k)=List.length (fO c.L (↑c.g:Int) c.k))∧Ob (List.length (fB a.L (↑a.g:Int) a.k)=List.length (fB c.L (↑c.g:Int) c.k))∧Ob (List.length (fR a.L (↑a.g:Int) a.k)=List.length (fR c.L (↑c.g:Int) c.k))∧Ob ((↑a.k:Int)+(1:Int)=(↑c.k:Int))∧EqR I4 (fR a.L (↑a.g:Int) a.k) (fR c.L (↑c.g:Int) c.k)∧EqR I4 (fB a.L (↑a.g:Int) a.k) (fB c.L (↑c.g:Int) c.k)∧EqR I4 (fO a.L (↑a.g:Int) a.k) (fO c.L (↑c.g:Int) c.k)∧EqR I4 a.L c.L∧EqA a.R.length (List.length c.R) (El.fn (Rv.elemOf [IntKind.u16,.i64,.i64,IntKind.i8,IntKind.i8,.i64] a.R)) (El.fn (Rv.elemOf [IntKind.u16,.i64,.i64,IntKind.i8,IntKind.i8,.i64] c.R))∧Ob (a.q=c.q)∧PlA I4 (fR c.L (↑c.g:Int) c.k)∧PlA I4 (fB c.L (↑c.g:Int) c.k)∧PlA I4 (fO c.L (↑c.g:Int) c.k)∧PlA I4 c.L∧Ob (PlainE (List.length c.R) (El.fn (Rv.elemOf [IntKind.u16,.i64,.i64,IntKind.i8,IntKind.i8,.i64] c.R)))∧True)∧(¬¬cell a.L a.k 1=(↑a.g:Int)→Ob ((0:Int)≤(↑a.k:Int)∧a.k < a.L.length)∧Ob (a.k < a.L.length)∧Ob (List.length (fO a.L (↑a.g:Int) a.k)=List.length (fO a.L (↑a.g:Int) a.k)∧∀(f:Nat),f < List.length (fO a.L (↑a.g:Int) a.k)→((El.fn (Rv.elemOf I4 (fO a.L (↑a.g:Int) a.k))).at f).length=(4:Nat))∧Ob ((List.length (fO a.L (↑a.g:Int) a.k)+(1:Nat))*(2:Nat)*(33:Nat)≤1099511627776)∧Ob (List.length (fO a.L (↑a.g:Int) a.k)=List.length (fO a.L (↑a.g:Int) a.k))∧Ob ((0:Int)≤(↑a.k:Int)∧a.k < a.L.length)∧Ob (a.k < a.L.length)∧(cell a.L a.k 0=(1:Int)→Ob ((0:Int)≤(↑a.k:Int)∧a.k < a.L.length)∧Ob (a.k < a.L.length)∧Ob (List.length (fB a.L (↑a.g:Int) a.k)=List.length (fB a.L (↑a.g:Int) a.k)∧∀(f:Nat),f < List.length (fB a.L (↑a.g:Int) a.k)→((El.fn (Rv.elemOf I4 (fB a.L (↑a.g:Int) a.k))).at f).length=(4:Nat))∧Ob ((List.length (fB a.L (↑a.g:Int) a.k)+(1:Nat))*(2:Nat)*(33:Nat)≤1099511627776)∧Ob (List.length (fB a.L (↑a.g:Int) a.k)=List.length (fB a.L (↑a.g:Int) a.k))∧Ob (InR .i64 ((↑a.k:Int)+(1:Int)))∧∃(c:ApS),Ob ((ApOk c∧c.k≤List.length c.L)∧List.length c.L-c.k < a.L.length-a.k)∧Ob (SV.v (Value.bool false)=SV.v (Value.bool false))∧Ob (a.R.length=List.length c.R)∧Ob (a.L.length=List.length c.L)∧Ob ((↑a.g:Int)=(↑c.g:Int))∧Ob (List.length (fO a.L (↑a.g:Int) a.k)+(1:Nat)=List.length (fO c.L (↑c.g:Int) c.k))∧Ob (List.length (fB a.L (↑a.g:Int) a.k)+(1:Nat)=List.length (fB c.L (↑c.g:Int) c.k))∧Ob (List.length (fR a.L (↑a.g:Int) a.k)=List.length (fR c.L (↑c.g:Int) c.k))∧Ob ((↑a.k:Int)+(1:Int)=(↑c.k:Int))∧EqR I4 (fR a.L (↑a.g:Int) a.k) (fR c.L (↑c.g:Int) c.k)∧EqA (List.length (fB a.L (↑a.g:Int) a.k)+(1:Nat)) (List.length (fB c.L (↑c.g:Int) c.k)) (behind (List.length (fB a.L (↑a.g:Int) a.k)) (El.fn (Rv.elemOf I4 (fB a.L (↑a.g:Int) a.k))) 1 (litEl (symL [SV.i .i64 (cell a.L a.k 0),SV.i .i64 (cell a.L a.k 1),SV.i .i64 (cell a.L a.k 2),SV.i .i64 (cell a.L a.k 3)]) 4 1)) (El.fn (Rv.elemOf I4 (fB c.L (↑c.g:Int) c.k)))∧EqA (List.length (fO a.L (↑a.g:Int) a.k)+(1:Nat)) (List.length (fO c.L (↑c.g:Int) c.k)) (behind (List.length (fO a.L (↑a.g:Int) a.k)) (El.fn (Rv.elemOf I4 (fO a.L (↑a.g:Int) a.k))) 1 (litEl (symL [SV.i .i64 (cell a.L a.k 0),SV.i .i64 (cell a.L a.k 1),SV.i .i64 (cell a.L a.k 2),SV.i .i64 (cell a.L a.k 3)]) 4 1)) (El.fn (Rv.elemOf I4 (fO c.L (↑c.g:Int) c.k)))∧EqR I4 a.L c.L∧EqA a.R.length (List.length c.R) (El.fn (Rv.elemOf [IntKind.u16,.i64,.i64,IntKind.i8,IntKind.i8,.i64] a.R)) (El.fn (Rv.elemOf [IntKind.u16,.i64,.i64,IntKind.i8,IntKind.i8,.i64] c.R))∧Ob (a.q=c.q)∧PlA I4 (fR c.L (↑c.g:Int) c.k)∧PlA I4 (fB c.L (↑c.g:Int) c.k)∧PlA I4 (fO c.L (↑c.g:Int) c.k)∧PlA I4 c.L∧Ob (PlainE (List.length c.R) (El.fn (Rv.elemOf [IntKind.u16,.i64,.i64,IntKind.i8,IntKind.i8,.i64] c.R)))∧True)∧(¬cell a.L a.k 0=(1:Int)→Ob ((0:Int)≤(↑a.k:Int)∧a.k < a.L.length)∧Ob (a.k < a.L.length)∧Ob (List.length (fR a.L (↑a.g:Int) a.k)=List.length (fR a.L (↑a.g:Int) a.k)∧∀(f:Nat),f < List.length (fR a.L (↑a.g:Int) a.k)→((El.fn (Rv.elemOf I4 (fR a.L (↑a.g:Int) a.k))).at f).length=(4:Nat))∧Ob ((List.length (fR a.L (↑a.g:Int) a.k)+(1:Nat))*(2:Nat)*(33:Nat)≤1099511627776)∧Ob (List.length (fR a.L (↑a.g:Int) a.k)=List.length (fR a.L (↑a.g:Int) a.k))∧Ob (InR .i64 ((↑a.k:Int)+(1:Int)))∧∃(c:ApS),Ob ((ApOk c∧c.k≤List.length c.L)∧List.length c.L-c.k < a.L.length-a.k)∧Ob (SV.v (Value.bool false)=SV.v (Value.bool false))∧Ob (a.R.length=List.length c.R)∧Ob (a.L.length=List.length c.L)∧Ob ((↑a.g:Int)=(↑c.g:Int))∧Ob (List.length (fO a.L (↑a.g:Int) a.k)+(1:Nat)=List.length (fO c.L (↑c.g:Int) c.k))∧Ob (List.length (fB a.L (↑a.g:Int) a.k)=List.length (fB c.L (↑c.g:Int) c.k))∧Ob (List.length (fR a.L (↑a.g:Int) a.k)+(1:Nat)=List.length (fR c.L (↑c.g:Int) c.k))∧Ob ((↑a.k:Int)+(1:Int)=(↑c.k:Int))∧EqA (List.length (fR a.L (↑a.g:Int) a.k)+(1:Nat)) (List.length (fR c.L (↑c.g:Int) c.k)) (behind (List.length (fR a.L (↑a.g:Int) a.k)) (El.fn (Rv.elemOf I4 (fR a.L (↑a.g:Int) a.k))) 1 (litEl (symL [SV.i .i64 (cell a.L a.k 0),SV.i .i64 (cell a.L a.k 1),SV.i .i64 (cell a.L a.k 2),SV.i .i64 (cell a.L a.k 3)]) 4 1)) (El.fn (Rv.elemOf I4 (fR c.L (↑c.g:Int) c.k)))∧EqR I4 (fB a.L (↑a.g:Int) a.k) (fB c.L (↑c.g:Int) c.k)∧EqA (List.length (fO a.L (↑a.g:Int) a.k)+(1:Nat)) (List.length (fO c.L (↑c.g:Int) c.k)) (behind (List.length (fO a.L (↑a.g:Int) a.k)) (El.fn (Rv.elemOf I4 (fO a.L (↑a.g:Int) a.k))) 1 (litEl (symL [SV.i .i64 (cell a.L a.k 0),SV.i .i64 (cell a.L a.k 1),SV.i .i64 (cell a.L a.k 2),SV.i .i64 (cell a.L a.k 3)]) 4 1)) (El.fn (Rv.elemOf I4 (fO c.L (↑c.g:Int) c.k)))∧EqR I4 a.L c.L∧EqA a.R.length (List.length c.R) (El.fn (Rv.elemOf [IntKind.u16,.i64,.i64,IntKind.i8,IntKind.i8,.i64] a.R)) (El.fn (Rv.elemOf [IntKind.u16,.i64,.i64,IntKind.i8,IntKind.i8,.i64] c.R))∧Ob (a.q=c.q)∧PlA I4 (fR c.L (↑c.g:Int) c.k)∧PlA I4 (fB c.L (↑c.g:Int) c.k)∧PlA I4 (fO c.L (↑c.g:Int) c.k)∧PlA I4 c.L∧Ob (PlainE (List.length c.R) (El.fn (Rv.elemOf [IntKind.u16,.i64,.i64,IntKind.i8,IntKind.i8,.i64] c.R)))∧True)))∧(¬(↑a.k:Int) < (↑(a.L.length):Int)→∃(j:List (List Int)),Ob (a.R.length=a.R.length∧j.length=a.R.length∧(∀i∈j,i.length=6)∧∀(f:Nat),f < a.R.length→(El.fn (Rv.elemOf [IntKind.u16,.i64,.i64,IntKind.i8,IntKind.i8,.i64] a.R)).at f=Rv.elemOf [IntKind.u16,.i64,.i64,IntKind.i8,IntKind.i8,.i64] j f)∧Ob (∀(i:List Int),i∈j→canR [IntKind.u16,.i64,.i64,IntKind.i8,IntKind.i8,.i64] i)∧RwE 4 I4 a.L fun b=>Ob (F_BookE.named.pre [Dat.l j,Dat.l b])∧∀(o:Int),o=ldErr b→∃(k:List (List Int)),Ob (a.R.length=a.R.length∧k.length=a.R.length∧(∀i∈k,i.length=6)∧∀(f:Nat),f < a.R.length→(El.fn (Rv.elemOf [IntKind.u16,.i64,.i64,IntKind.i8,IntKind.i8,.i64] a.R)).at f=Rv.elemOf [IntKind.u16,.i64,.i64,IntKind.i8,IntKind.i8,.i64] k f)∧Ob (∀(i:List Int),i∈k→canR [IntKind.u16,.i64,.i64,IntKind.i8,IntKind.i8,.i64] i)∧RwE 4 I4 (fO a.L (↑a.g:Int) a.k) fun e=>Ob (F_BookE.named.pre [Dat.l k,Dat.l e])∧∀(p:Int),p=ldErr e→Ob (List.length (fB a.L (↑a.g:Int) a.k)=List.length (fB a.L (↑a.g:Int) a.k)∧∀(f:Nat),f < List.length (fB a.L (↑a.g:Int) a.k)→((El.fn (Rv.elemOf I4 (fB a.L (↑a.g:Int) a.k))).at f).length=(4:Nat))∧Ob (List.length (fR a.L (↑a.g:Int) a.k)=List.length (fR a.L (↑a.g:Int) a.k)∧∀(f:Nat),f < List.length (fR a.L (↑a.g:Int) a.k)→((El.fn (Rv.elemOf I4 (fR a.L (↑a.g:Int) a.k))).at f).length=(4:Nat))∧(List.length (fR a.L (↑a.g:Int) a.k)=(0:Nat)→∃(h:List (List Int)),Ob (a.R.length=a.R.length∧h.length=a.R.length∧(∀i∈h,i.length=6)∧∀(f:Nat),f < a.R.length→(El.fn (Rv.elemOf [IntKind.u16,.i64,.i64,IntKind.i8,IntKind.i8,.i64] a.R)).at f=Rv.elemOf [IntKind.u16,.i64,.i64,IntKind.i8,IntKind.i8,.i64] h f)∧Ob (∀(i:List Int),i∈h→canR [IntKind.u16,.i64,.i64,IntKind.i8,IntKind.i8,.i64] i)∧RwE 4 I4 (fB a.L (↑a.g:Int) a.k) fun d=>Ob (F_BookE.named.pre [Dat.l h,Dat.l d])∧∀(l:Int),l=ldErr d→(¬¬o=(0:Int)→(¬¬p=(0:Int)→(¬¬(↑(ldN j.length b):Int)=(↑(a.R.length):Int)→(¬¬(↑(ldN k.length e):Int)=(↑(a.R.length):Int)→Ob ((0:Int)≤(↑a.g:Int)∧a.g < ldN j.length b)∧Ob (a.g < ldN j.length b)∧Ob ((0:Int)≤(↑a.g:Int)∧a.g < ldN k.length e)∧Ob (a.g < ldN k.length e)∧(¬(dn b (↑a.g:Int) (1:Int) 0 b.length=dn e (↑a.g:Int) (1:Int) 0 e.length∧dn b (↑a.g:Int) (1:Int) 1 b.length=dn e (↑a.g:Int) (1:Int) 1 e.length∧dn b (↑a.g:Int) (2:Int) 0 b.length=dn e (↑a.g:Int) (2:Int) 0 e.length∧dn b (↑a.g:Int) (2:Int) 1 b.length=dn e (↑a.g:Int) (2:Int) 1 e.length∧dn b (↑a.g:Int) (3:Int) 0 b.length=dn e (↑a.g:Int) (3:Int) 0 e.length∧dn b (↑a.g:Int) (3:Int) 1 b.length=dn e (↑a.g:Int) (3:Int) 1 e.length∧dn b (↑a.g:Int) (4:Int) 0 b.length=dn e (↑a.g:Int) (4:Int) 0 e.length∧dn b (↑a.g:Int) (4:Int) 1 b.length=dn e (↑a.g:Int) (4:Int) 1 e.length∧lf b (↑a.g:Int) 0 b.length=lf e (↑a.g:Int) 0 e.length∧lf b (↑a.g:Int) 1 b.length=lf e (↑a.g:Int) 1 e.length∧dn b (↑a.g:Int) (5:Int) 1 b.length=dn e (↑a.g:Int) (5:Int) 1 e.length∧True)→False)∧(¬¬(dn b (↑a.g:Int) (1:Int) 0 b.length=dn e (↑a.g:Int) (1:Int) 0 e.length∧dn b (↑a.g:Int) (1:Int) 1 b.length=dn e (↑a.g:Int) (1:Int) 1 e.length∧dn b (↑a.g:Int) (2:Int) 0 b.length=dn e (↑a.g:Int) (2:Int) 0 e.length∧dn b (↑a.g:Int) (2:Int) 1 b.length=dn e (↑a.g:Int) (2:Int) 1 e.length∧dn b (↑a.g:Int) (3:Int) 0 b.length=dn e (↑a.g:Int) (3:Int) 0 e.length∧dn b (↑a.g:Int) (3:Int) 1 b.length=dn e (↑a.g:Int) (3:Int) 1 e.length∧dn b (↑a.g:Int) (4:Int) 0 b.length=dn e (↑a.g:Int) (4:Int) 0 e.length∧dn b (↑a.g:Int) (4:Int) 1 b.length=dn e (↑a.g:Int) (4:Int) 1 e.length∧lf b (↑a.g:Int) 0 b.length=lf e (↑a.g:Int) 0 e.length∧lf b (↑a.g:Int) 1 b.length=lf e (↑a.g:Int) 1 e.length∧dn b (↑a.g:Int) (5:Int) 1 b.length=dn e (↑a.g:Int) (5:Int) 1 e.length∧True)→(¬l=(0:Int)→(l=(9:Int)→Ob (hasTabs [] B)∧True)∧(¬l=(9:Int)→False))∧(¬¬l=(0:Int)→((↑(ldN h.length d):Int)=(↑(a.R.length):Int)→Ob ((0:Int)≤(↑a.g:Int)∧a.g < ldN h.length d)∧Ob (a.g < ldN h.length d)∧Ob ((0:Int)≤(↑a.g:Int)∧a.g < ldN j.length b)∧Ob (a.g < ldN j.length b)∧(dn d (↑a.g:Int) (1:Int) 0 d.length=dn b (↑a.g:Int) (1:Int) 0 b.length∧dn d (↑a.g:Int) (1:Int) 1 d.length=dn b (↑a.g:Int) (1:Int) 1 b.length∧dn d (↑a.g:Int) (2:Int) 0 d.length=dn b (↑a.g:Int) (2:Int) 0 b.length∧dn d (↑a.g:Int) (2:Int) 1 d.length=dn b (↑a.g:Int) (2:Int) 1 b.length∧dn d (↑a.g:Int) (3:Int) 0 d.length=dn b (↑a.g:Int) (3:Int) 0 b.length∧dn d (↑a.g:Int) (3:Int) 1 d.length=dn b (↑a.g:Int) (3:Int) 1 b.length∧dn d (↑a.g:Int) (4:Int) 0 d.length=dn b (↑a.g:Int) (4:Int) 0 b.length∧dn d (↑a.g:Int) (4:Int) 1 d.length=dn b (↑a.g:Int) (4:Int) 1 b.length∧lf d (↑a.g:Int) 0 d.length=lf b (↑a.g:Int) 0 b.length∧lf d (↑a.g:Int) 1 d.length=lf b (↑a.g:Int) 1 b.length∧dn d (↑a.g:Int) (5:Int) 1 d.length=dn b (↑a.g:Int) (5:Int) 1 b.length∧True→Ob (hasTabs [] B)∧True)∧(¬(dn d (↑a.g:Int) (1:Int) 0 d.length=dn b (↑a.g:Int) (1:Int) 0 b.length∧dn d (↑a.g:Int) (1:Int) 1 d.length=dn b (↑a.g:Int) (1:Int) 1 b.length∧dn d (↑a.g:Int) (2:Int) 0 d.length=dn b (↑a.g:Int) (2:Int) 0 b.length∧dn d (↑a.g:Int) (2:Int) 1 d.length=dn b (↑a.g:Int) (2:Int) 1 b.length∧dn d (↑a.g:Int) (3:Int) 0 d.length=dn b (↑a.g:Int) (3:Int) 0 b.length∧dn d (↑a.g:Int) (3:Int) 1 d.length=dn b (↑a.g:Int) (3:Int) 1 b.length∧dn d (↑a.g:Int) (4:Int) 0 d.length=dn b (↑a.g:Int) (4:Int) 0 b.length∧dn d (↑a.g:Int) (4:Int) 1 d.length=dn b (↑a.g:Int) (4:Int) 1 b.length∧lf d (↑a.g:Int) 0 d.length=lf b (↑a.g:Int) 0 b.length∧lf d (↑a.g:Int) 1 d.length=lf b (↑a.g:Int) 1 b.length∧dn d (↑a.g:Int) (5:Int) 1 d.length=dn b (↑a.g:Int) (5:Int) 1 b.length∧True)→False))∧(¬(↑(ldN h.length d):Int)=(↑(a.R.length):Int)→False))))∧(¬(↑(ldN k.length e):Int)=(↑(a.R.length):Int)→False))∧(¬(↑(ldN j.length b):Int)=(↑(a.R.length):Int)→False))∧(¬p=(0:Int)→False))∧(¬o=(0:Int)→False))∧(¬List.length (fR a.L (↑a.g:Int) a.k)=(0:Nat)→Ob ((List.length (fB a.L (↑a.g:Int) a.k)+List.length (fR a.L (↑a.g:Int) a.k))*(2:Nat)*(33:Nat)≤1099511627776)∧Ob (List.length (fB a.L (↑a.g:Int) a.k)=List.length (fB a.L (↑a.g:Int) a.k))∧∃(h:List (List Int)),Ob (a.R.length=a.R.length∧h.length=a.R.length∧(∀i∈h,i.length=6)∧∀(f:Nat),f < a.R.length→(El.fn (Rv.elemOf [IntKind.u16,.i64,.i64,IntKind.i8,IntKind.i8,.i64] a.R)).at f=Rv.elemOf [IntKind.u16,.i64,.i64,IntKind.i8,IntKind.i8,.i64] h f)∧Ob (∀(i:List Int),i∈h→canR [IntKind.u16,.i64,.i64,IntKind.i8,IntKind.i8,.i64] i)∧RwA (List.length (fB a.L (↑a.g:Int) a.k)+List.length (fR a.L (↑a.g:Int) a.k)) (List.length (fB a.L (↑a.g:Int) a.k)+List.length (fR a.L (↑a.g:Int) a.k)) 4 I4 ((behind (List.length (fB a.L (↑a.g:Int) a.k)) (El.fn (Rv.elemOf I4 (fB a.L (↑a.g:Int) a.k))) (List.length (fR a.L (↑a.g:Int) a.k)) (El.fn (Rv.elemOf I4 (fR a.L (↑a.g:Int) a.k)))).at) fun d=>Ob (F_BookE.named.pre [Dat.l h,Dat.l d])∧∀(l:Int),l=ldErr d→(¬¬o=(0:Int)→(¬¬p=(0:Int)→(¬¬(↑(ldN j.length b):Int)=(↑(a.R.length):Int)→(¬¬(↑(ldN k.length e):Int)=(↑(a.R.length):Int)→Ob ((0:Int)≤(↑a.g:Int)∧a.g < ldN j.length b)∧Ob (a.g < ldN j.length b)∧Ob ((0:Int)≤(↑a.g:Int)∧a.g < ldN k.length e)∧Ob (a.g < ldN k.length e)∧(¬(dn b (↑a.g:Int) (1:Int) 0 b.length=dn e (↑a.g:Int) (1:Int) 0 e.length∧dn b (↑a.g:Int) (1:Int) 1 b.length=dn e (↑a.g:Int) (1:Int) 1 e.length∧dn b (↑a.g:Int) (2:Int) 0 b.length=dn e (↑a.g:Int) (2:Int) 0 e.length∧dn b (↑a.g:Int) (2:Int) 1 b.length=dn e (↑a.g:Int) (2:Int) 1 e.length∧dn b (↑a.g:Int) (3:Int) 0 b.length=dn e (↑a.g:Int) (3:Int) 0 e.length∧dn b (↑a.g:Int) (3:Int) 1 b.length=dn e (↑a.g:Int) (3:Int) 1 e.length∧dn b (↑a.g:Int) (4:Int) 0 b.length=dn e (↑a.g:Int) (4:Int) 0 e.length∧dn b (↑a.g:Int) (4:Int) 1 b.length=dn e (↑a.g:Int) (4:Int) 1 e.length∧lf b (↑a.g:Int) 0 b.length=lf e (↑a.g:Int) 0 e.length∧lf b (↑a.g:Int) 1 b.length=lf e (↑a.g:Int) 1 e.length∧dn b (↑a.g:Int) (5:Int) 1 b.length=dn e (↑a.g:Int) (5:Int) 1 e.length∧True)→False)∧(¬¬(dn b (↑a.g:Int) (1:Int) 0 b.length=dn e (↑a.g:Int) (1:Int) 0 e.length∧dn b (↑a.g:Int) (1:Int) 1 b.length=dn e (↑a.g:Int) (1:Int) 1 e.length∧dn b (↑a.g:Int) (2:Int) 0 b.length=dn e (↑a.g:Int) (2:Int) 0 e.length∧dn b (↑a.g:Int) (2:Int) 1 b.length=dn e (↑a.g:Int) (2:Int) 1 e.length∧dn b (↑a.g:Int) (3:Int) 0 b.length=dn e (↑a.g:Int) (3:Int) 0 e.length∧dn b (↑a.g:Int) (3:Int) 1 b.length=dn e (↑a.g:Int) (3:Int) 1 e.length∧dn b (↑a.g:Int) (4:Int) 0 b.length=dn e (↑a.g:Int) (4:Int) 0 e.length∧dn b (↑a.g:Int) (4:Int) 1 b.length=dn e (↑a.g:Int) (4:Int) 1 e.length∧lf b (↑a.g:Int) 0 b.length=lf e (↑a.g:Int) 0 e.length∧lf b (↑a.g:Int) 1 b.length=lf e (↑a.g:Int) 1 e.length∧dn b (↑a.g:Int) (5:Int) 1 b.length=dn e (↑a.g:Int) (5:Int) 1 e.length∧True)→(¬l=(0:Int)→(l=(9:Int)→Ob (hasTabs [] B)∧True)∧(¬l=(9:Int)→False))∧(¬¬l=(0:Int)→((↑(ldN h.length d):Int)=(↑(a.R.length):Int)→Ob ((0:Int)≤(↑a.g:Int)∧a.g < ldN h.length d)∧Ob (a.g < ldN h.length d)∧Ob ((0:Int)≤(↑a.g:Int)∧a.g < ldN j.length b)∧Ob (a.g < ldN j.length b)∧(dn d (↑a.g:Int) (1:Int) 0 d.length=dn b (↑a.g:Int) (1:Int) 0 b.length∧dn d (↑a.g:Int) (1:Int) 1 d.length=dn b (↑a.g:Int) (1:Int) 1 b.length∧dn d (↑a.g:Int) (2:Int) 0 d.length=dn b (↑a.g:Int) (2:Int) 0 b.length∧dn d (↑a.g:Int) (2:Int) 1 d.length=dn b (↑a.g:Int) (2:Int) 1 b.length∧dn d (↑a.g:Int) (3:Int) 0 d.length=dn b (↑a.g:Int) (3:Int) 0 b.length∧dn d (↑a.g:Int) (3:Int) 1 d.length=dn b (↑a.g:Int) (3:Int) 1 b.length∧dn d (↑a.g:Int) (4:Int) 0 d.length=dn b (↑a.g:Int) (4:Int) 0 b.length∧dn d (↑a.g:Int) (4:Int) 1 d.length=dn b (↑a.g:Int) (4:Int) 1 b.length∧lf d (↑a.g:Int) 0 d.length=lf b (↑a.g:Int) 0 b.length∧lf d (↑a.g:Int) 1 d.length=lf b (↑a.g:Int) 1 b.length∧dn d (↑a.g:Int) (5:Int) 1 d.length=dn b (↑a.g:Int) (5:Int) 1 b.length∧True→Ob (hasTabs [] B)∧True)∧(¬(dn d (↑a.g:Int) (1:Int) 0 d.length=dn b (↑a.g:Int) (1:Int) 0 b.length∧dn d (↑a.g:Int) (1:Int) 1 d.length=dn b (↑a.g:Int) (1:Int) 1 b.length∧dn d (↑a.g:Int) (2:Int) 0 d.length=dn b (↑a.g:Int) (2:Int) 0 b.length∧dn d (↑a.g:Int) (2:Int) 1 d.length=dn b (↑a.g:Int) (2:Int) 1 b.length∧dn d (↑a.g:Int) (3:Int) 0 d.length=dn b (↑a.g:Int) (3:Int) 0 b.length∧dn d (↑a.g:Int) (3:Int) 1 d.length=dn b (↑a.g:Int) (3:Int) 1 b.length∧dn d (↑a.g:Int) (4:Int) 0 d.length=dn b (↑a.g:Int) (4:Int) 0 b.length∧dn d (↑a.g:Int) (4:Int) 1 d.length=dn b (↑a.g:Int) (4:Int) 1 b.length∧lf d (↑a.g:Int) 0 d.length=lf b (↑a.g:Int) 0 b.length∧lf d (↑a.g:Int) 1 d.length=lf b (↑a.g:Int) 1 b.length∧dn d (↑a.g:Int) (5:Int) 1 d.length=dn b (↑a.g:Int) (5:Int) 1 b.length∧True)→False))∧(¬(↑(ldN h.length d):Int)=(↑(a.R.length):Int)→False))))∧(¬(↑(ldN k.length e):Int)=(↑(a.R.length):Int)→False))∧(¬(↑(ldN j.length b):Int)=(↑(a.R.length):Int)→False))∧(¬p=(0:Int)→False))∧(¬o=(0:Int)→False)))
set_option linter.unusedSimpArgs false in
set_option maxRecDepth 4000 in
set_option maxHeartbeats 4000000 in
theorem v_law:V_law:=by
 unfold V_law EqA EqR I4 PlA RwA RwB RwE
 intro B htab xz N hz hoz hrz hN
 simp only [F_Below,F_TideOf,F_MarketOf,F_LedgerOf,F_Book,FnE.named,List.cons_append,List.nil_append,Ob_iff,and_true,true_and,Classical.not_not]at ⊢
 refine⟨N,⟨hz,rfl,hrz,fun _ _=>rfl⟩,hN,?_⟩
 obtain⟨a0,ha0⟩:∃a0,tideK N N.length=a0:=⟨_,rfl⟩
 rw [ha0]
 clear ha0
 have hN4:=belowV_in a0 4
 obtain⟨n,hn⟩:∃n,(1+belowV a0 4).toNat=n:=⟨_,rfl⟩
 have hn4:1≤n∧n≤4:=by omega
 rw [hn]
 clear hN4 hn
 intro v hv
 clear hv
 refine⟨⟨⟨by omega,by omega⟩,by omega,by omega⟩,?_⟩
 intro v1 hv1
 clear hv1
 have hM:MkOk (mkR (belowA a0 4) n):=mk_ok _ hn4
 have hRl:=mk_len (belowA a0 4) n
 obtain⟨R,hR⟩:∃R,mkR (belowA a0 4) n=R:=⟨_,rfl⟩
 rw [hR]at hM hRl ⊢
 clear hR
 have h21:=belowV_in v (20+1)
 have inv:=lg_inv hn4.1 (belowA v (20+1)) (k:=(belowV v (20+1)).toNat) (by omega)
 obtain⟨L,hL⟩:∃L,lgL (n:Int) (belowA v (20+1)) (belowV v (20+1)).toNat=L:=⟨_,rfl⟩
 rw [hL]at inv ⊢
 have hl20:L.length≤20:=by have:=inv.l; clear hL; omega
 clear hL h21
 subst hRl
 have hok:=inv.ok
 have hw:=inv.w
 clear inv
 have hcan:=hM.c
 have hrw:=hM.w
 refine⟨by omega,?_⟩
 intro v2 hv2 v3 hv3
 clear hv2
 have h3:=belowV_in v1 (R.length:Int)
 rw [← hv3]at h3
 clear hv3
 have h3:0≤v3∧v3 < R.length:=by omega
 obtain⟨g,rfl⟩:=Int.eq_ofNat_of_zero_le h3.1
 have gl:g < R.length:=by omega
 refine⟨⟨⟨R,L,v2,g,0⟩,?_⟩,?_⟩
 ·dsimp only
  repeat' (with_reducible apply And.intro)
  all_goals first | exact⟨hM,hok,hw,hl20,gl⟩ | exact plain_elemOf _ _ _ | exact fun _ _=>rfl | rfl | omega
 rintro⟨R,L,q,g,k⟩ ⟨⟨hM,hok,hw,hl20,gl⟩,hk⟩
 dsimp only at hM hok hw hl20 gl hk ⊢
 intros
 have hcan:=hM.c
 have hrw:=hM.w
 have oO:=own_ok hok (g:Int) hk
 have oB:=fb_ok hok (g:Int) hk
 have oT:=ft_ok hok hl20 (g:Int) hk
 have nO:=oO.l
 have nB:=oB.l
 have nT:=oT.l
 rw [List.length_append]at nT
 refine⟨fun hlt=>?_,fun hge=>?_⟩
 ·have hk':k < L.length:=by omega
  refine⟨⟨by omega,hk'⟩,hk',fun c1=>?_,fun c1=>?_⟩
  ·have eO:fO L (g:Nat) (k+1)=fO L (g:Nat) k:=by simp only [fO,if_neg c1]
   have eB:fB L (g:Nat) (k+1)=fB L (g:Nat) k:=by simp only [fB,if_neg (show ¬ (cell L k 1=(g:Int)∧cell L k 0=1)from fun h=>c1 h.1)]
   have eR:fR L (g:Nat) (k+1)=fR L (g:Nat) k:=by simp only [fR,if_neg (show ¬ (cell L k 1=(g:Int)∧¬ cell L k 0=1)from fun h=>c1 h.1)]
   have hsA:True:=trivial
   have hsB:True:=trivial
   refine⟨by simp only [InR]; omega,⟨R,L,q,g,k+1⟩,?_⟩
   all_goals dsimp only
   all_goals rw [eO,eB,eR]
   all_goals repeat' (with_reducible apply And.intro)
   all_goals first | exact⟨hM,hok,hw,hl20,gl⟩ | exact plain_elemOf _ _ _ | rfl | exact fun _ _=>rfl | omega | (simp; done) | (simp; omega)
  ·have eO:fO L (g:Nat) (k+1)=fO L (g:Nat) k++[rw4 L k]:=by simp only [fO,if_pos c1]
   have hsA:=snoc4 (R:=fO L (g:Nat) k) (x:=cell L k 0) (y:=cell L k 1) (z:=cell L k 2) (w:=cell L k 3)
   repeat' (with_reducible apply And.intro)
   all_goals first | exact hk' | omega | (simp only [InR]; omega) | exact fun i _=>rfl | rfl | skip
   ·intro c0
    have eB:fB L (g:Nat) (k+1)=fB L (g:Nat) k++[rw4 L k]:=by simp only [fB,if_pos (show cell L k 1=(g:Int)∧cell L k 0=1 from⟨c1,c0⟩)]
    have eR:fR L (g:Nat) (k+1)=fR L (g:Nat) k:=by simp only [fR,if_neg (show ¬ (cell L k 1=(g:Int)∧¬ cell L k 0=1)from fun h=>h.2 c0)]
    have hsB:=snoc4 (R:=fB L (g:Nat) k) (x:=cell L k 0) (y:=cell L k 1) (z:=cell L k 2) (w:=cell L k 3)
    repeat' (with_reducible apply And.intro)
    all_goals first | exact hk' | omega | (simp only [InR]; omega) | exact fun i _=>rfl | rfl | skip
    refine⟨⟨R,L,q,g,k+1⟩,?_⟩
    all_goals dsimp only
    all_goals rw [eO,eB,eR]
    all_goals repeat' (with_reducible apply And.intro)
    all_goals first | exact⟨hM,hok,hw,hl20,gl⟩ | exact plain_elemOf _ _ _ | exact hsA | exact hsB | exact(fun i hi=>hsA i (by simpa using hi)) | exact(fun i hi=>hsB i (by simpa using hi)) | rfl | exact fun _ _=>rfl | omega | (simp; done) | (simp; omega)
   ·intro c0
    have eB:fB L (g:Nat) (k+1)=fB L (g:Nat) k:=by simp only [fB,if_neg (show ¬ (cell L k 1=(g:Int)∧cell L k 0=1)from fun h=>c0 h.2)]
    have eR:fR L (g:Nat) (k+1)=fR L (g:Nat) k++[rw4 L k]:=by simp only [fR,if_pos (show cell L k 1=(g:Int)∧¬ cell L k 0=1 from⟨c1,c0⟩)]
    have hsB:=snoc4 (R:=fR L (g:Nat) k) (x:=cell L k 0) (y:=cell L k 1) (z:=cell L k 2) (w:=cell L k 3)
    repeat' (with_reducible apply And.intro)
    all_goals first | exact hk' | omega | (simp only [InR]; omega) | exact fun i _=>rfl | rfl | skip
    refine⟨⟨R,L,q,g,k+1⟩,?_⟩
    all_goals dsimp only
    all_goals rw [eO,eB,eR]
    all_goals repeat' (with_reducible apply And.intro)
    all_goals first | exact⟨hM,hok,hw,hl20,gl⟩ | exact plain_elemOf _ _ _ | exact hsA | exact hsB | exact(fun i hi=>hsA i (by simpa using hi)) | exact(fun i hi=>hsB i (by simpa using hi)) | rfl | exact fun _ _=>rfl | omega | (simp; done) | (simp; omega)
 ·have ek:k=L.length:=by omega
  subst ek
  have z4:=(ld_ok (n:=R.length) fun k hk=>(hok.a k hk).cl)
  have z5:=(ld_ok (n:=R.length) oO.cl)
  have rO:∀q c,c < 2→dn (fO L (g:Nat) L.length) (g:Nat) q c (fO L (g:Nat) L.length).length=dn L (g:Nat) q c L.length:=oO.d
  have bO:=bk_same rO
  refine⟨R,?_,hcan,L,?_,⟨hM,lp_of hok⟩,?_⟩
  ·repeat' (with_reducible apply And.intro)
   all_goals first | exact hrw | rfl | exact fun _ _=>rfl
  ·repeat' (with_reducible apply And.intro)
   all_goals first | exact hw | rfl | exact fun _ _=>rfl
  intro v4 hv4
  refine⟨R,?_,hcan,fO L (g:Nat) L.length,?_,⟨hM,oO.ok⟩,?_⟩
  ·repeat' (with_reducible apply And.intro)
   all_goals first | exact hrw | rfl | exact fun _ _=>rfl
  ·repeat' (with_reducible apply And.intro)
   all_goals first | exact oO.w | rfl | exact fun _ _=>rfl
  intro v5 hv5
  rw [z4.1]at hv4
  rw [z5.1]at hv5
  subst hv4 hv5
  have o10:=rO 1 0 (by omega)
  have o11:=rO 1 1 (by omega)
  have o20:=rO 2 0 (by omega)
  have o21:=rO 2 1 (by omega)
  have o30:=rO 3 0 (by omega)
  have o31:=rO 3 1 (by omega)
  have o40:=rO 4 0 (by omega)
  have o41:=rO 4 1 (by omega)
  have o51:=rO 5 1 (by omega)
  have ol0:=lf_of rO 0 (by omega)
  have ol1:=lf_of rO 1 (by omega)
  have d2:∀M:Rows,(ldErr M=0∧ldN R.length M=R.length)∨ldErr M=9:=fun M=>by
   by_cases e:∀k,k < M.length→clAt M k
   ·exact .inl (ld_ok e)
   ·refine .inr ?_
    unfold ldErr
    rw [if_neg e]
  have rM:∀q c,c < 2→dn (fB L (g:Nat) L.length++fR L (g:Nat) L.length) (g:Nat) q c (fB L (g:Nat) L.length++fR L (g:Nat) L.length).length=dn L (g:Nat) q c L.length:=fun q c hc=>by
   rw [oT.d q c hc]
   split
   ·rename_i h; rw [h]
   ·rfl
  have okM:=oT.ok
  have wM:=oT.w
  clear oT oB
  repeat' (with_reducible apply And.intro)
  all_goals first | rfl | exact fun _ _=>rfl | skip
  ·intro e0
   have e1:=List.eq_nil_of_length_eq_zero e0
   rw [e1,List.append_nil]at rM okM wM
   refine⟨R,?_,hcan,fB L (g:Nat) L.length,?_,⟨hM,okM⟩,?_⟩
   ·repeat' (with_reducible apply And.intro)
    all_goals first | exact hrw | rfl | exact fun _ _=>rfl
   ·repeat' (with_reducible apply And.intro)
    all_goals first | exact wM | rfl | exact fun _ _=>rfl
   intro v6 hv6
   have a10:=rM 1 0 (by omega)
   have a11:=rM 1 1 (by omega)
   have a20:=rM 2 0 (by omega)
   have a21:=rM 2 1 (by omega)
   have a30:=rM 3 0 (by omega)
   have a31:=rM 3 1 (by omega)
   have a40:=rM 4 0 (by omega)
   have a41:=rM 4 1 (by omega)
   have a51:=rM 5 1 (by omega)
   have al0:=lf_of rM 0 (by omega)
   have al1:=lf_of rM 1 (by omega)
   rcases d2 (fB L (g:Nat) L.length)with ⟨y1,y2⟩ | y1
   ·rw [y1]at hv6
    subst hv6
    simp only [o10,o11,o20,o21,o30,o31,o40,o41,o51,ol0,ol1,a10,a11,a20,a21,a30,a31,a40,a41,a51,al0,al1,z4.2,z5.2,y2,and_true,true_and,not_true_eq_false,not_false_eq_true,false_implies,true_implies]
    simp [htab,gl]
   ·rw [y1]at hv6
    subst hv6
    simp only [o10,o11,o20,o21,o30,o31,o40,o41,o51,ol0,ol1,a10,a11,a20,a21,a30,a31,a40,a41,a51,al0,al1,z4.2,z5.2,and_true,true_and,not_true_eq_false,not_false_eq_true,false_implies,true_implies]
    simp [htab,gl]
  ·intro e0
   refine⟨by omega,R,?_,hcan,fB L (g:Nat) L.length++fR L (g:Nat) L.length,?_,⟨hM,okM⟩,?_⟩
   ·repeat' (with_reducible apply And.intro)
    all_goals first | exact hrw | rfl | exact fun _ _=>rfl
   ·repeat' (with_reducible apply And.intro)
    all_goals first | exact wM | exact List.length_append | skip
    exact fun i hi=>cat_at i hi
   intro v6 hv6
   have a10:=rM 1 0 (by omega)
   have a11:=rM 1 1 (by omega)
   have a20:=rM 2 0 (by omega)
   have a21:=rM 2 1 (by omega)
   have a30:=rM 3 0 (by omega)
   have a31:=rM 3 1 (by omega)
   have a40:=rM 4 0 (by omega)
   have a41:=rM 4 1 (by omega)
   have a51:=rM 5 1 (by omega)
   have al0:=lf_of rM 0 (by omega)
   have al1:=lf_of rM 1 (by omega)
   rcases d2 (fB L (g:Nat) L.length++fR L (g:Nat) L.length)with ⟨y1,y2⟩ | y1
   ·rw [y1]at hv6
    subst hv6
    simp only [o10,o11,o20,o21,o30,o31,o40,o41,o51,ol0,ol1,a10,a11,a20,a21,a30,a31,a40,a41,a51,al0,al1,z4.2,z5.2,y2,and_true,true_and,not_true_eq_false,not_false_eq_true,false_implies,true_implies]
    simp [htab,gl]
   ·rw [y1]at hv6
    subst hv6
    simp only [o10,o11,o20,o21,o30,o31,o40,o41,o51,ol0,ol1,a10,a11,a20,a21,a30,a31,a40,a41,a51,al0,al1,z4.2,z5.2,and_true,true_and,not_true_eq_false,not_false_eq_true,false_implies,true_implies]
    simp [htab,gl]
theorem e_law:V_law=needL P [] [F_TideOf.named,F_MarketOf.named,F_LedgerOf.named,F_Below.named,F_BookE.named] 10 ([]:Tabs) A_law F_law:=by kernel_rfl
theorem n_law:Ob (needL P [] [F_TideOf.named,F_MarketOf.named,F_LedgerOf.named,F_Below.named,F_BookE.named] 10 ([]:Tabs) A_law F_law):=by
 rw [← e_law]
 exact⟨v_law⟩
theorem l_law:(([]:List Fn0).all fun G=>!Nat.beq G.g 10)=true:=rfl
theorem le_law:([F_TideOf.named,F_MarketOf.named,F_LedgerOf.named,F_Below.named,F_BookE.named].all fun G=>!Nat.beq G.g 10)=true:=rfl
theorem c_law:∀F∈([]:List Fn0),F.Ok P:=by
 intro F h; simp at h
theorem ce_law:∀F∈[F_TideOf.named,F_MarketOf.named,F_LedgerOf.named,F_Below.named,F_BookE.named],F.Ok P:=by
 intro F h
 simp only [List.mem_cons,List.not_mem_nil,or_false]at h
 rcases h with rfl | rfl | rfl | rfl | rfl
 ·exact TideOf_ok.named
 ·exact MarketOf_ok.named
 ·exact LedgerOf_ok.named
 ·exact Below_ok.named
 ·exact BookE_ok.named
end Go.Proofs.Ytdnphbnnhfpphaa.Sy
