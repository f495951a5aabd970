import Derived.Test.YtdnphbnnhfpphaaSyP2
import Derived.Test.YtdnphbnnhfpphaaGrM
import Derived.Test.YtdnphbnnhfpphaaKtT
import Derived.Test.YtdnphbnnhfpphaaTrA
import Derived.Test.YtdnphbnnhfpphaaTrN
import Derived.Test.YtdnphbnnhfpphaaTrB
import Derived.Test.YtdnphbnnhfpphaaTrC
import Derived.Test.YtdnphbnnhfpphaaTrD
import Derived.Test.YtdnphbnnhfpphaaSyP2
import Derived.KernelRfl
import Derived.Test.YtdnphbnnhfpphaaProg
namespace Go.Proofs.Ytdnphbnnhfpphaa.Sy
open Go Go.Rv
set_option linter.unusedVariables false
def clAt (L:Rows) (k:Nat):Prop:=lf L (cell L k 1) 0 (k+1)≤lf L (cell L k 1) 1 (k+1)∧(0 < lf L (cell L k 1) 0 (k+1)∨lf L (cell L k 1) 1 (k+1)=0)
open Classical in
noncomputable def ldErr (L:Rows):Int:=if ∀k,k < L.length→clAt L k then 0 else 9
open Classical in
noncomputable def ldN (n:Nat) (L:Rows):Nat:=if ∀k,k < L.length→clAt L k then n else 0
theorem ld_ok {n:Nat} {L:Rows} (h:∀k,k < L.length→clAt L k):ldErr L=0∧ldN n L=n:=by
 unfold ldErr ldN
 simp only [if_pos h,and_self]
theorem ld_no {n:Nat} {L:Rows} {k:Nat} (hk:k < L.length) (h:¬ clAt L k):ldErr L=9∧ldN n L=0:=by
 unfold ldErr ldN
 have:¬ ∀k,k < L.length→clAt L k:=fun h2=>h (h2 k hk)
 simp only [if_neg this,and_self]
structure LpAt (n:Nat) (L:Rows) (k:Nat):Prop where
 kd:1≤cell L k 0∧cell L k 0≤5
 gr:0≤cell L k 1∧cell L k 1 < n
 ct:0≤cell L k 2∧cell L k 2≤1000000
 gm:0≤cell L k 3∧cell L k 3≤1000000
 fm:cell L k 0=5↔cell L k 2=0
 sh:¬ cell L k 0=1→(∀j,j < k→clAt L j)→cell L k 2≤lf L (cell L k 1) 0 k∧cell L k 3≤lf L (cell L k 1) 1 k
structure LpOk (n:Nat) (L:Rows):Prop where
 l:L.length≤200
 a:∀k,k < L.length→LpAt n L k
theorem LpOk.dn {n:Nat} {L:Rows} (h:LpOk n L) {k:Nat} (hk:k≤L.length) (i q:Int) {c:Nat} (hc:c < 2):0≤dn L i q c k∧dn L i q c k≤200000000:=by
 have h1:=dn_bd (L:=L) (i:=i) (q:=q) (c:=c) (k:=k) fun j hj=>by
  have A:=h.a j (by omega)
  have:c=0∨c=1:=by omega
  rcases this with rfl | rfl
  ·exact A.ct
  ·exact A.gm
 have h2:=h.l
 omega
theorem LpOk.lf {n:Nat} {L:Rows} (h:LpOk n L) {k:Nat} (hk:k≤L.length) (i:Int) {c:Nat} (hc:c < 2):-800000000≤lf L i c k∧lf L i c k≤200000000:=by
 have h1:=h.dn hk i 1 hc
 have h2:=h.dn hk i 2 hc
 have h3:=h.dn hk i 3 hc
 have h4:=h.dn hk i 4 hc
 have h5:=h.dn hk i 5 hc
 unfold Sy.lf
 omega
noncomputable def F_doAllE:FnE:=⟨16,none,[.one (.l [.u16,.i64,.i64,.i8,.i8,.i64]),.one (.l [.i64,.i64,.i64,.i64])],fun l=>match l with | [.l R,.l L]=>MkOk R∧LpOk R.length L | _=>False,fun l=>match l with | [.l R,.l L]=>[.gsl 0 (ldN R.length L) 14 true,.i .i64 (ldErr L)] | _=>[],fun l=>match l with | [.l R,.l L]=>[.gr (ldN R.length L) 14 (.fn (stF L L.length)) .gr true] | _=>[],fun l=>match l with | [.l R,.l L]=>[] | _=>[],false,none,none⟩
noncomputable def A_doAllE:List SV→List Dat→Nat→List SV→Ann:=fun xs ds n ts=>match xs with
 | [.lst x _ _ _,.lst y _ _ _]=>match ds with
  | [.l R,.l L]=>match n with
   | 13=>⟨Nat,fun _=>[],fun a=>[.gr 1 0 (.fn fun _=>[]) .ex false,.gr 0 a (.fn fun _=>[]) .ex true],fun _=>True,fun _=>6,1000002⟩
   | 8=>⟨Nat,fun k=>([some (SV.lst x R.length ((6:Nat)) (Rv.elemOf [IntKind.u16,IntKind.i64,IntKind.i64,IntKind.i8,IntKind.i8,IntKind.i64] R)),none,none,none,none,none,none,some (SV.gsl ((0:Nat)) R.length ((14:Nat)) false)]++nN 15++[some (SV.lst y L.length ((4:Nat)) (Rv.elemOf [IntKind.i64,IntKind.i64,IntKind.i64,IntKind.i64] L)),some (SV.i IntKind.i64 (↑L.length:Int)),some (.i .i64 k)]++nN 21),fun k=>[.gr R.length 14 (.fn (stF L k)) .gr false],fun k=>k≤L.length∧∀j,j < k→clAt L j,fun k=>L.length-k,0⟩
   | _=>noAnn
  | _=>noAnn
 | _=>noAnn
noncomputable def A_doAllE_1:List SV→List Dat→List SV→List SObj→Nat→List SV→Ann:=fun _ _ _ _ _ _=>noAnn
noncomputable def A_doAllE_2:List SV→List Dat→List SV→List SObj→Nat→List SV→Ann:=fun _ _ _ _ _ _=>noAnn
noncomputable def A_doAllE_3:List SV→List Dat→List SV→List SObj→Nat→List SV→Ann:=fun _ _ _ _ _ _=>noAnn
noncomputable def I_doAllE:List SV→List Dat→List In:=fun xs ds=>[⟨27,A_doAllE_1 xs ds⟩,⟨37,A_doAllE_2 xs ds⟩,⟨38,A_doAllE_3 xs ds⟩]
set_option maxRecDepth 10000 in
def V_doAllE:Prop:=
 ∀(B:RW) (f:RV) (d:List (List Int)),IsLst B f d.length 6 (Rv.elemOf [IntKind.u16,.i64,.i64,IntKind.i8,IntKind.i8,.i64] d)→oneB f=true→(∀row∈d,row.length=6)→(∀(i:List Int),i∈d→canR [IntKind.u16,.i64,.i64,IntKind.i8,IntKind.i8,.i64] i)→∀(g:RV) (a:List (List Int)),IsLst B g a.length 4 (Rv.elemOf I4 a)→oneB g=true→(∀row∈a,row.length=4)→F_doAllE.pre ([Dat.l d]++([Dat.l a]++[]))→∃(j:List (List Int)),Ob (IsLst B f d.length 6 (Rv.elemOf [IntKind.u16,.i64,.i64,IntKind.i8,IntKind.i8,.i64] d)∧j.length=d.length∧(∀i∈j,i.length=6)∧∀(k:Nat),k < d.length→Rv.elemOf [IntKind.u16,.i64,.i64,IntKind.i8,IntKind.i8,.i64] d k=Rv.elemOf [IntKind.u16,.i64,.i64,IntKind.i8,IntKind.i8,.i64] j k)∧Ob (∀(i:List Int),i∈j→canR [IntKind.u16,.i64,.i64,IntKind.i8,IntKind.i8,.i64] i)∧Ob (F_Check.pre [Dat.l j])∧LsA B g I4 a∧((200:Int) < (↑a.length:Int)→Ob (ldN d.length a=(0:Nat))∧Ob ((5:Int)=ldErr a)∧Ob (ldN d.length a=(0:Nat))∧Ob (PlainE (ldN d.length a) (El.fn (stF a a.length)))∧True)∧(¬(200:Int) < (↑a.length:Int)→Ob (IsLst B f d.length 6 (Rv.elemOf [IntKind.u16,.i64,.i64,IntKind.i8,IntKind.i8,.i64] d))∧Ob ((↑d.length:Int)=(↑d.length:Int)∧(0:Int)≤(↑d.length:Int)∧d.length*(113:Nat)≤1099511627776)∧LsA B g I4 a∧(∃(b:Nat),Ob (b≤a.length∧∀(h:Nat),h < b→clAt a h)∧Ob (SV.lst f d.length 6 (Rv.elemOf [IntKind.u16,.i64,.i64,IntKind.i8,IntKind.i8,.i64] d)=SV.lst f d.length 6 (Rv.elemOf [IntKind.u16,.i64,.i64,IntKind.i8,IntKind.i8,.i64] d))∧Ob (d.length=d.length)∧Ob (SV.lst g a.length 4 (Rv.elemOf I4 a)=SV.lst g a.length 4 (Rv.elemOf I4 a))∧Ob ((↑a.length:Int)=(↑a.length:Int))∧Ob ((0:Int)=(↑b:Int))∧EqA d.length d.length (El.fn fun(f:Nat)↦symL (List.map SV.v (Value.agg #[Value.int .i64 (0:Int),Value.int .i64 (0:Int),Value.int .i64 (0:Int),Value.int .i64 (0:Int),Value.int .i64 (0:Int),Value.int .i64 (0:Int),Value.int .i64 (0:Int),Value.int .i64 (0:Int),Value.int .i64 (0:Int),Value.int .i64 (0:Int),Value.int .i64 (0:Int),Value.int .i64 (0:Int),Value.int .i64 (0:Int),Value.int .i64 (0:Int)]).cells.toList)) (El.fn (stF a b))∧Ob (IsLst B f d.length 6 (Rv.elemOf [IntKind.u16,.i64,.i64,IntKind.i8,IntKind.i8,.i64] d))∧LsA B g I4 a∧Ob (PlainE d.length (El.fn (stF a b)))∧True)∧∀(b:Nat),(b≤a.length∧∀(h:Nat),h < b→clAt a h)→∀(_ _ _ _ _ _ _ _ _ _ _ _ _ _ _ _ _ _ _ _ _ _ _ _ _ _ _ _ _ _ _ _ _ _ _ _ _ _ _ _ _ _:Value),((↑b:Int) < (↑a.length:Int)→Ob ((0:Int)≤(↑b:Int)∧b < a.length∧IsLst B g a.length 4 (Rv.elemOf I4 a))∧Ob (IsLst B g a.length 4 (Rv.elemOf I4 a)∧b < a.length)∧Ob (IsLst B f d.length 6 (Rv.elemOf [IntKind.u16,.i64,.i64,IntKind.i8,IntKind.i8,.i64] d))∧Ob (((1:Int)≤cell a b 0∧cell a b 0≤(5:Int))∧((0:Int)≤cell a b 1∧cell a b 1 < (↑d.length:Int))∧((0:Int)≤cell a b 2∧cell a b 2≤(1000000:Int))∧((0:Int)≤cell a b 3∧cell a b 3≤(1000000:Int))∧(↑d.length:Int)≤(1000:Int))∧∃(c:Nat),Ob ((0:Int)≤cell a b 0∧(cell a b 0).toNat < 6)∧(((((True∧(cell a b 0=(↑0:Int)→Ob ((0:Int)≤cell a b 1∧(cell a b 1).toNat < d.length)∧Ob ((cell a b 1).toNat < d.length)∧Ob ((cell a b 1).toNat=c)∧(¬lf a (↑c:Int) 0 b < cell a b 2→Ob ((cell a b 1).toNat < d.length)∧Ob ((cell a b 1).toNat=c)∧(lf a (↑c:Int) 1 b < cell a b 3→Ob (ldN d.length a=(0:Nat))∧Ob ((4:Int)=ldErr a)∧Ob (ldN d.length a=(0:Nat))∧Ob (PlainE (ldN d.length a) (El.fn (stF a a.length)))∧True)∧(¬lf a (↑c:Int) 1 b < cell a b 3→Ob ((cell a b 1).toNat < d.length)∧Ob ((cell a b 1).toNat=c)∧Ob (InR .i64 ((0:Int)-cell a b 2))∧Ob (InR .i64 ((0:Int)-cell a b 3))∧Ob (((-1000000000:Int)≤lf a (↑c:Int) 0 b∧lf a (↑c:Int) 0 b≤(1000000000:Int))∧((-1000000000:Int)≤lf a (↑c:Int) 1 b∧lf a (↑c:Int) 1 b≤(1000000000:Int))∧((-1000000000:Int)≤(0:Int)-cell a b 2∧(0:Int)-cell a b 2≤(1000000000:Int))∧(-1000000000:Int)≤(0:Int)-cell a b 3∧(0:Int)-cell a b 3≤(1000000000:Int))∧Ob ((cell a b 1).toNat < d.length∧(((El.fn (stF a b)).row c [SV.i .i64 (lf a (↑c:Int) 0 b),SV.i .i64 (lf a (↑c:Int) 1 b),SV.i .i64 (dn a (↑c:Int) (0:Int) 0 b),SV.i .i64 (dn a (↑c:Int) (0:Int) 1 b),SV.i .i64 (dn a (↑c:Int) (1:Int) 0 b),SV.i .i64 (dn a (↑c:Int) (1:Int) 1 b),SV.i .i64 (dn a (↑c:Int) (2:Int) 0 b),SV.i .i64 (dn a (↑c:Int) (2:Int) 1 b),SV.i .i64 (dn a (↑c:Int) (3:Int) 0 b),SV.i .i64 (dn a (↑c:Int) (3:Int) 1 b),SV.i .i64 (dn a (↑c:Int) (4:Int) 0 b),SV.i .i64 (dn a (↑c:Int) (4:Int) 1 b),SV.i .i64 (dn a (↑c:Int) (5:Int) 0 b),SV.i .i64 (dn a (↑c:Int) (5:Int) 1 b)]).at (cell a b 1).toNat).length=(14:Nat))∧Ob ((cell a b 1).toNat=c)∧Ob ((cell a b 1).toNat < d.length)∧Ob ((cell a b 1).toNat=c)∧Ob True∧(¬(lf a (↑c:Int) 0 b+((0:Int)-cell a b 2)≤lf a (↑c:Int) 1 b+((0:Int)-cell a b 3)∧((0:Int) < lf a (↑c:Int) 0 b+((0:Int)-cell a b 2)∨lf a (↑c:Int) 1 b+((0:Int)-cell a b 3)=(0:Int)))→Ob (ldN d.length a=(0:Nat))∧Ob ((9:Int)=ldErr a)∧Ob (ldN d.length a=(0:Nat))∧Ob (PlainE (ldN d.length a) (El.fn (stF a a.length)))∧True)∧(¬¬(lf a (↑c:Int) 0 b+((0:Int)-cell a b 2)≤lf a (↑c:Int) 1 b+((0:Int)-cell a b 3)∧((0:Int) < lf a (↑c:Int) 0 b+((0:Int)-cell a b 2)∨lf a (↑c:Int) 1 b+((0:Int)-cell a b 3)=(0:Int)))→Ob ((cell a b 1).toNat < d.length)∧Ob ((cell a b 1).toNat=c)∧Ob (((-1000000000:Int)≤dn a (↑c:Int) (0:Int) 0 b∧dn a (↑c:Int) (0:Int) 0 b≤(1000000000:Int))∧((-1000000000:Int)≤dn a (↑c:Int) (0:Int) 1 b∧dn a (↑c:Int) (0:Int) 1 b≤(1000000000:Int))∧((-1000000000:Int)≤cell a b 2∧cell a b 2≤(1000000000:Int))∧(-1000000000:Int)≤cell a b 3∧cell a b 3≤(1000000000:Int))∧Ob ((cell a b 1).toNat < d.length∧(((El.fn (stF a b)).row c [SV.i .i64 (lf a (↑c:Int) 0 b+((0:Int)-cell a b 2)),SV.i .i64 (lf a (↑c:Int) 1 b+((0:Int)-cell a b 3)),SV.i .i64 (dn a (↑c:Int) (0:Int) 0 b),SV.i .i64 (dn a (↑c:Int) (0:Int) 1 b),SV.i .i64 (dn a (↑c:Int) (1:Int) 0 b),SV.i .i64 (dn a (↑c:Int) (1:Int) 1 b),SV.i .i64 (dn a (↑c:Int) (2:Int) 0 b),SV.i .i64 (dn a (↑c:Int) (2:Int) 1 b),SV.i .i64 (dn a (↑c:Int) (3:Int) 0 b),SV.i .i64 (dn a (↑c:Int) (3:Int) 1 b),SV.i .i64 (dn a (↑c:Int) (4:Int) 0 b),SV.i .i64 (dn a (↑c:Int) (4:Int) 1 b),SV.i .i64 (dn a (↑c:Int) (5:Int) 0 b),SV.i .i64 (dn a (↑c:Int) (5:Int) 1 b)]).at (cell a b 1).toNat).length=(14:Nat))∧Ob ((cell a b 1).toNat=c)∧Ob (InR .i64 ((↑b:Int)+(1:Int)))∧∃(e:Nat),Ob ((e≤a.length∧∀(h:Nat),h < e→clAt a h)∧a.length-e < a.length-b)∧Ob (SV.lst f d.length 6 (Rv.elemOf [IntKind.u16,.i64,.i64,IntKind.i8,IntKind.i8,.i64] d)=SV.lst f d.length 6 (Rv.elemOf [IntKind.u16,.i64,.i64,IntKind.i8,IntKind.i8,.i64] d))∧Ob (d.length=d.length)∧Ob (SV.lst g a.length 4 (Rv.elemOf I4 a)=SV.lst g a.length 4 (Rv.elemOf I4 a))∧Ob ((↑a.length:Int)=(↑a.length:Int))∧Ob ((↑b:Int)+(1:Int)=(↑e:Int))∧EqA d.length d.length ((El.fn (stF a b)).row c [SV.i .i64 (lf a (↑c:Int) 0 b+((0:Int)-cell a b 2)),SV.i .i64 (lf a (↑c:Int) 1 b+((0:Int)-cell a b 3)),SV.i .i64 (dn a (↑c:Int) (0:Int) 0 b+cell a b 2),SV.i .i64 (dn a (↑c:Int) (0:Int) 1 b+cell a b 3),SV.i .i64 (dn a (↑c:Int) (1:Int) 0 b),SV.i .i64 (dn a (↑c:Int) (1:Int) 1 b),SV.i .i64 (dn a (↑c:Int) (2:Int) 0 b),SV.i .i64 (dn a (↑c:Int) (2:Int) 1 b),SV.i .i64 (dn a (↑c:Int) (3:Int) 0 b),SV.i .i64 (dn a (↑c:Int) (3:Int) 1 b),SV.i .i64 (dn a (↑c:Int) (4:Int) 0 b),SV.i .i64 (dn a (↑c:Int) (4:Int) 1 b),SV.i .i64 (dn a (↑c:Int) (5:Int) 0 b),SV.i .i64 (dn a (↑c:Int) (5:Int) 1 b)]) (El.fn (stF a e))∧Ob (IsLst B f d.length 6 (Rv.elemOf [IntKind.u16,.i64,.i64,IntKind.i8,IntKind.i8,.i64] d))∧LsA B g I4 a∧Ob (PlainE d.length (El.fn (stF a e)))∧True)))∧(lf a (↑c:Int) 0 b < cell a b 2→Ob (ldN d.length a=(0:Nat))∧Ob ((4:Int)=ldErr a)∧Ob (ldN d.length a=(0:Nat))∧Ob (PlainE (ldN d.length a) (El.fn (stF a a.length)))∧True)))∧(cell a b 0=(↑1:Int)→Ob ((0:Int)≤cell a b 1∧(cell a b 1).toNat < d.length)∧(cell a b 2=(0:Int)→Ob (ldN d.length a=(0:Nat))∧Ob ((2:Int)=ldErr a)∧Ob (ldN d.length a=(0:Nat))∧Ob (PlainE (ldN d.length a) (El.fn (stF a a.length)))∧True)∧(¬cell a b 2=(0:Int)→Ob ((cell a b 1).toNat < d.length)∧Ob ((cell a b 1).toNat=c)∧Ob (((-1000000000:Int)≤lf a (↑c:Int) 0 b∧lf a (↑c:Int) 0 b≤(1000000000:Int))∧((-1000000000:Int)≤lf a (↑c:Int) 1 b∧lf a (↑c:Int) 1 b≤(1000000000:Int))∧((-1000000000:Int)≤cell a b 2∧cell a b 2≤(1000000000:Int))∧(-1000000000:Int)≤cell a b 3∧cell a b 3≤(1000000000:Int))∧Ob ((cell a b 1).toNat < d.length∧(((El.fn (stF a b)).row c [SV.i .i64 (lf a (↑c:Int) 0 b),SV.i .i64 (lf a (↑c:Int) 1 b),SV.i .i64 (dn a (↑c:Int) (0:Int) 0 b),SV.i .i64 (dn a (↑c:Int) (0:Int) 1 b),SV.i .i64 (dn a (↑c:Int) (1:Int) 0 b),SV.i .i64 (dn a (↑c:Int) (1:Int) 1 b),SV.i .i64 (dn a (↑c:Int) (2:Int) 0 b),SV.i .i64 (dn a (↑c:Int) (2:Int) 1 b),SV.i .i64 (dn a (↑c:Int) (3:Int) 0 b),SV.i .i64 (dn a (↑c:Int) (3:Int) 1 b),SV.i .i64 (dn a (↑c:Int) (4:Int) 0 b),SV.i .i64 (dn a (↑c:Int) (4:Int) 1 b),SV.i .i64 (dn a (↑c:Int) (5:Int) 0 b),SV.i .i64 (dn a (↑c:Int) (5:Int) 1 b)]).at (cell a b 1).toNat).length=(14:Nat))∧Ob ((cell a b 1).toNat=c)∧Ob ((cell a b 1).toNat < d.length)∧Ob ((cell a b 1).toNat=c)∧Ob True∧(¬(lf a (↑c:Int) 0 b+cell a b 2≤lf a (↑c:Int) 1 b+cell a b 3∧((0:Int) < lf a (↑c:Int) 0 b+cell a b 2∨lf a (↑c:Int) 1 b+cell a b 3=(0:Int)))→Ob (ldN d.length a=(0:Nat))∧Ob ((9:Int)=ldErr a)∧Ob (ldN d.length a=(0:Nat))∧Ob (PlainE (ldN d.length a) (El.fn (stF a a.length)))∧True)∧(¬¬(lf a (↑c:Int) 0 b+cell a b 2≤lf a (↑c:Int) 1 b+cell a b 3∧((0:Int) < lf a (↑c:Int) 0 b+cell a b 2∨lf a (↑c:Int) 1 b+cell a b 3=(0:Int)))→Ob ((cell a b 1).toNat < d.length)∧Ob ((cell a b 1).toNat=c)∧Ob (((-1000000000:Int)≤dn a (↑c:Int) (1:Int) 0 b∧dn a (↑c:Int) (1:Int) 0 b≤(1000000000:Int))∧((-1000000000:Int)≤dn a (↑c:Int) (1:Int) 1 b∧dn a (↑c:Int) (1:Int) 1 b≤(1000000000:Int))∧((-1000000000:Int)≤cell a b 2∧cell a b 2≤(1000000000:Int))∧(-1000000000:Int)≤cell a b 3∧cell a b 3≤(1000000000:Int))∧Ob ((cell a b 1).toNat < d.length∧(((El.fn (stF a b)).row c [SV.i .i64 (lf a (↑c:Int) 0 b+cell a b 2),SV.i .i64 (lf a (↑c:Int) 1 b+cell a b 3),SV.i .i64 (dn a (↑c:Int) (0:Int) 0 b),SV.i .i64 (dn a (↑c:Int) (0:Int) 1 b),SV.i .i64 (dn a (↑c:Int) (1:Int) 0 b),SV.i .i64 (dn a (↑c:Int) (1:Int) 1 b),SV.i .i64 (dn a (↑c:Int) (2:Int) 0 b),SV.i .i64 (dn a (↑c:Int) (2:Int) 1 b),SV.i .i64 (dn a (↑c:Int) (3:Int) 0 b),SV.i .i64 (dn a (↑c:Int) (3:Int) 1 b),SV.i .i64 (dn a (↑c:Int) (4:Int) 0 b),SV.i .i64 (dn a (↑c:Int) (4:Int) 1 b),SV.i .i64 (dn a (↑c:Int) (5:Int) 0 b),SV.i .i64 (dn a (↑c:Int) (5:Int) 1 b)]).at (cell a b 1).toNat).length=(14:Nat))∧Ob ((cell a b 1).toNat=c)∧Ob (InR .i64 ((↑b:Int)+(1:Int)))∧∃(e:Nat),Ob ((e≤a.length∧∀(h:Nat),h < e→clAt a h)∧a.length-e < a.length-b)∧Ob (SV.lst f d.length 6 (Rv.elemOf [IntKind.u16,.i64,.i64,IntKind.i8,IntKind.i8,.i64] d)=SV.lst f d.length 6 (Rv.elemOf [IntKind.u16,.i64,.i64,IntKind.i8,IntKind.i8,.i64] d))∧Ob (d.length=d.length)∧Ob (SV.lst g a.length 4 (Rv.elemOf I4 a)=SV.lst g a.length 4 (Rv.elemOf I4 a))∧Ob ((↑a.length:Int)=(↑a.length:Int))∧Ob ((↑b:Int)+(1:Int)=(↑e:Int))∧EqA d.length d.length ((El.fn (stF a b)).row c [SV.i .i64 (lf a (↑c:Int) 0 b+cell a b 2),SV.i .i64 (lf a (↑c:Int) 1 b+cell a b 3),SV.i .i64 (dn a (↑c:Int) (0:Int) 0 b),SV.i .i64 (dn a (↑c:Int) (0:Int) 1 b),SV.i .i64 (dn a (↑c:Int) (1:Int) 0 b+cell a b 2),SV.i .i64 (dn a (↑c:Int) (1:Int) 1 b+cell a b 3),SV.i .i64 (dn a (↑c:Int) (2:Int) 0 b),SV.i .i64 (dn a (↑c:Int) (2:Int) 1 b),SV.i .i64 (dn a (↑c:Int) (3:Int) 0 b),SV.i .i64 (dn a (↑c:Int) (3:Int) 1 b),SV.i .i64 (dn a (↑c:Int) (4:Int) 0 b),SV.i .i64 (dn a (↑c:Int) (4:Int) 1 b),SV.i .i64 (dn a (↑c:Int) (5:Int) 0 b),SV.i .i64 (dn a (↑c:Int) (5:Int) 1 b)]) (El.fn (stF a e))∧Ob (IsLst B f d.length 6 (Rv.elemOf [IntKind.u16,.i64,.i64,IntKind.i8,IntKind.i8,.i64] d))∧LsA B g I4 a∧Ob (PlainE d.length (El.fn (stF a e)))∧True))))∧(cell a b 0=(↑2:Int)→Ob ((0:Int)≤cell a b 1∧(cell a b 1).toNat < d.length)∧(cell a b 2=(0:Int)→Ob (ldN d.length a=(0:Nat))∧Ob ((2:Int)=ldErr a)∧Ob (ldN d.length a=(0:Nat))∧Ob (PlainE (ldN d.length a) (El.fn (stF a a.length)))∧True)∧(¬cell a b 2=(0:Int)→Ob ((cell a b 1).toNat < d.length)∧Ob ((cell a b 1).toNat=c)∧(¬lf a (↑c:Int) 0 b < cell a b 2→Ob ((cell a b 1).toNat < d.length)∧Ob ((cell a b 1).toNat=c)∧(lf a (↑c:Int) 1 b < cell a b 3→Ob (ldN d.length a=(0:Nat))∧Ob ((4:Int)=ldErr a)∧Ob (ldN d.length a=(0:Nat))∧Ob (PlainE (ldN d.length a) (El.fn (stF a a.length)))∧True)∧(¬lf a (↑c:Int) 1 b < cell a b 3→Ob ((cell a b 1).toNat < d.length)∧Ob ((cell a b 1).toNat=c)∧Ob (InR .i64 ((0:Int)-cell a b 2))∧Ob (InR .i64 ((0:Int)-cell a b 3))∧Ob (((-1000000000:Int)≤lf a (↑c:Int) 0 b∧lf a (↑c:Int) 0 b≤(1000000000:Int))∧((-1000000000:Int)≤lf a (↑c:Int) 1 b∧lf a (↑c:Int) 1 b≤(1000000000:Int))∧((-1000000000:Int)≤(0:Int)-cell a b 2∧(0:Int)-cell a b 2≤(1000000000:Int))∧(-1000000000:Int)≤(0:Int)-cell a b 3∧(0:Int)-cell a b 3≤(1000000000:Int))∧Ob ((cell a b 1).toNat < d.length∧(((El.fn (stF a b)).row c [SV.i .i64 (lf a (↑c:Int) 0 b),SV.i .i64 (lf a (↑c:Int) 1 b),SV.i .i64 (dn a (↑c:Int) (0:Int) 0 b),SV.i .i64 (dn a (↑c:Int) (0:Int) 1 b),SV.i .i64 (dn a (↑c:Int) (1:Int) 0 b),SV.i .i64 (dn a (↑c:Int) (1:Int) 1 b),SV.i .i64 (dn a (↑c:Int) (2:Int) 0 b),SV.i .i64 (dn a (↑c:Int) (2:Int) 1 b),SV.i .i64 (dn a (↑c:Int) (3:Int) 0 b),SV.i .i64 (dn a (↑c:Int) (3:Int) 1 b),SV.i .i64 (dn a (↑c:Int) (4:Int) 0 b),SV.i .i64 (dn a (↑c:Int) (4:Int) 1 b),SV.i .i64 (dn a (↑c:Int) (5:Int) 0 b),SV.i .i64 (dn a (↑c:Int) (5:Int) 1 b)]).at (cell a b 1).toNat).length=(14:Nat))∧Ob ((cell a b 1).toNat=c)∧Ob ((cell a b 1).toNat < d.length)∧Ob ((cell a b 1).toNat=c)∧Ob True∧(¬(lf a (↑c:Int) 0 b+((0:Int)-cell a b 2)≤lf a (↑c:Int) 1 b+((0:Int)-cell a b 3)∧((0:Int) < lf a (↑c:Int) 0 b+((0:Int)-cell a b 2)∨lf a (↑c:Int) 1 b+((0:Int)-cell a b 3)=(0:Int)))→Ob (ldN d.length a=(0:Nat))∧Ob ((9:Int)=ldErr a)∧Ob (ldN d.length a=(0:Nat))∧Ob (PlainE (ldN d.length a) (El.fn (stF a a.length)))∧True)∧(¬¬(lf a (↑c:Int) 0 b+((0:Int)-cell a b 2)≤lf a (↑c:Int) 1 b+((0:Int)-cell a b 3)∧((0:Int) < lf a (↑c:Int) 0 b+((0:Int)-cell a b 2)∨lf a (↑c:Int) 1 b+((0:Int)-cell a b 3)=(0:Int)))→Ob ((cell a b 1).toNat < d.length)∧Ob ((cell a b 1).toNat=c)∧Ob (((-1000000000:Int)≤dn a (↑c:Int) (2:Int) 0 b∧dn a (↑c:Int) (2:Int) 0 b≤(1000000000:Int))∧((-1000000000:Int)≤dn a (↑c:Int) (2:Int) 1 b∧dn a (↑c:Int) (2:Int) 1 b≤(1000000000:Int))∧((-1000000000:Int)≤cell a b 2∧cell a b 2≤(1000000000:Int))∧(-1000000000:Int)≤cell a b 3∧cell a b 3≤(1000000000:Int))∧Ob ((cell a b 1).toNat < d.length∧(((El.fn (stF a b)).row c [SV.i .i64 (lf a (↑c:Int) 0 b+((0:Int)-cell a b 2)),SV.i .i64 (lf a (↑c:Int) 1 b+((0:Int)-cell a b 3)),SV.i .i64 (dn a (↑c:Int) (0:Int) 0 b),SV.i .i64 (dn a (↑c:Int) (0:Int) 1 b),SV.i .i64 (dn a (↑c:Int) (1:Int) 0 b),SV.i .i64 (dn a (↑c:Int) (1:Int) 1 b),SV.i .i64 (dn a (↑c:Int) (2:Int) 0 b),SV.i .i64 (dn a (↑c:Int) (2:Int) 1 b),SV.i .i64 (dn a (↑c:Int) (3:Int) 0 b),SV.i .i64 (dn a (↑c:Int) (3:Int) 1 b),SV.i .i64 (dn a (↑c:Int) (4:Int) 0 b),SV.i .i64 (dn a (↑c:Int) (4:Int) 1 b),SV.i .i64 (dn a (↑c:Int) (5:Int) 0 b),SV.i .i64 (dn a (↑c:Int) (5:Int) 1 b)]).at (cell a b 1).toNat).length=(14:Nat))∧Ob ((cell a b 1).toNat=c)∧Ob (InR .i64 ((↑b:Int)+(1:Int)))∧∃(e:Nat),Ob ((e≤a.length∧∀(h:Nat),h < e→clAt a h)∧a.length-e < a.length-b)∧Ob (SV.lst f d.length 6 (Rv.elemOf [IntKind.u16,.i64,.i64,IntKind.i8,IntKind.i8,.i64] d)=SV.lst f d.length 6 (Rv.elemOf [IntKind.u16,.i64,.i64,IntKind.i8,IntKind.i8,.i64] d))∧Ob (d.length=d.length)∧Ob (SV.lst g a.length 4 (Rv.elemOf I4 a)=SV.lst g a.length 4 (Rv.elemOf I4 a))∧Ob ((↑a.length:Int)=(↑a.length:Int))∧Ob ((↑b:Int)+(1:Int)=(↑e:Int))∧EqA d.length d.length ((El.fn (stF a b)).row c [SV.i .i64 (lf a (↑c:Int) 0 b+((0:Int)-cell a b 2)),SV.i .i64 (lf a (↑c:Int) 1 b+((0:Int)-cell a b 3)),SV.i .i64 (dn a (↑c:Int) (0:Int) 0 b),SV.i .i64 (dn a (↑c:Int) (0:Int) 1 b),SV.i .i64 (dn a (↑c:Int) (1:Int) 0 b),SV.i .i64 (dn a (↑c:Int) (1:Int) 1 b),SV.i .i64 (dn a (↑c:Int) (2:Int) 0 b+cell a b 2),SV.i .i64 (dn a (↑c:Int) (2:Int) 1 b+cell a b 3),SV.i .i64 (dn a (↑c:Int) (3:Int) 0 b),SV.i .i64 (dn a (↑c:Int) (3:Int) 1 b),SV.i .i64 (dn a (↑c:Int) (4:Int) 0 b),SV.i .i64 (dn a (↑c:Int) (4:Int) 1 b),SV.i .i64 (dn a (↑c:Int) (5:Int) 0 b),SV.i .i64 (dn a (↑c:Int) (5:Int) 1 b)]) (El.fn (stF a e))∧Ob (IsLst B f d.length 6 (Rv.elemOf [IntKind.u16,.i64,.i64,IntKind.i8,IntKind.i8,.i64] d))∧LsA B g I4 a∧Ob (PlainE d.length (El.fn (stF a e)))∧True)))∧(lf a (↑c:Int) 0 b < cell a b 2→Ob (ldN d.length a=(0:Nat))∧Ob ((4:Int)=ldErr a)∧Ob (ldN d.length a=(0:Nat))∧Ob (PlainE (ldN d.length a) (El.fn (stF a a.length)))∧True))))∧(cell a b 0=(↑3:Int)→Ob ((0:Int)≤cell a b 1∧(cell a b 1).toNat < d.length)∧(cell a b 2=(0:Int)→Ob (ldN d.length a=(0:Nat))∧Ob ((2:Int)=ldErr a)∧Ob (ldN d.length a=(0:Nat))∧Ob (PlainE (ldN d.length a) (El.fn (stF a a.length)))∧True)∧(¬cell a b 2=(0:Int)→Ob ((cell a b 1).toNat < d.length)∧Ob ((cell a b 1).toNat=c)∧(¬lf a (↑c:Int) 0 b < cell a b 2→Ob ((cell a b 1).toNat < d.length)∧Ob ((cell a b 1).toNat=c)∧(lf a (↑c:Int) 1 b < cell a b 3→Ob (ldN d.length a=(0:Nat))∧Ob ((4:Int)=ldErr a)∧Ob (ldN d.length a=(0:Nat))∧Ob (PlainE (ldN d.length a) (El.fn (stF a a.length)))∧True)∧(¬lf a (↑c:Int) 1 b < cell a b 3→Ob ((cell a b 1).toNat < d.length)∧Ob ((cell a b 1).toNat=c)∧Ob (InR .i64 ((0:Int)-cell a b 2))∧Ob (InR .i64 ((0:Int)-cell a b 3))∧Ob (((-1000000000:Int)≤lf a (↑c:Int) 0 b∧lf a (↑c:Int) 0 b≤(1000000000:Int))∧((-1000000000:Int)≤lf a (↑c:Int) 1 b∧lf a (↑c:Int) 1 b≤(1000000000:Int))∧((-1000000000:Int)≤(0:Int)-cell a b 2∧(0:Int)-cell a b 2≤(1000000000:Int))∧(-1000000000:Int)≤(0:Int)-cell a b 3∧(0:Int)-cell a b 3≤(1000000000:Int))∧Ob ((cell a b 1).toNat < d.length∧(((El.fn (stF a b)).row c [SV.i .i64 (lf a (↑c:Int) 0 b),SV.i .i64 (lf a (↑c:Int) 1 b),SV.i .i64 (dn a (↑c:Int) (0:Int) 0 b),SV.i .i64 (dn a (↑c:Int) (0:Int) 1 b),SV.i .i64 (dn a (↑c:Int) (1:Int) 0 b),SV.i .i64 (dn a (↑c:Int) (1:Int) 1 b),SV.i .i64 (dn a (↑c:Int) (2:Int) 0 b),SV.i .i64 (dn a (↑c:Int) (2:Int) 1 b),SV.i .i64 (dn a (↑c:Int) (3:Int) 0 b),SV.i .i64 (dn a (↑c:Int) (3:Int) 1 b),SV.i .i64 (dn a (↑c:Int) (4:Int) 0 b),SV.i .i64 (dn a (↑c:Int) (4:Int) 1 b),SV.i .i64 (dn a (↑c:Int) (5:Int) 0 b),SV.i .i64 (dn a (↑c:Int) (5:Int) 1 b)]).at (cell a b 1).toNat).length=(14:Nat))∧Ob ((cell a b 1).toNat=c)∧Ob ((cell a b 1).toNat < d.length)∧Ob ((cell a b 1).toNat=c)∧Ob True∧(¬(lf a (↑c:Int) 0 b+((0:Int)-cell a b 2)≤lf a (↑c:Int) 1 b+((0:Int)-cell a b 3)∧((0:Int) < lf a (↑c:Int) 0 b+((0:Int)-cell a b 2)∨lf a (↑c:Int) 1 b+((0:Int)-cell a b 3)=(0:Int)))→Ob (ldN d.length a=(0:Nat))∧Ob ((9:Int)=ldErr a)∧Ob (ldN d.length a=(0:Nat))∧Ob (PlainE (ldN d.length a) (El.fn (stF a a.length)))∧True)∧(¬¬(lf a (↑c:Int) 0 b+((0:Int)-cell a b 2)≤lf a (↑c:Int) 1 b+((0:Int)-cell a b 3)∧((0:Int) < lf a (↑c:Int) 0 b+((0:Int)-cell a b 2)∨lf a (↑c:Int) 1 b+((0:Int)-cell a b 3)=(0:Int)))→Ob ((cell a b 1).toNat < d.length)∧Ob ((cell a b 1).toNat=c)∧Ob (((-1000000000:Int)≤dn a (↑c:Int) (3:Int) 0 b∧dn a (↑c:Int) (3:Int) 0 b≤(1000000000:Int))∧((-1000000000:Int)≤dn a (↑c:Int) (3:Int) 1 b∧dn a (↑c:Int) (3:Int) 1 b≤(1000000000:Int))∧((-1000000000:Int)≤cell a b 2∧cell a b 2≤(1000000000:Int))∧(-1000000000:Int)≤cell a b 3∧cell a b 3≤(1000000000:Int))∧Ob ((cell a b 1).toNat < d.length∧(((El.fn (stF a b)).row c [SV.i .i64 (lf a (↑c:Int) 0 b+((0:Int)-cell a b 2)),SV.i .i64 (lf a (↑c:Int) 1 b+((0:Int)-cell a b 3)),SV.i .i64 (dn a (↑c:Int) (0:Int) 0 b),SV.i .i64 (dn a (↑c:Int) (0:Int) 1 b),SV.i .i64 (dn a (↑c:Int) (1:Int) 0 b),SV.i .i64 (dn a (↑c:Int) (1:Int) 1 b),SV.i .i64 (dn a (↑c:Int) (2:Int) 0 b),SV.i .i64 (dn a (↑c:Int) (2:Int) 1 b),SV.i .i64 (dn a (↑c:Int) (3:Int) 0 b),SV.i .i64 (dn a (↑c:Int) (3:Int) 1 b),SV.i .i64 (dn a (↑c:Int) (4:Int) 0 b),SV.i .i64 (dn a (↑c:Int) (4:Int) 1 b),SV.i .i64 (dn a (↑c:Int) (5:Int) 0 b),SV.i .i64 (dn a (↑c:Int) (5:Int) 1 b)]).at (cell a b 1).toNat).length=(14:Nat))∧Ob ((cell a b 1).toNat=c)∧Ob (InR .i64 ((↑b:Int)+(1:Int)))∧∃(e:Nat),Ob ((e≤a.length∧∀(h:Nat),h < e→clAt a h)∧a.length-e < a.length-b)∧Ob (SV.lst f d.length 6 (Rv.elemOf [IntKind.u16,.i64,.i64,IntKind.i8,IntKind.i8,.i64] d)=SV.lst f d.length 6 (Rv.elemOf [IntKind.u16,.i64,.i64,IntKind.i8,IntKind.i8,.i64] d))∧Ob (d.length=d.length)∧Ob (SV.lst g a.length 4 (Rv.elemOf I4 a)=SV.lst g a.length 4 (Rv.elemOf I4 a))∧Ob ((↑a.length:Int)=(↑a.length:Int))∧Ob ((↑b:Int)+(1:Int)=(↑e:Int))∧EqA d.length d.length ((El.fn (stF a b)).row c [SV.i .i64 (lf a (↑c:Int) 0 b+((0:Int)-cell a b 2)),SV.i .i64 (lf a (↑c:Int) 1 b+((0:Int)-cell a b 3)),SV.i .i64 (dn a (↑c:Int) (0:Int) 0 b),SV.i .i64 (dn a (↑c:Int) (0:Int) 1 b),SV.i .i64 (dn a (↑c:Int) (1:Int) 0 b),SV.i .i64 (dn a (↑c:Int) (1:Int) 1 b),SV.i .i64 (dn a (↑c:Int) (2:Int) 0 b),SV.i .i64 (dn a (↑c:Int) (2:Int) 1 b),SV.i .i64 (dn a (↑c:Int) (3:Int) 0 b+cell a b 2),SV.i .i64 (dn a (↑c:Int) (3:Int) 1 b+cell a b 3),SV.i .i64 (dn a (↑c:Int) (4:Int) 0 b),SV.i .i64 (dn a (↑c:Int) (4:Int) 1 b),SV.i .i64 (dn a (↑c:Int) (5:Int) 0 b),SV.i .i64 (dn a (↑c:Int) (5:Int) 1 b)]) (El.fn (stF a e))∧Ob (IsLst B f d.length 6 (Rv.elemOf [IntKind.u16,.i64,.i64,IntKind.i8,IntKind.i8,.i64] d))∧LsA B g I4 a∧Ob (PlainE d.length (El.fn (stF a e)))∧True)))∧(lf a (↑c:Int) 0 b < cell a b 2→Ob (ldN d.length a=(0:Nat))∧Ob ((4:Int)=ldErr a)∧Ob (ldN d.length a=(0:Nat))∧Ob (PlainE (ldN d.length a) (El.fn (stF a a.length)))∧True))))∧(cell a b 0=(↑4:Int)→Ob ((0:Int)≤cell a b 1∧(cell a b 1).toNat < d.length)∧(cell a b 2=(0:Int)→Ob (ldN d.length a=(0:Nat))∧Ob ((2:Int)=ldErr a)∧Ob (ldN d.length a=(0:Nat))∧Ob (PlainE (ldN d.length a) (El.fn (stF a a.length)))∧True)∧(¬cell a b 2=(0:Int)→Ob ((cell a b 1).toNat < d.length)∧Ob ((cell a b 1).toNat=c)∧(¬lf a (↑c:Int) 0 b < cell a b 2→Ob ((cell a b 1).toNat < d.length)∧Ob ((cell a b 1).toNat=c)∧(lf a (↑c:Int) 1 b < cell a b 3→Ob (ldN d.length a=(0:Nat))∧Ob ((4:Int)=ldErr a)∧Ob (ldN d.length a=(0:Nat))∧Ob (PlainE (ldN d.length a) (El.fn (stF a a.length)))∧True)∧(¬lf a (↑c:Int) 1 b < cell a b 3→Ob ((cell a b 1).toNat < d.length)∧Ob ((cell a b 1).toNat=c)∧Ob (InR .i64 ((0:Int)-cell a b 2))∧Ob (InR .i64 ((0:Int)-cell a b 3))∧Ob (((-1000000000:Int)≤lf a (↑c:Int) 0 b∧lf a (↑c:Int) 0 b≤(1000000000:Int))∧((-1000000000:Int)≤lf a (↑c:Int) 1 b∧lf a (↑c:Int) 1 b≤(1000000000:Int))∧((-1000000000:Int)≤(0:Int)-cell a b 2∧(0:Int)-cell a b 2≤(1000000000:Int))∧(-1000000000:Int)≤(0:Int)-cell a b 3∧(0:Int)-cell a b 3≤(1000000000:Int))∧Ob ((cell a b 1).toNat < d.length∧(((El.fn (stF a b)).row c [SV.i .i64 (lf a (↑c:Int) 0 b),SV.i .i64 (lf a (↑c:Int) 1 b),SV.i .i64 (dn a (↑c:Int) (0:Int) 0 b),SV.i .i64 (dn a (↑c:Int) (0:Int) 1 b),SV.i .i64 (dn a (↑c:Int) (1:Int) 0 b),SV.i .i64 (dn a (↑c:Int) (1:Int) 1 b),SV.i .i64 (dn a (↑c:Int) (2:Int) 0 b),SV.i .i64 (dn a (↑c:Int) (2:Int) 1 b),SV.i .i64 (dn a (↑c:Int) (3:Int) 0 b),SV.i .i64 (dn a (↑c:Int) (3:Int) 1 b),SV.i .i64 (dn a (↑c:Int) (4:Int) 0 b),SV.i .i64 (dn a (↑c:Int) (4:Int) 1 b),SV.i .i64 (dn a (↑c:Int) (5:Int) 0 b),SV.i .i64 (dn a (↑c:Int) (5:Int) 1 b)]).at (cell a b 1).toNat).length=(14:Nat))∧Ob ((cell a b 1).toNat=c)∧Ob ((cell a b 1).toNat < d.length)∧Ob ((cell a b 1).toNat=c)∧Ob True∧(¬(lf a (↑c:Int) 0 b+((0:Int)-cell a b 2)≤lf a (↑c:Int) 1 b+((0:Int)-cell a b 3)∧((0:Int) < lf a (↑c:Int) 0 b+((0:Int)-cell a b 2)∨lf a (↑c:Int) 1 b+((0:Int)-cell a b 3)=(0:Int)))→Ob (ldN d.length a=(0:Nat))∧Ob ((9:Int)=ldErr a)∧Ob (ldN d.length a=(0:Nat))∧Ob (PlainE (ldN d.length a) (El.fn (stF a a.length)))∧True)∧(¬¬(lf a (↑c:Int) 0 b+((0:Int)-cell a b 2)≤lf a (↑c:Int) 1 b+((0:Int)-cell a b 3)∧((0:Int) < lf a (↑c:Int) 0 b+((0:Int)-cell a b 2)∨lf a (↑c:Int) 1 b+((0:Int)-cell a b 3)=(0:Int)))→Ob ((cell a b 1).toNat < d.length)∧Ob ((cell a b 1).toNat=c)∧Ob (((-1000000000:Int)≤dn a (↑c:Int) (4:Int) 0 b∧dn a (↑c:Int) (4:Int) 0 b≤(1000000000:Int))∧((-1000000000:Int)≤dn a (↑c:Int) (4:Int) 1 b∧dn a (↑c:Int) (4:Int) 1 b≤(1000000000:Int))∧((-1000000000:Int)≤cell a b 2∧cell a b 2≤(1000000000:Int))∧(-1000000000:Int)≤cell a b 3∧cell a b 3≤(1000000000:Int))∧Ob ((cell a b 1).toNat < d.length∧(((El.fn (stF a b)).row c [SV.i .i64 (lf a (↑c:Int) 0 b+((0:Int)-cell a b 2)),SV.i .i64 (lf a (↑c:Int) 1 b+((0:Int)-cell a b 3)),SV.i .i64 (dn a (↑c:Int) (0:Int) 0 b),SV.i .i64 (dn a (↑c:Int) (0:Int) 1 b),SV.i .i64 (dn a (↑c:Int) (1:Int) 0 b),SV.i .i64 (dn a (↑c:Int) (1:Int) 1 b),SV.i .i64 (dn a (↑c:Int) (2:Int) 0 b),SV.i .i64 (dn a (↑c:Int) (2:Int) 1 b),SV.i .i64 (dn a (↑c:Int) (3:Int) 0 b),SV.i .i64 (dn a (↑c:Int) (3:Int) 1 b),SV.i .i64 (dn a (↑c:Int) (4:Int) 0 b),SV.i .i64 (dn a (↑c:Int) (4:Int) 1 b),SV.i .i64 (dn a (↑c:Int) (5:Int) 0 b),SV.i .i64 (dn a (↑c:Int) (5:Int) 1 b)]).at (cell a b 1).toNat).length=(14:Nat))∧Ob ((cell a b 1).toNat=c)∧Ob (InR .i64 ((↑b:Int)+(1:Int)))∧∃(e:Nat),Ob ((e≤a.length∧∀(h:Nat),h < e→clAt a h)∧a.length-e < a.length-b)∧Ob (SV.lst f d.length 6 (Rv.elemOf [IntKind.u16,.i64,.i64,IntKind.i8,IntKind.i8,.i64] d)=SV.lst f d.length 6 (Rv.elemOf [IntKind.u16,.i64,.i64,IntKind.i8,IntKind.i8,.i64] d))∧Ob (d.length=d.length)∧Ob (SV.lst g a.length 4 (Rv.elemOf I4 a)=SV.lst g a.length 4 (Rv.elemOf I4 a))∧Ob ((↑a.length:Int)=(↑a.length:Int))∧Ob ((↑b:Int)+(1:Int)=(↑e:Int))∧EqA d.length d.length ((El.fn (stF a b)).row c [SV.i .i64 (lf a (↑c:Int) 0 b+((0:Int)-cell a b 2)),SV.i .i64 (lf a (↑c:Int) 1 b+((0:Int)-cell a b 3)),SV.i .i64 (dn a (↑c:Int) (0:Int) 0 b),SV.i .i64 (dn a (↑c:Int) (0:Int) 1 b),SV.i .i64 (dn a (↑c:Int) (1:Int) 0 b),SV.i .i64 (dn a (↑c:Int) (1:Int) 1 b),SV.i .i64 (dn a (↑c:Int) (2:Int) 0 b),SV.i .i64 (dn a (↑c:Int) (2:Int) 1 b),SV.i .i64 (dn a (↑c:Int) (3:Int) 0 b),SV.i .i64 (dn a (↑c:Int) (3:Int) 1 b),SV.i .i64 (dn a (↑c:Int) (4:Int) 0 b+cell a b 2),SV.i .i64 (dn a (↑c:Int) (4:Int) 1 b+cell a b 3),SV.i .i64 (dn a (↑c:Int) (5:Int) 0 b),SV.i .i64 (dn a (↑c:Int) (5:Int) 1 b)]) (El.fn (stF a e))∧Ob (IsLst B f d.length 6 (Rv.elemOf [IntKind.u16,.i64,.i64,IntKind.i8,IntKind.i8,.i64] d))∧LsA B g I4 a∧Ob (PlainE d.length (El.fn (stF a e)))∧True)))∧(lf a (↑c:Int) 0 b < cell a b 2→Ob (ldN d.length a=(0:Nat))∧Ob ((4:Int)=ldErr a)∧Ob (ldN d.length a=(0:Nat))∧Ob (PlainE (ldN d.length a) (El.fn (stF a a.length)))∧True))))∧(cell a b 0=(↑5:Int)→Ob ((0:Int)≤cell a b 1∧(cell a b 1).toNat < d.length)∧((0:Int) < cell a b 2→Ob (ldN d.length a=(0:Nat))∧Ob ((2:Int)=ldErr a)∧Ob (ldN d.length a=(0:Nat))∧Ob (PlainE (ldN d.length a) (El.fn (stF a a.length)))∧True)∧(¬(0:Int) < cell a b 2→Ob ((cell a b 1).toNat < d.length)∧Ob ((cell a b 1).toNat=c)∧(¬lf a (↑c:Int) 0 b < cell a b 2→Ob ((cell a b 1).toNat < d.length)∧Ob ((cell a b 1).toNat=c)∧(lf a (↑c:Int) 1 b < cell a b 3→Ob (ldN d.length a=(0:Nat))∧Ob ((4:Int)=ldErr a)∧Ob (ldN d.length a=(0:Nat))∧Ob (PlainE (ldN d.length a) (El.fn (stF a a.length)))∧True)∧(¬lf a (↑c:Int) 1 b < cell a b 3→Ob ((cell a b 1).toNat < d.length)∧Ob ((cell a b 1).toNat=c)∧Ob (InR .i64 ((0:Int)-cell a b 2))∧Ob (InR .i64 ((0:Int)-cell a b 3))∧Ob (((-1000000000:Int)≤lf a (↑c:Int) 0 b∧lf a (↑c:Int) 0 b≤(1000000000:Int))∧((-1000000000:Int)≤lf a (↑c:Int) 1 b∧lf a (↑c:Int) 1 b≤(1000000000:Int))∧((-1000000000:Int)≤(0:Int)-cell a b 2∧(0:Int)-cell a b 2≤(1000000000:Int))∧(-1000000000:Int)≤(0:Int)-cell a b 3∧(0:Int)-cell a b 3≤(1000000000:Int))∧Ob ((cell a b 1).toNat < d.length∧(((El.fn (stF a b)).row c [SV.i .i64 (lf a (↑c:Int) 0 b),SV.i .i64 (lf a (↑c:Int) 1 b),SV.i .i64 (dn a (↑c:Int) (0:Int) 0 b),SV.i .i64 (dn a (↑c:Int) (0:Int) 1 b),SV.i .i64 (dn a (↑c:Int) (1:Int) 0 b),SV.i .i64 (dn a (↑c:Int) (1:Int) 1 b),SV.i .i64 (dn a (↑c:Int) (2:Int) 0 b),SV.i .i64 (dn a (↑c:Int) (2:Int) 1 b),SV.i .i64 (dn a (↑c:Int) (3:Int) 0 b),SV.i .i64 (dn a (↑c:Int) (3:Int) 1 b),SV.i .i64 (dn a (↑c:Int) (4:Int) 0 b),SV.i .i64 (dn a (↑c:Int) (4:Int) 1 b),SV.i .i64 (dn a (↑c:Int) (5:Int) 0 b),SV.i .i64 (dn a (↑c:Int) (5:Int) 1 b)]).at (cell a b 1).toNat).length=(14:Nat))∧Ob ((cell a b 1).toNat=c)∧Ob ((cell a b 1).toNat < d.length)∧Ob ((cell a b 1).toNat=c)∧Ob True∧(¬(lf a (↑c:Int) 0 b+((0:Int)-cell a b 2)≤lf a (↑c:Int) 1 b+((0:Int)-cell a b 3)∧((0:Int) < lf a (↑c:Int) 0 b+((0:Int)-cell a b 2)∨lf a (↑c:Int) 1 b+((0:Int)-cell a b 3)=(0:Int)))→Ob (ldN d.length a=(0:Nat))∧Ob ((9:Int)=ldErr a)∧Ob (ldN d.length a=(0:Nat))∧Ob (PlainE (ldN d.length a) (El.fn (stF a a.length)))∧True)∧(¬¬(lf a (↑c:Int) 0 b+((0:Int)-cell a b 2)≤lf a (↑c:Int) 1 b+((0:Int)-cell a b 3)∧((0:Int) < lf a (↑c:Int) 0 b+((0:Int)-cell a b 2)∨lf a (↑c:Int) 1 b+((0:Int)-cell a b 3)=(0:Int)))→Ob ((cell a b 1).toNat < d.length)∧Ob ((cell a b 1).toNat=c)∧Ob (((-1000000000:Int)≤dn a (↑c:Int) (5:Int) 0 b∧dn a (↑c:Int) (5:Int) 0 b≤(1000000000:Int))∧((-1000000000:Int)≤dn a (↑c:Int) (5:Int) 1 b∧dn a (↑c:Int) (5:Int) 1 b≤(1000000000:Int))∧((-1000000000:Int)≤cell a b 2∧cell a b 2≤(1000000000:Int))∧(-1000000000:Int)≤cell a b 3∧cell a b 3≤(1000000000:Int))∧Ob ((cell a b 1).toNat < d.length∧(((El.fn (stF a b)).row c [SV.i .i64 (lf a (↑c:Int) 0 b+((0:Int)-cell a b 2)),SV.i .i64 (lf a (↑c:Int) 1 b+((0:Int)-cell a b 3)),SV.i .i64 (dn a (↑c:Int) (0:Int) 0 b),SV.i .i64 (dn a (↑c:Int) (0:Int) 1 b),SV.i .i64 (dn a (↑c:Int) (1:Int) 0 b),SV.i .i64 (dn a (↑c:Int) (1:Int) 1 b),SV.i .i64 (dn a (↑c:Int) (2:Int) 0 b),SV.i .i64 (dn a (↑c:Int) (2:Int) 1 b),SV.i .i64 (dn a (↑c:Int) (3:Int) 0 b),SV.i .i64 (dn a (↑c:Int) (3:Int) 1 b),SV.i .i64 (dn a (↑c:Int) (4:Int) 0 b),SV.i .i64 (dn a (↑c:Int) (4:Int) 1 b),SV.i .i64 (dn a (↑c:Int) (5:Int) 0 b),SV.i .i64 (dn a (↑c:Int) (5:Int) 1 b)]).at (cell a b 1).toNat).length=(14:Nat))∧Ob ((cell a b 1).toNat=c)∧Ob (InR .i64 ((↑b:Int)+(1:Int)))∧∃(e:Nat),Ob ((e≤a.length∧∀(h:Nat),h < e→clAt a h)∧a.length-e < a.length-b)∧Ob (SV.lst f d.length 6 (Rv.elemOf [IntKind.u16,.i64,.i64,IntKind.i8,IntKind.i8,.i64] d)=SV.lst f d.length 6 (Rv.elemOf [IntKind.u16,.i64,.i64,IntKind.i8,IntKind.i8,.i64] d))∧Ob (d.length=d.length)∧Ob (SV.lst g a.length 4 (Rv.elemOf I4 a)=SV.lst g a.length 4 (Rv.elemOf I4 a))∧Ob ((↑a.length:Int)=(↑a.length:Int))∧Ob ((↑b:Int)+(1:Int)=(↑e:Int))∧EqA d.length d.length ((El.fn (stF a b)).row c [SV.i .i64 (lf a (↑c:Int) 0 b+((0:Int)-cell a b 2)),SV.i .i64 (lf a (↑c:Int) 1 b+((0:Int)-cell a b 3)),SV.i .i64 (dn a (↑c:Int) (0:Int) 0 b),SV.i .i64 (dn a (↑c:Int) (0:Int) 1 b),SV.i .i64 (dn a (↑c:Int) (1:Int) 0 b),SV.i .i64 (dn a (↑c:Int) (1:Int) 1 b),SV.i .i64 (dn a (↑c:Int) (2:Int) 0 b),SV.i .i64 (dn a (↑c:Int) (2:Int) 1 b),SV.i .i64 (dn a (↑c:Int) (3:Int) 0 b),SV.i .i64 (dn a (↑c:Int) (3:Int) 1 b),SV.i .i64 (dn a (↑c:Int) (4:Int) 0 b),SV.i .i64 (dn a (↑c:Int) (4:Int) 1 b),SV.i .i64 (dn a (↑c:Int) (5:Int) 0 b+cell a b 2),SV.i .i64 (dn a (↑c:Int) (5:Int) 1 b+cell a b 3)]) (El.fn (stF a e))∧Ob (IsLst B f d.length 6 (Rv.elemOf [IntKind.u16,.i64,.i64,IntKind.i8,IntKind.i8,.i64] d))∧LsA B g I4 a∧Ob (PlainE d.length (El.fn (stF a e)))∧True)))∧(lf a (↑c:Int) 0 b < cell a b 2→Ob (ldN d.length a=(0:Nat))∧Ob ((4:Int)=ldErr a)∧Ob (ldN d.length a=(0:Nat))∧Ob (PlainE (ldN d.length a) (El.fn (stF a a.length)))∧True))))∧(¬(↑b:Int) < (↑a.length:Int)→Ob (d.length=ldN d.length a∧(0:Nat) < ldN d.length a)∧Ob ((0:Int)=ldErr a)∧EqA d.length (ldN d.length a) (El.fn (stF a b)) (El.fn (stF a a.length))∧Ob (PlainE (ldN d.length a) (El.fn (stF a a.length)))∧True))
set_option linter.unusedSimpArgs false in
set_option maxRecDepth 4000 in
set_option maxHeartbeats 4000000 in
theorem v_doAllE:V_doAllE:=by
 unfold V_doAllE EqA I4 LsA
 intro B x R hx hox hrx hcan y L hy hoy hry ⟨hM,hL⟩
 have l4:=hM.l
 have l200:=hL.l
 simp only [Ob_iff,and_true,true_and]
 refine⟨R,⟨hx,rfl,hrx,fun _ _=>rfl⟩,hcan,hM,hy,fun h=>absurd h (by omega),fun _=>⟨hx,by omega,hy,⟨0,?_⟩,?_⟩⟩
 ·repeat' (with_reducible apply And.intro)
  all_goals first | exact hx | exact hy | exact st_plain _ _ _ | exact fun i _=>rfl | exact fun j hj=>absurd hj (Nat.not_lt_zero j) | omega | rfl
 intro k ⟨hk,hi⟩
 intros
 refine⟨fun h1=>?_,fun h1=>?_⟩
 rotate_left
 ·have e:k=L.length:=by omega
  subst e
  obtain⟨o1,o2⟩:=ld_ok (n:=R.length) hi
  rw [o1,o2]
  repeat' (with_reducible apply And.intro)
  all_goals first | exact st_plain _ _ _ | trivial | omega | rfl | exact fun _ _=>rfl
 have hk':k < L.length:=by omega
 have er:¬ clAt L k→9=ldErr L∧ldN R.length L=0:=fun h=>by
  obtain⟨o1,o2⟩:=ld_no (n:=R.length) hk' h
  exact⟨o1.symm,o2⟩
 obtain⟨⟨k1,k2⟩,⟨g1,g2⟩,⟨c1,c2⟩,⟨m1,m2⟩,fm,sh⟩:=hL.a k hk'
 obtain⟨g,hg⟩:=Int.eq_ofNat_of_zero_le g1
 have hG:(cell L k 1).toNat=g:=by rw [hg]; rfl
 have gl:g < R.length:=by omega
 have hb0:=hL.lf hk g (c:=0) (by omega)
 have hb1:=hL.lf hk g (c:=1) (by omega)
 have hd:∀(q:Int) (c:Nat),c < 2→0≤dn L g q c k∧dn L g q c k≤200000000:=fun q c h=>hL.dn hk g q h
 simp only [hG]
 refine⟨⟨by omega,hk',hy⟩,⟨hy,hk'⟩,hx,by omega,g,⟨by omega,by omega⟩,⟨⟨⟨⟨⟨fun h=>absurd (show cell L k 0=0 from h) (by omega),fun h=>?_⟩,fun h=>?_⟩,fun h=>?_⟩,fun h=>?_⟩,fun h=>?_⟩⟩
 ·have h:cell L k 0=1:=h
  have d0:=hd 1 0 (by omega)
  have d1:=hd 1 1 (by omega)
  have ca:clAt L k↔(lf L (g:Int) 0 k+cell L k 2≤lf L (g:Int) 1 k+cell L k 3∧(0 < lf L (g:Int) 0 k+cell L k 2∨lf L (g:Int) 1 k+cell L k 3=0)):=by
   unfold clAt
   rw [hg,lf_in hg h,lf_in hg h]
  have nz:¬ cell L k 2=0:=fun e=>by have:=fm.2 e; omega
  refine⟨⟨by omega,gl⟩,fun e=>absurd e nz,fun _=>⟨gl,rfl,by omega,⟨gl,by simp [El.at]⟩,rfl,gl,rfl,fun e=>⟨(er fun c=>e (ca.1 c)).2,(er fun c=>e (ca.1 c)).1,(er fun c=>e (ca.1 c)).2,st_plain _ _ _⟩,fun e9=>⟨gl,rfl,by omega,⟨gl,by simp [El.at]⟩,rfl,by simp only [InR]; omega,k+1,?_⟩⟩⟩
  have hi':∀j,j < k+1→clAt L j:=fun j hj=>by
   by_cases e:j < k
   ·exact hi j e
   ·rw [show j=k by omega]; exact ca.2 (Classical.not_not.1 e9)
  clear sh hb0 hb1 hd fm
  repeat' (with_reducible apply And.intro)
  all_goals first | exact hx | exact hy | exact hi' | exact st_plain _ _ _ | exact fun i _=>st_1 hg h i | omega | rfl
 ·have h:cell L k 0=2:=h
  have d0:=hd 2 0 (by omega)
  have d1:=hd 2 1 (by omega)
  have ca:clAt L k↔(lf L (g:Int) 0 k+(0-cell L k 2)≤lf L (g:Int) 1 k+(0-cell L k 3)∧(0 < lf L (g:Int) 0 k+(0-cell L k 2)∨lf L (g:Int) 1 k+(0-cell L k 3)=0)):=by
   unfold clAt
   rw [hg,lf_out hg (by omega),lf_out hg (by omega)]
  have sh:=sh (by omega) hi
  rw [hg]at sh
  have nz:¬ cell L k 2=0:=fun e=>by have:=fm.2 e; omega
  refine⟨⟨by omega,gl⟩,fun e=>absurd e nz,fun _=>⟨gl,rfl,fun _=>⟨gl,rfl,fun e=>absurd e (by omega),fun _=>⟨gl,rfl,by simp only [InR]; omega,by simp only [InR]; omega,by omega,⟨gl,by simp [El.at]⟩,rfl,gl,rfl,fun e=>⟨(er fun c=>e (ca.1 c)).2,(er fun c=>e (ca.1 c)).1,(er fun c=>e (ca.1 c)).2,st_plain _ _ _⟩,fun e9=>⟨gl,rfl,by omega,⟨gl,by simp [El.at]⟩,rfl,by simp only [InR]; omega,k+1,?_⟩⟩⟩,fun e=>absurd e (by omega)⟩⟩
  have hi':∀j,j < k+1→clAt L j:=fun j hj=>by
   by_cases e:j < k
   ·exact hi j e
   ·rw [show j=k by omega]; exact ca.2 (Classical.not_not.1 e9)
  clear sh hb0 hb1 hd fm
  repeat' (with_reducible apply And.intro)
  all_goals first | exact hx | exact hy | exact hi' | exact st_plain _ _ _ | exact fun i _=>st_2 hg h i | omega | rfl
 ·have h:cell L k 0=3:=h
  have d0:=hd 3 0 (by omega)
  have d1:=hd 3 1 (by omega)
  have ca:clAt L k↔(lf L (g:Int) 0 k+(0-cell L k 2)≤lf L (g:Int) 1 k+(0-cell L k 3)∧(0 < lf L (g:Int) 0 k+(0-cell L k 2)∨lf L (g:Int) 1 k+(0-cell L k 3)=0)):=by
   unfold clAt
   rw [hg,lf_out hg (by omega),lf_out hg (by omega)]
  have sh:=sh (by omega) hi
  rw [hg]at sh
  have nz:¬ cell L k 2=0:=fun e=>by have:=fm.2 e; omega
  refine⟨⟨by omega,gl⟩,fun e=>absurd e nz,fun _=>⟨gl,rfl,fun _=>⟨gl,rfl,fun e=>absurd e (by omega),fun _=>⟨gl,rfl,by simp only [InR]; omega,by simp only [InR]; omega,by omega,⟨gl,by simp [El.at]⟩,rfl,gl,rfl,fun e=>⟨(er fun c=>e (ca.1 c)).2,(er fun c=>e (ca.1 c)).1,(er fun c=>e (ca.1 c)).2,st_plain _ _ _⟩,fun e9=>⟨gl,rfl,by omega,⟨gl,by simp [El.at]⟩,rfl,by simp only [InR]; omega,k+1,?_⟩⟩⟩,fun e=>absurd e (by omega)⟩⟩
  have hi':∀j,j < k+1→clAt L j:=fun j hj=>by
   by_cases e:j < k
   ·exact hi j e
   ·rw [show j=k by omega]; exact ca.2 (Classical.not_not.1 e9)
  clear sh hb0 hb1 hd fm
  repeat' (with_reducible apply And.intro)
  all_goals first | exact hx | exact hy | exact hi' | exact st_plain _ _ _ | exact fun i _=>st_3 hg h i | omega | rfl
 ·have h:cell L k 0=4:=h
  have d0:=hd 4 0 (by omega)
  have d1:=hd 4 1 (by omega)
  have ca:clAt L k↔(lf L (g:Int) 0 k+(0-cell L k 2)≤lf L (g:Int) 1 k+(0-cell L k 3)∧(0 < lf L (g:Int) 0 k+(0-cell L k 2)∨lf L (g:Int) 1 k+(0-cell L k 3)=0)):=by
   unfold clAt
   rw [hg,lf_out hg (by omega),lf_out hg (by omega)]
  have sh:=sh (by omega) hi
  rw [hg]at sh
  have nz:¬ cell L k 2=0:=fun e=>by have:=fm.2 e; omega
  refine⟨⟨by omega,gl⟩,fun e=>absurd e nz,fun _=>⟨gl,rfl,fun _=>⟨gl,rfl,fun e=>absurd e (by omega),fun _=>⟨gl,rfl,by simp only [InR]; omega,by simp only [InR]; omega,by omega,⟨gl,by simp [El.at]⟩,rfl,gl,rfl,fun e=>⟨(er fun c=>e (ca.1 c)).2,(er fun c=>e (ca.1 c)).1,(er fun c=>e (ca.1 c)).2,st_plain _ _ _⟩,fun e9=>⟨gl,rfl,by omega,⟨gl,by simp [El.at]⟩,rfl,by simp only [InR]; omega,k+1,?_⟩⟩⟩,fun e=>absurd e (by omega)⟩⟩
  have hi':∀j,j < k+1→clAt L j:=fun j hj=>by
   by_cases e:j < k
   ·exact hi j e
   ·rw [show j=k by omega]; exact ca.2 (Classical.not_not.1 e9)
  clear sh hb0 hb1 hd fm
  repeat' (with_reducible apply And.intro)
  all_goals first | exact hx | exact hy | exact hi' | exact st_plain _ _ _ | exact fun i _=>st_4 hg h i | omega | rfl
 ·have h:cell L k 0=5:=h
  have d0:=hd 5 0 (by omega)
  have d1:=hd 5 1 (by omega)
  have ca:clAt L k↔(lf L (g:Int) 0 k+(0-cell L k 2)≤lf L (g:Int) 1 k+(0-cell L k 3)∧(0 < lf L (g:Int) 0 k+(0-cell L k 2)∨lf L (g:Int) 1 k+(0-cell L k 3)=0)):=by
   unfold clAt
   rw [hg,lf_out hg (by omega),lf_out hg (by omega)]
  have sh:=sh (by omega) hi
  rw [hg]at sh
  have nz:cell L k 2=0:=fm.1 h
  refine⟨⟨by omega,gl⟩,fun e=>absurd e (by omega),fun _=>⟨gl,rfl,fun _=>⟨gl,rfl,fun e=>absurd e (by omega),fun _=>⟨gl,rfl,by simp only [InR]; omega,by simp only [InR]; omega,by omega,⟨gl,by simp [El.at]⟩,rfl,gl,rfl,fun e=>⟨(er fun c=>e (ca.1 c)).2,(er fun c=>e (ca.1 c)).1,(er fun c=>e (ca.1 c)).2,st_plain _ _ _⟩,fun e9=>⟨gl,rfl,by omega,⟨gl,by simp [El.at]⟩,rfl,by simp only [InR]; omega,k+1,?_⟩⟩⟩,fun e=>absurd e (by omega)⟩⟩
  have hi':∀j,j < k+1→clAt L j:=fun j hj=>by
   by_cases e:j < k
   ·exact hi j e
   ·rw [show j=k by omega]; exact ca.2 (Classical.not_not.1 e9)
  clear sh hb0 hb1 hd fm
  repeat' (with_reducible apply And.intro)
  all_goals first | exact hx | exact hy | exact hi' | exact st_plain _ _ _ | exact fun i _=>st_5 hg h i | omega | rfl
theorem e_doAllE:V_doAllE=needEI P [F_checkEvent,F_plus,F_canBe] [F_Check] I_doAllE A_doAllE F_doAllE:=by kernel_rfl
theorem n_doAllE:Ob (needEI P [F_checkEvent,F_plus,F_canBe] [F_Check] I_doAllE A_doAllE F_doAllE):=by
 rw [← e_doAllE]
 exact⟨v_doAllE⟩
theorem b_doAllE:((P.funcs[16]?).any fun fn=>fn.body.isSome)=true:=by kernel_rfl
theorem doAllE_ok:FnE.Ok P F_doAllE:=FnE.okI named (l:=[F_checkEvent,F_plus,F_canBe]) (es:=[F_Check]) (I:=I_doAllE) (A:=A_doAllE) (by rfl) (by rfl) (by rfl) (by
 intro F h
 simp only [List.mem_cons,List.not_mem_nil,or_false]at h
 rcases h with rfl | rfl | rfl
 ·exact checkEvent_ok
 ·exact plus_ok
 ·exact canBe_ok
) (by
 intro F h
 simp only [List.mem_cons,List.not_mem_nil,or_false]at h
 rcases h with rfl
 ·exact Check_ok
) b_doAllE (by
 intro ds h o ho n sz e k z he
 subst he
 simp only [F_doAllE]at ho
 split at ho
 ·simp only [List.mem_cons,List.not_mem_nil,or_false,SObj.gr.injEq]at ho
  obtain⟨rfl,rfl,rfl,rfl,rfl⟩:=ho
  exact st_plain _ _ _
 ·simp at ho) n_doAllE
end Go.Proofs.Ytdnphbnnhfpphaa.Sy
