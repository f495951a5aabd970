import Derived.Test.YtdnphbnnhfpphaaSyP2
import Derived.Test.YtdnphbnnhfpphaaProg
import Derived.KernelRfl
namespace Go.Proofs.Ytdnphbnnhfpphaa.Sy
open Go Go.Rv
noncomputable abbrev P:Program:=Go.Proofs.Try.prog
noncomputable abbrev i64:Sh:=.one (.i .i64)
noncomputable def noAnn:Ann:=⟨Unit,fun _=>[],fun _=>[],fun _=>True,fun _=>0,0⟩
theorem named:Named P:=named_of (by kernel_rfl)
def inB (n lo hi:Int):Prop:=lo≤n∧n≤hi
open Classical in
noncomputable def spanErr (a b lo hi:Int):Int:=if inB a lo hi∧inB b lo hi then (if b < a then 8 else 0)else 1
abbrev Rows:=List (List Int)
noncomputable def dayErr (D L:Rows) (i:Nat):Int:=if spanErr (cell D i 0) (cell D i 1) (-50) 400=0 then spanErr (cell L i 0) (cell L i 1) 0 1000000000 else spanErr (cell D i 0) (cell D i 1) (-50) 400
noncomputable def firstErr (D L:Rows):Nat→Int
 | 0=>0
 | k+1=>if firstErr D L k=0 then dayErr D L k else firstErr D L k
theorem wrap_in (x:Int):InR .u64 (IntKind.u64.wrap x):=by
 have e:IntKind.u64.wrap x=x % 18446744073709551616:=by
  simp [IntKind.wrap,IntKind.signed,IntKind.bits]
 rw [e]
 exact⟨by omega,by omega⟩
theorem wrap_nn (x:Int):0≤IntKind.u64.wrap x:=(wrap_in x).1
theorem div_in {a:Int} (k:Nat) (h:InR .u64 a):InR .u64 (a / 2 ^ k):=by
 obtain⟨h1,h2⟩:=h
 have hp:(0:Int) < 2 ^ k:=Int.pow_pos (by omega)
 refine⟨Int.ediv_nonneg h1 (by omega),?_⟩
 have:a / 2 ^ k≤a:=Int.ediv_le_self _ h1
 omega
theorem div_nn {a:Int} (k:Nat) (h:0≤a):0≤a / 2 ^ k:=Int.ediv_nonneg h (by have:(0:Int) < 2 ^ k:=Int.pow_pos (by omega); omega)
theorem xorI_nn (a b:Int):0≤xorI a b:=by unfold xorI; omega
theorem xorI_in {a b:Int} (ha:InR .u64 a) (hb:InR .u64 b):InR .u64 (xorI a b):=by
 obtain⟨h1,h2⟩:=ha
 obtain⟨h3,h4⟩:=hb
 refine⟨xorI_nn a b,?_⟩
 have:a.toNat ^^^ b.toNat < 2 ^ 64:=Nat.xor_lt_two_pow (by omega) (by omega)
 unfold xorI
 omega
def tnext (a:Int):Int:=IntKind.u64.wrap (a+11415608902216751769)
def tmix1 (x:Int):Int:=IntKind.u64.wrap (xorI x (x / 2 ^ 30)*13787848793156543929)
def tmix2 (x:Int):Int:=IntKind.u64.wrap (xorI x (x / 2 ^ 27)*10723151780598845931)
def tval (a:Int):Int:=xorI (tmix2 (tmix1 (tnext a))) (tmix2 (tmix1 (tnext a)) / 2 ^ 31)
theorem tval_in (a:Int):InR .u64 (tval a):=xorI_in (wrap_in _) (div_in _ (wrap_in _))
theorem wrap_of {x:Int} (h1:0≤x) (h2:x≤18446744073709551615):IntKind.u64.wrap x=x:=by
 have e:IntKind.u64.wrap x=x % 18446744073709551616:=by
  simp [IntKind.wrap,IntKind.signed,IntKind.bits]
 rw [e]
 omega
def belowV (a n:Int):Int:=if n < 2 then 0 else tval a / 2 ^ 1 % n
def belowA (a n:Int):Int:=if n < 2 then a else tnext a
theorem belowV_bd (a:Int) {n:Int} (h:2≤n):0≤tval a / 2 ^ 1 % n∧tval a / 2 ^ 1 % n < n:=⟨Int.emod_nonneg _ (by omega),Int.emod_lt_of_pos _ (by omega)⟩
theorem belowV_in (a n:Int):0≤belowV a n∧(belowV a n < n∨belowV a n=0):=by
 unfold belowV
 split
 ·omega
 ·have:=belowV_bd a (n:=n) (by omega)
  omega
def tideK (l:Rows):Nat→Int
 | 0=>7809847782465536322
 | k+1=>tnext (IntKind.u64.wrap (IntKind.u64.wrap (tideK l k+IntKind.u64.wrap (cell l k 0))*12605985483714917081))
def ofV (a:Int) (l:Rows):Int:=if l.length=0 then 0 else cell l (belowV a l.length).toNat 0
def ofA (a:Int) (l:Rows):Int:=if l.length=0 then a else belowA a l.length
abbrev I2:List IntKind:=[.i64,.i64]
abbrev I3:List IntKind:=[.i64,.i64,.i64]
abbrev I4:List IntKind:=[.i64,.i64,.i64,.i64]
abbrev I6:List IntKind:=[.i64,.i64,.i64,.i64,.i64,.i64]
abbrev RwA (n m w:Nat) (ks:List IntKind) (e:Nat→List SV) (K:List (List Int)→Prop):Prop:=∃l:List (List Int),Ob (n=m∧l.length=n∧(∀r∈l,r.length=w)∧∀i,i < n→e i=Rv.elemOf ks l i)∧K l
abbrev RwB (B:RW) (x:RV) (n w:Nat) (ks:List IntKind) (R:List (List Int)) (K:List (List Int)→Prop):Prop:=∃l:List (List Int),Ob (IsLst B x n w (Rv.elemOf ks R)∧l.length=n∧(∀r∈l,r.length=w)∧∀i,i < n→Rv.elemOf ks R i=Rv.elemOf ks l i)∧K l
abbrev RwE (w:Nat) (ks:List IntKind) (Y:List (List Int)) (K:List (List Int)→Prop):Prop:=∃l:List (List Int),Ob (Y.length=Y.length∧l.length=Y.length∧(∀r∈l,r.length=w)∧∀i,i < Y.length→(El.fn (Rv.elemOf ks Y)).at i=Rv.elemOf ks l i)∧K l
abbrev EqR (ks:List IntKind) (Y Z:List (List Int)):Prop:=Ob (Y.length=Z.length∧∀i,i < Z.length→(El.fn (Rv.elemOf ks Y)).at i=(El.fn (Rv.elemOf ks Z)).at i)
abbrev PlA (ks:List IntKind) (Y:List (List Int)):Prop:=Ob (PlainE Y.length (El.fn (Rv.elemOf ks Y)))
abbrev EqA (m n:Nat) (d e:El):Prop:=Ob (m=n∧∀i,i < n→d.at i=e.at i)
abbrev LsA (B:RW) (x:RV) (ks:List IntKind) (R:List (List Int)):Prop:=Ob (IsLst B x R.length ks.length (Rv.elemOf ks R))
noncomputable def nN (n:Nat):List (Option SV):=List.replicate n none
end Go.Proofs.Ytdnphbnnhfpphaa.Sy
