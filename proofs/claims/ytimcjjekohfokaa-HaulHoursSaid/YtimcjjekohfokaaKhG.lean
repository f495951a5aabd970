import Derived.Test.YtimcjjekohfokaaSyP4
import Derived.Test.YtimcjjekohfokaaGrM
import Derived.Test.YtimcjjekohfokaaStM
import Derived.Test.YtimcjjekohfokaaKtT
import Derived.Test.YtimcjjekohfokaaSyP2
import Derived.Test.YtimcjjekohfokaaKwU
import Derived.Test.YtimcjjekohfokaaKhA
import Derived.Test.YtimcjjekohfokaaKhB
import Derived.Test.YtimcjjekohfokaaKhC
import Derived.Test.YtimcjjekohfokaaKhD
import Derived.KernelRfl
import Derived.Test.YtimcjjekohfokaaProg
namespace Go.Proofs.Ytimcjjekohfokaa.Sy
open Go Go.Rv
set_option linter.unusedVariables false
structure HhS where
 k:Nat
 a:Int
 st:Int
 en:Int
 ta:Int
 pr:Int
 ba:Int
 S:Rows
 L:List Rows
 P:Rows
 xs:RV
 xl:RV
 xp:RV
 ys:Nat→RV
structure HhI (v:HhS):Prop where
 k:v.k≤v.P.length
 n:v.P.length≤1000
 st:0≤v.st∧v.st≤1440
 t:TourOk 8 v.en v.ta v.pr v.ba v.S v.L
 e:runE v.st v.en v.ta v.ba v.S v.L v.P=0
theorem TourOk.monoH {a b:Nat} {en ta pr ba:Int} {S:Rows} {L:List Rows} (h:TourOk a en ta pr ba S L) (hab:a≤b):TourOk b en ta pr ba S L:=⟨h.en,h.ta,h.pr,h.ba,Nat.le_trans h.n hab,h.s,h.m,h.l⟩
theorem errK_le {st ba:Int} {S:Rows} {L:List Rows} {P:Rows} {k n:Nat} (h:errK st ba S L P n=0) (hk:k≤n):errK st ba S L P k=0:=by
 by_cases h0:errK st ba S L P k=0
 ·exact h0
 ·obtain⟨d,rfl⟩:∃d,n=k+d:=⟨n-k,by omega⟩
  rw [errK_keep h0]at h
  exact h
theorem run_zero {st en ta ba:Int} {S:Rows} {L:List Rows} {P:Rows} (h:runE st en ta ba S L P=0):errK st ba S L P P.length=0∧homeB st S L P P.length≤en∧homeF S L P P.length≤ta:=by
 by_cases h0:chkT st en=0
 ·by_cases h1:errK st ba S L P P.length=0
  ·rw [run_home h0 h1]at h
   unfold homeE at h
   by_cases h2:en < homeB st S L P P.length
   ·rw [if_pos h2]at h; exact absurd h (by decide)
   ·rw [if_neg h2]at h
    by_cases h3:ta < homeF S L P P.length
    ·rw [if_pos h3]at h; exact absurd h (by decide)
    ·exact⟨h1,by omega,by omega⟩
  ·unfold runE at h
   rw [if_pos h0,if_neg h1]at h
   exact absurd h h1
 ·rw [run_bad h0]at h; exact absurd h h0
theorem stays_at {st:Int} {S:Rows} {L:List Rows} {P:Rows} {k:Nat}:∀n,k < n→cell (staysK st S L P n) k 0=arrK st S L P k∧cell (staysK st S L P n) k 1=begK st S L P k∧cell (staysK st S L P n) k 2=doneK st S L P (k+1)
 | n+1,h=>by
  have hl:=stays_len (st:=st) (S:=S) (L:=L) (P:=P) n
  by_cases hk:k < n
  ·rw [staysK]
   simp only [cell_appB (show k < (staysK st S L P n).length by rw [hl]; exact hk)]
   exact stays_at n hk
  ·obtain rfl:k=n:=by omega
   have e:∀c,cell (staysK st S L P (k+1)) k c=[arrK st S L P k,begK st S L P k,doneK st S L P (k+1)].getD c 0:=fun c=>by
    rw [staysK]
    have:=cell_lastB (R:=staysK st S L P k) (r:=[arrK st S L P k,begK st S L P k,doneK st S L P (k+1)]) (c:=c)
    rw [hl]at this
    exact this
   simp only [e]
   exact⟨rfl,rfl,rfl⟩
theorem trap_le {st ba:Int} {S:Rows} {L:List Rows} {P:Rows} (hb:0≤ba):∀n,errK st ba S L P n=0→trapK S P n≤ba
 | 0,_=>hb
 | n+1,h=>(stepE_zero (errK_suc h).2).2.2.1
noncomputable def F_law:LawF:=⟨4,[.one (.l [.i64])],fun l=>match l with | [.l N]=>N.length≤9223372036854775807 | _=>False⟩
noncomputable def A_law:List SV→List Dat→Nat→List SV→AnG:=fun xs ds n ts=>match xs with
 | [.lst xz _ _ _]=>match ds with
  | [.l N]=>match n with
   | 11=>⟨HhS,fun v=>([none,none,none,none,some (SV.ptr ((1:Nat)) ((0:Nat))),some (.lst v.xp v.P.length 1 (Rv.elemOf [.i64] v.P)),some (.gsl 2 (runR v.st v.en v.ta v.ba v.S v.L v.P).length 3 true),some (SV.ptr ((3:Nat)) ((0:Nat))),none,some (.i .i64 (plc v.P v.k)),some (.i .i64 (doneK v.st v.S v.L v.P v.k)),some (.i .i64 (worthK v.S v.P v.k)),some (.i .i64 (fuelK v.S v.L v.P v.k)),some (.i .i64 (trapK v.S v.P v.k)),some (.i .i64 v.k)]++nN 221),fun v=>[.cells [.i .i64 (z0 (runE v.st v.en v.ta v.ba v.S v.L v.P) (homeB v.st v.S v.L v.P v.P.length)),.i .i64 (z0 (runE v.st v.en v.ta v.ba v.S v.L v.P) (homeF v.S v.L v.P v.P.length)),.i .i64 (z0 (runE v.st v.en v.ta v.ba v.S v.L v.P) (trapK v.S v.P v.P.length)),.i .i64 (z0 (runE v.st v.en v.ta v.ba v.S v.L v.P) (worthK v.S v.P v.P.length-v.pr*homeF v.S v.L v.P v.P.length))] .ex,.gr (runR v.st v.en v.ta v.ba v.S v.L v.P).length 3 (.fn (Rv.elemOf [.i64,.i64,.i64] (runR v.st v.en v.ta v.ba v.S v.L v.P))) .gr true,.cells [.i .i64 v.st,.i .i64 v.en,.i .i64 v.ta,.i .i64 v.pr,.i .i64 v.ba,.lst v.xs v.S.length 6 (Rv.elemOf [.i64,.i64,.i64,.i64,.i64,.i64] v.S),.lst v.xl v.L.length 1 (llElem [.i64,.i64] v.ys v.L)] .ex,.cells [.i .u64 v.a] .ex],fun B v=>HhI v∧IsLst B v.xs v.S.length 6 (Rv.elemOf [.i64,.i64,.i64,.i64,.i64,.i64] v.S)∧IsLL B [.i64,.i64] v.xl v.ys v.L∧IsLst B v.xp v.P.length 1 (Rv.elemOf [.i64] v.P),fun v=>v.P.length-v.k,0,[]⟩
   | _=>noAnG
  | _=>noAnG
 | _=>noAnG
set_option maxRecDepth 10000 in
def V_law:Prop:=
 ∀(B:RW),hasTabs [] B→∀(p:RV) (l:List (List Int)),IsLst B p l.length 1 (Rv.elemOf [.i64] l)→oneB p=true→(∀row∈l,row.length=1)→l.length≤9223372036854775807→RwB B p l.length 1 [.i64] l fun u=>Ob (F_TideOf.pre [Dat.l u])∧Ob ((0:Int)≤(6:Int)∧(6:Int)≤(8:Int))∧∀(v:Int) (B':RW),Grow B B'→∀(e f g q h:Int) (m:RV) (i:List (List Int)),IsLst B' m i.length 6 (Rv.elemOf I6 i)→oneB m=true→(∀row∈i,row.length=6)→∀(o:RV) (ys:Nat→RV) (R:List (List (List Int))),IsLL B' I2 o ys R→oneB o=true→((0:Int)≤e∧e≤f)∧TourOk 6 f g q h i R→LsA B p [.i64] l∧LsA B p [.i64] l∧∃(r:List (List Int)),Ob (IsLst B' m i.length 6 (Rv.elemOf I6 i)∧r.length=i.length∧(∀n∈r,n.length=6)∧∀(j:Nat),j < i.length→Rv.elemOf I6 i j=Rv.elemOf I6 r j)∧∃(R_1:List (List (List Int))),∃(ys_1:Nat→RV),Ob (R_1.length=R.length∧(∀(j:Nat),j < R.length→llElem I2 ys R j=llElem I2 ys_1 R_1 j)∧IsLL B' I2 o ys_1 R_1)∧Ob (r.length≤1000)∧∀(t:Int),Ob (IsLst B' m i.length 6 (Rv.elemOf I6 i))∧Ob (IsLst B' o R.length 1 (llElem I2 ys R))∧∀(B'_1:RW),Grow B' B'_1→∀(s:RV) (k:List (List Int)),IsLst B'_1 s k.length 1 (Rv.elemOf [.i64] k)→oneB s=true→(∀row∈k,row.length=1)→(k.length≤r.length∧∀(n:List Int),n∈k→n.length=(1:Nat))→Ob (IsLst B' p l.length 1 (Rv.elemOf [.i64] l))∧Ob (IsLst B' p l.length 1 (Rv.elemOf [.i64] l))∧Ob (IsLst B' m i.length 6 (Rv.elemOf I6 i))∧Ob (IsLst B' o R.length 1 (llElem I2 ys R))∧Ob (IsLst B' m i.length 6 (Rv.elemOf I6 i))∧Ob (IsLst B' o R.length 1 (llElem I2 ys R))∧∃(d:List (List Int)),Ob (IsLst B'_1 m i.length 6 (Rv.elemOf I6 i)∧d.length=i.length∧(∀n∈d,n.length=6)∧∀(j:Nat),j < i.length→Rv.elemOf I6 i j=Rv.elemOf I6 d j)∧∃(R_2:List (List (List Int))),∃(ys_2:Nat→RV),Ob (R_2.length=R.length∧(∀(j:Nat),j < R.length→llElem I2 ys R j=llElem I2 ys_2 R_2 j)∧IsLL B'_1 I2 o ys_2 R_2)∧∃(c:List (List Int)),Ob (IsLst B'_1 s k.length 1 (Rv.elemOf [.i64] k)∧c.length=k.length∧(∀n∈c,n.length=1)∧∀(j:Nat),j < k.length→Rv.elemOf [.i64] k j=Rv.elemOf [.i64] c j)∧Ob (F_Run.pre ([Dat.z e,Dat.z f,Dat.z g,Dat.z q,Dat.z h,Dat.l d,Dat.ll R_2]++[Dat.l c]))∧(¬runE e f g h d R_2 c=(0:Int)→((↑(List.length (runR e f g h d R_2 c)):Int)=(0:Int)→(z0 (runE e f g h d R_2 c) (homeB e d R_2 c c.length)=(0:Int)∧z0 (runE e f g h d R_2 c) (homeF d R_2 c c.length)=(0:Int)∧z0 (runE e f g h d R_2 c) (trapK d c c.length)=(0:Int)∧z0 (runE e f g h d R_2 c) (worthK d c c.length-q*homeF d R_2 c c.length)=(0:Int)∧True→Ob (hasTabs [] B'_1)∧True)∧(¬(z0 (runE e f g h d R_2 c) (homeB e d R_2 c c.length)=(0:Int)∧z0 (runE e f g h d R_2 c) (homeF d R_2 c c.length)=(0:Int)∧z0 (runE e f g h d R_2 c) (trapK d c c.length)=(0:Int)∧z0 (runE e f g h d R_2 c) (worthK d c c.length-q*homeF d R_2 c c.length)=(0:Int)∧True)→False))∧(¬(↑(List.length (runR e f g h d R_2 c)):Int)=(0:Int)→False))∧(¬¬runE e f g h d R_2 c=(0:Int)→Ob (IsLst B'_1 s k.length 1 (Rv.elemOf [.i64] k))∧(¬(↑(List.length (runR e f g h d R_2 c)):Int)=(↑k.length:Int)→False)∧(¬¬(↑(List.length (runR e f g h d R_2 c)):Int)=(↑k.length:Int)→(∃(a:HhS),Ob (HhI a∧IsLst B'_1 a.xs (a.S.length) 6 (Rv.elemOf I6 a.S)∧IsLL B'_1 I2 a.xl a.ys a.L∧IsLst B'_1 a.xp (a.P.length) 1 (Rv.elemOf [.i64] a.P))∧Ob (SV.lst s k.length 1 (Rv.elemOf [.i64] k)=SV.lst a.xp (a.P.length) 1 (Rv.elemOf [.i64] a.P))∧Ob (List.length (runR e f g h d R_2 c)=List.length (runR a.st a.en a.ta a.ba a.S a.L a.P))∧Ob ((0:Int)=(↑(plc a.P a.k):Int))∧Ob (e=doneK a.st a.S a.L a.P a.k)∧Ob ((0:Int)=worthK a.S a.P a.k)∧Ob ((0:Int)=fuelK a.S a.L a.P a.k)∧Ob ((0:Int)=trapK a.S a.P a.k)∧Ob ((0:Int)=(↑a.k:Int))∧Ob (z0 (runE e f g h d R_2 c) (homeB e d R_2 c c.length)=z0 (runE a.st a.en a.ta a.ba a.S a.L a.P) (homeB a.st a.S a.L a.P (a.P.length)))∧Ob (z0 (runE e f g h d R_2 c) (homeF d R_2 c c.length)=z0 (runE a.st a.en a.ta a.ba a.S a.L a.P) (homeF a.S a.L a.P (a.P.length)))∧Ob (z0 (runE e f g h d R_2 c) (trapK d c c.length)=z0 (runE a.st a.en a.ta a.ba a.S a.L a.P) (trapK a.S a.P (a.P.length)))∧Ob (z0 (runE e f g h d R_2 c) (worthK d c c.length-q*homeF d R_2 c c.length)=z0 (runE a.st a.en a.ta a.ba a.S a.L a.P) (worthK a.S a.P (a.P.length)-a.pr*homeF a.S a.L a.P (a.P.length)))∧EqR I3 (runR e f g h d R_2 c) (runR a.st a.en a.ta a.ba a.S a.L a.P)∧Ob (e=a.st)∧Ob (f=a.en)∧Ob (g=a.ta)∧Ob (q=a.pr)∧Ob (h=a.ba)∧Ob (SV.lst m i.length 6 (Rv.elemOf I6 i)=SV.lst a.xs (a.S.length) 6 (Rv.elemOf I6 a.S))∧Ob (SV.lst o R.length 1 (llElem I2 ys R)=SV.lst a.xl a.L.length 1 (llElem I2 a.ys a.L))∧Ob (t=a.a)∧Ob (IsLst B'_1 a.xp (a.P.length) 1 (Rv.elemOf [.i64] a.P))∧PlA I3 (runR a.st a.en a.ta a.ba a.S a.L a.P)∧Ob (IsLst B'_1 a.xs (a.S.length) 6 (Rv.elemOf I6 a.S))∧Ob (IsLst B'_1 a.xl a.L.length 1 (llElem I2 a.ys a.L))∧True)∧∀(B'_2:RW),Grow B'_1 B'_2→∀(a:HhS),HhI a∧IsLst B'_2 a.xs (a.S.length) 6 (Rv.elemOf I6 a.S)∧IsLL B'_2 I2 a.xl a.ys a.L∧IsLst B'_2 a.xp (a.P.length) 1 (Rv.elemOf [.i64] a.P)→∀(_ _ _ _ _ _ _ _ _ _ _ _ _ _ _ _ _ _ _ _ _ _ _ _ _ _ _ _ _ _ _ _ _ _ _ _ _ _ _ _ _ _ _ _ _ _ _ _ _ _ _ _ _ _ _ _ _ _ _ _ _ _ _ _ _ _ _ _ _ _ _ _ _ _ _ _ _ _ _ _ _ _ _ _ _ _ _ _ _ _ _ _ _ _ _ _ _ _ _ _ _ _ _ _ _ _ _ _ _ _ _ _ _ _ _ _ _ _ _ _ _ _ _ _ _ _ _ _ _ _ _ _ _ _ _ _ _ _ _ _ _ _ _ _ _ _ _ _ _ _ _ _ _ _ _ _ _ _ _ _ _ _ _ _ _ _ _ _ _ _ _ _ _ _ _ _ _ _ _ _ _ _ _ _ _ _ _ _ _ _ _ _ _ _ _ _ _ _ _ _ _ _ _ _ _ _ _ _ _ _ _ _ _ _ _ _ _ _ _ _ _ _ _ _ _ _:Value),Ob (IsLst B'_2 a.xp (a.P.length) 1 (Rv.elemOf [.i64] a.P))∧((↑a.k:Int) < (↑(a.P.length):Int)→Ob (IsLst B'_2 a.xs (a.S.length) 6 (Rv.elemOf I6 a.S))∧Ob (IsLst B'_2 a.xp (a.P.length) 1 (Rv.elemOf [.i64] a.P))∧Ob ((0:Int)≤(↑a.k:Int)∧a.k < a.P.length∧IsLst B'_2 a.xp (a.P.length) 1 (Rv.elemOf [.i64] a.P))∧Ob (IsLst B'_2 a.xp (a.P.length) 1 (Rv.elemOf [.i64] a.P)∧a.k < a.P.length)∧Ob (IsLst B'_2 a.xp (a.P.length) 1 (Rv.elemOf [.i64] a.P)∧a.k < a.P.length)∧Ob ((0:Int)≤cell a.P a.k 0∧(cell a.P a.k 0).toNat < a.S.length∧IsLst B'_2 a.xs (a.S.length) 6 (Rv.elemOf I6 a.S))∧Ob (IsLst B'_2 a.xs (a.S.length) 6 (Rv.elemOf I6 a.S)∧(cell a.P a.k 0).toNat < a.S.length)∧Ob (IsLst B'_2 a.xs (a.S.length) 6 (Rv.elemOf I6 a.S)∧(cell a.P a.k 0).toNat < a.S.length)∧Ob (IsLst B'_2 a.xl a.L.length 1 (llElem I2 a.ys a.L))∧Ob ((0:Int)≤(↑(plc a.P a.k):Int)∧(↑(plc a.P a.k):Int).toNat < a.L.length∧IsLst B'_2 a.xl a.L.length 1 (llElem I2 a.ys a.L))∧Ob (IsLst B'_2 a.xl a.L.length 1 (llElem I2 a.ys a.L)∧(↑(plc a.P a.k):Int).toNat < a.L.length)∧Ob (IsLst B'_2 a.xl a.L.length 1 (llElem I2 a.ys a.L)∧(↑(plc a.P a.k):Int).toNat < a.L.length)∧Ob (IsLst B'_2 (a.ys (↑(plc a.P a.k):Int).toNat) (a.L.getD (↑(plc a.P a.k):Int).toNat []).length 2 (Rv.elemOf I2 (a.L.getD (↑(plc a.P a.k):Int).toNat [])))∧Ob (IsLst B'_2 a.xp (a.P.length) 1 (Rv.elemOf [.i64] a.P))∧Ob ((0:Int)≤(↑a.k:Int)∧a.k < a.P.length∧IsLst B'_2 a.xp (a.P.length) 1 (Rv.elemOf [.i64] a.P))∧Ob (IsLst B'_2 a.xp (a.P.length) 1 (Rv.elemOf [.i64] a.P)∧a.k < a.P.length)∧Ob (IsLst B'_2 a.xp (a.P.length) 1 (Rv.elemOf [.i64] a.P)∧a.k < a.P.length)∧Ob (InR .i64 (cell a.P a.k 0+(1:Int)))∧Ob ((0:Int)≤cell a.P a.k 0+(1:Int)∧(cell a.P a.k 0+(1:Int)).toNat < (a.L.getD (↑(plc a.P a.k):Int).toNat []).length∧IsLst B'_2 (a.ys (↑(plc a.P a.k):Int).toNat) (a.L.getD (↑(plc a.P a.k):Int).toNat []).length 2 (Rv.elemOf I2 (a.L.getD (↑(plc a.P a.k):Int).toNat [])))∧Ob (IsLst B'_2 (a.ys (↑(plc a.P a.k):Int).toNat) (a.L.getD (↑(plc a.P a.k):Int).toNat []).length 2 (Rv.elemOf I2 (a.L.getD (↑(plc a.P a.k):Int).toNat []))∧(cell a.P a.k 0+(1:Int)).toNat < (a.L.getD (↑(plc a.P a.k):Int).toNat []).length)∧Ob (IsLst B'_2 (a.ys (↑(plc a.P a.k):Int).toNat) (a.L.getD (↑(plc a.P a.k):Int).toNat []).length 2 (Rv.elemOf I2 (a.L.getD (↑(plc a.P a.k):Int).toNat []))∧(cell a.P a.k 0+(1:Int)).toNat < (a.L.getD (↑(plc a.P a.k):Int).toNat []).length)∧Ob ((0:Int)≤(↑a.k:Int)∧a.k < List.length (runR a.st a.en a.ta a.ba a.S a.L a.P))∧Ob (a.k < List.length (runR a.st a.en a.ta a.ba a.S a.L a.P))∧Ob (InR .i64 (doneK a.st a.S a.L a.P a.k+cell (a.L.getD (↑(plc a.P a.k):Int).toNat []) (cell a.P a.k 0+(1:Int)).toNat 0))∧(¬¬cell (runR a.st a.en a.ta a.ba a.S a.L a.P) a.k 0=doneK a.st a.S a.L a.P a.k+cell (a.L.getD (↑(plc a.P a.k):Int).toNat []) (cell a.P a.k 0+(1:Int)).toNat 0→Ob ((0:Int)≤(↑a.k:Int)∧a.k < List.length (runR a.st a.en a.ta a.ba a.S a.L a.P))∧Ob (a.k < List.length (runR a.st a.en a.ta a.ba a.S a.L a.P))∧Ob ((0:Int)≤(↑a.k:Int)∧a.k < List.length (runR a.st a.en a.ta a.ba a.S a.L a.P))∧Ob (a.k < List.length (runR a.st a.en a.ta a.ba a.S a.L a.P))∧(¬cell (runR a.st a.en a.ta a.ba a.S a.L a.P) a.k 1 < cell (runR a.st a.en a.ta a.ba a.S a.L a.P) a.k 0→Ob ((0:Int)≤(↑a.k:Int)∧a.k < List.length (runR a.st a.en a.ta a.ba a.S a.L a.P))∧Ob (a.k < List.length (runR a.st a.en a.ta a.ba a.S a.L a.P))∧(¬cell (runR a.st a.en a.ta a.ba a.S a.L a.P) a.k 1 < cell a.S (cell a.P a.k 0).toNat 4→Ob ((0:Int)≤(↑a.k:Int)∧a.k < List.length (runR a.st a.en a.ta a.ba a.S a.L a.P))∧Ob (a.k < List.length (runR a.st a.en a.ta a.ba a.S a.L a.P))∧(¬cell a.S (cell a.P a.k 0).toNat 5 < cell (runR a.st a.en a.ta a.ba a.S a.L a.P) a.k 1→Ob ((0:Int)≤(↑a.k:Int)∧a.k < List.length (runR a.st a.en a.ta a.ba a.S a.L a.P))∧Ob (a.k < List.length (runR a.st a.en a.ta a.ba a.S a.L a.P))∧Ob ((0:Int)≤(↑a.k:Int)∧a.k < List.length (runR a.st a.en a.ta a.ba a.S a.L a.P))∧Ob (a.k < List.length (runR a.st a.en a.ta a.ba a.S a.L a.P))∧(cell (runR a.st a.en a.ta a.ba a.S a.L a.P) a.k 0 < cell (runR a.st a.en a.ta a.ba a.S a.L a.P) a.k 1→Ob ((0:Int)≤(↑a.k:Int)∧a.k < List.length (runR a.st a.en a.ta a.ba a.S a.L a.P))∧Ob (a.k < List.length (runR a.st a.en a.ta a.ba a.S a.L a.P))∧(¬¬cell (runR a.st a.en a.ta a.ba a.S a.L a.P) a.k 1=cell a.S (cell a.P a.k 0).toNat 4→Ob ((0:Int)≤(↑a.k:Int)∧a.k < List.length (runR a.st a.en a.ta a.ba a.S a.L a.P))∧Ob (a.k < List.length (runR a.st a.en a.ta a.ba a.S a.L a.P))∧Ob ((0:Int)≤(↑a.k:Int)∧a.k < List.length (runR a.st a.en a.ta a.ba a.S a.L a.P))∧Ob (a.k < List.length (runR a.st a.en a.ta a.ba a.S a.L a.P))∧Ob (InR .i64 (cell (runR a.st a.en a.ta a.ba a.S a.L a.P) a.k 1+cell a.S (cell a.P a.k 0).toNat 2))∧(¬cell (runR a.st a.en a.ta a.ba a.S a.L a.P) a.k 2=cell (runR a.st a.en a.ta a.ba a.S a.L a.P) a.k 1+cell a.S (cell a.P a.k 0).toNat 2→False)∧(¬¬cell (runR a.st a.en a.ta a.ba a.S a.L a.P) a.k 2=cell (runR a.st a.en a.ta a.ba a.S a.L a.P) a.k 1+cell a.S (cell a.P a.k 0).toNat 2→Ob (IsLst B'_2 a.xp (a.P.length) 1 (Rv.elemOf [.i64] a.P))∧Ob ((0:Int)≤(↑a.k:Int)∧a.k < a.P.length∧IsLst B'_2 a.xp (a.P.length) 1 (Rv.elemOf [.i64] a.P))∧Ob (IsLst B'_2 a.xp (a.P.length) 1 (Rv.elemOf [.i64] a.P)∧a.k < a.P.length)∧Ob (IsLst B'_2 a.xp (a.P.length) 1 (Rv.elemOf [.i64] a.P)∧a.k < a.P.length)∧Ob (InR .i64 (cell a.P a.k 0+(1:Int)))∧Ob ((0:Int)≤(↑a.k:Int)∧a.k < List.length (runR a.st a.en a.ta a.ba a.S a.L a.P))∧Ob (a.k < List.length (runR a.st a.en a.ta a.ba a.S a.L a.P))∧Ob (InR .i64 (worthK a.S a.P a.k+cell a.S (cell a.P a.k 0).toNat 1))∧Ob (InR .i64 (fuelK a.S a.L a.P a.k+cell (a.L.getD (↑(plc a.P a.k):Int).toNat []) (cell a.P a.k 0+(1:Int)).toNat 1))∧Ob (InR .i64 (fuelK a.S a.L a.P a.k+cell (a.L.getD (↑(plc a.P a.k):Int).toNat []) (cell a.P a.k 0+(1:Int)).toNat 1+cell a.S (cell a.P a.k 0).toNat 3))∧Ob (InR .i64 (trapK a.S a.P a.k+cell a.S (cell a.P a.k 0).toNat 0))∧Ob (InR .i64 ((↑a.k:Int)+(1:Int)))∧∃(b:HhS),Ob ((HhI b∧IsLst B'_2 b.xs (List.length b.S) 6 (Rv.elemOf I6 b.S)∧IsLL B'_2 I2 b.xl b.ys b.L∧IsLst B'_2 b.xp (List.length b.P) 1 (Rv.elemOf [.i64] b.P))∧List.length b.P-b.k < a.P.length-a.k)∧Ob (SV.lst a.xp (a.P.length) 1 (Rv.elemOf [.i64] a.P)=SV.lst b.xp (List.length b.P) 1 (Rv.elemOf [.i64] b.P))∧Ob (List.length (runR a.st a.en a.ta a.ba a.S a.L a.P)=List.length (runR b.st b.en b.ta b.ba b.S b.L b.P))∧Ob (cell a.P a.k 0+(1:Int)=(↑(plc b.P b.k):Int))∧Ob (cell (runR a.st a.en a.ta a.ba a.S a.L a.P) a.k 2=doneK b.st b.S b.L b.P b.k)∧Ob (worthK a.S a.P a.k+cell a.S (cell a.P a.k 0).toNat 1=worthK b.S b.P b.k)∧Ob (fuelK a.S a.L a.P a.k+cell (a.L.getD (↑(plc a.P a.k):Int).toNat []) (cell a.P a.k 0+(1:Int)).toNat 1+cell a.S (cell a.P a.k 0).toNat 3=fuelK b.S b.L b.P b.k)∧Ob (trapK a.S a.P a.k+cell a.S (cell a.P a.k 0).toNat 0=trapK b.S b.P b.k)∧Ob ((↑a.k:Int)+(1:Int)=(↑b.k:Int))∧Ob (z0 (runE a.st a.en a.ta a.ba a.S a.L a.P) (homeB a.st a.S a.L a.P (a.P.length))=z0 (runE b.st b.en b.ta b.ba b.S b.L b.P) (homeB b.st b.S b.L b.P (List.length b.P)))∧Ob (z0 (runE a.st a.en a.ta a.ba a.S a.L a.P) (homeF a.S a.L a.P (a.P.length))=z0 (runE b.st b.en b.ta b.ba b.S b.L b.P) (homeF b.S b.L b.P (List.length b.P)))∧Ob (z0 (runE a.st a.en a.ta a.ba a.S a.L a.P) (trapK a.S a.P (a.P.length))=z0 (runE b.st b.en b.ta b.ba b.S b.L b.P) (trapK b.S b.P (List.length b.P)))∧Ob (z0 (runE a.st a.en a.ta a.ba a.S a.L a.P) (worthK a.S a.P (a.P.length)-a.pr*homeF a.S a.L a.P (a.P.length))=z0 (runE b.st b.en b.ta b.ba b.S b.L b.P) (worthK b.S b.P (List.length b.P)-b.pr*homeF b.S b.L b.P (List.length b.P)))∧EqR I3 (runR a.st a.en a.ta a.ba a.S a.L a.P) (runR b.st b.en b.ta b.ba b.S b.L b.P)∧Ob (a.st=b.st)∧Ob (a.en=b.en)∧Ob (a.ta=b.ta)∧Ob (a.pr=b.pr)∧Ob (a.ba=b.ba)∧Ob (SV.lst a.xs (a.S.length) 6 (Rv.elemOf I6 a.S)=SV.lst b.xs (List.length b.S) 6 (Rv.elemOf I6 b.S))∧Ob (SV.lst a.xl a.L.length 1 (llElem I2 a.ys a.L)=SV.lst b.xl b.L.length 1 (llElem I2 b.ys b.L))∧Ob (a.a=b.a)∧Ob (IsLst B'_2 b.xp (List.length b.P) 1 (Rv.elemOf [.i64] b.P))∧PlA I3 (runR b.st b.en b.ta b.ba b.S b.L b.P)∧Ob (IsLst B'_2 b.xs (List.length b.S) 6 (Rv.elemOf I6 b.S))∧Ob (IsLst B'_2 b.xl b.L.length 1 (llElem I2 b.ys b.L))∧True))∧(¬cell (runR a.st a.en a.ta a.ba a.S a.L a.P) a.k 1=cell a.S (cell a.P a.k 0).toNat 4→False))∧(¬cell (runR a.st a.en a.ta a.ba a.S a.L a.P) a.k 0 < cell (runR a.st a.en a.ta a.ba a.S a.L a.P) a.k 1→Ob ((0:Int)≤(↑a.k:Int)∧a.k < List.length (runR a.st a.en a.ta a.ba a.S a.L a.P))∧Ob (a.k < List.length (runR a.st a.en a.ta a.ba a.S a.L a.P))∧Ob ((0:Int)≤(↑a.k:Int)∧a.k < List.length (runR a.st a.en a.ta a.ba a.S a.L a.P))∧Ob (a.k < List.length (runR a.st a.en a.ta a.ba a.S a.L a.P))∧Ob (InR .i64 (cell (runR a.st a.en a.ta a.ba a.S a.L a.P) a.k 1+cell a.S (cell a.P a.k 0).toNat 2))∧(¬cell (runR a.st a.en a.ta a.ba a.S a.L a.P) a.k 2=cell (runR a.st a.en a.ta a.ba a.S a.L a.P) a.k 1+cell a.S (cell a.P a.k 0).toNat 2→False)∧(¬¬cell (runR a.st a.en a.ta a.ba a.S a.L a.P) a.k 2=cell (runR a.st a.en a.ta a.ba a.S a.L a.P) a.k 1+cell a.S (cell a.P a.k 0).toNat 2→Ob (IsLst B'_2 a.xp (a.P.length) 1 (Rv.elemOf [.i64] a.P))∧Ob ((0:Int)≤(↑a.k:Int)∧a.k < a.P.length∧IsLst B'_2 a.xp (a.P.length) 1 (Rv.elemOf [.i64] a.P))∧Ob (IsLst B'_2 a.xp (a.P.length) 1 (Rv.elemOf [.i64] a.P)∧a.k < a.P.length)∧Ob (IsLst B'_2 a.xp (a.P.length) 1 (Rv.elemOf [.i64] a.P)∧a.k < a.P.length)∧Ob (InR .i64 (cell a.P a.k 0+(1:Int)))∧Ob ((0:Int)≤(↑a.k:Int)∧a.k < List.length (runR a.st a.en a.ta a.ba a.S a.L a.P))∧Ob (a.k < List.length (runR a.st a.en a.ta a.ba a.S a.L a.P))∧Ob (InR .i64 (worthK a.S a.P a.k+cell a.S (cell a.P a.k 0).toNat 1))∧Ob (InR .i64 (fuelK a.S a.L a.P a.k+cell (a.L.getD (↑(plc a.P a.k):Int).toNat []) (cell a.P a.k 0+(1:Int)).toNat 1))∧Ob (InR .i64 (fuelK a.S a.L a.P a.k+cell (a.L.getD (↑(plc a.P a.k):Int).toNat []) (cell a.P a.k 0+(1:Int)).toNat 1+cell a.S (cell a.P a.k 0).toNat 3))∧Ob (InR .i64 (trapK a.S a.P a.k+cell a.S (cell a.P a.k 0).toNat 0))∧Ob (InR .i64 ((↑a.k:Int)+(1:Int)))∧∃(b:HhS),Ob ((HhI b∧IsLst B'_2 b.xs (List.length b.S) 6 (Rv.elemOf I6 b.S)∧IsLL B'_2 I2 b.xl b.ys b.L∧IsLst B'_2 b.xp (List.length b.P) 1 (Rv.elemOf [.i64] b.P))∧List.length b.P-b.k < a.P.length-a.k)∧Ob (SV.lst a.xp (a.P.length) 1 (Rv.elemOf [.i64] a.P)=SV.lst b.xp (List.length b.P) 1 (Rv.elemOf [.i64] b.P))∧Ob (List.length (runR a.st a.en a.ta a.ba a.S a.L a.P)=List.length (runR b.st b.en b.ta b.ba b.S b.L b.P))∧Ob (cell a.P a.k 0+(1:Int)=(↑(plc b.P b.k):Int))∧Ob (cell (runR a.st a.en a.ta a.ba a.S a.L a.P) a.k 2=doneK b.st b.S b.L b.P b.k)∧Ob (worthK a.S a.P a.k+cell a.S (cell a.P a.k 0).toNat 1=worthK b.S b.P b.k)∧Ob (fuelK a.S a.L a.P a.k+cell (a.L.getD (↑(plc a.P a.k):Int).toNat []) (cell a.P a.k 0+(1:Int)).toNat 1+cell a.S (cell a.P a.k 0).toNat 3=fuelK b.S b.L b.P b.k)∧Ob (trapK a.S a.P a.k+cell a.S (cell a.P a.k 0).toNat 0=trapK b.S b.P b.k)∧Ob ((↑a.k:Int)+(1:Int)=(↑b.k:Int))∧Ob (z0 (runE a.st a.en a.ta a.ba a.S a.L a.P) (homeB a.st a.S a.L a.P (a.P.length))=z0 (runE b.st b.en b.ta b.ba b.S b.L b.P) (homeB b.st b.S b.L b.P (List.length b.P)))∧Ob (z0 (runE a.st a.en a.ta a.ba a.S a.L a.P) (homeF a.S a.L a.P (a.P.length))=z0 (runE b.st b.en b.ta b.ba b.S b.L b.P) (homeF b.S b.L b.P (List.length b.P)))∧Ob (z0 (runE a.st a.en a.ta a.ba a.S a.L a.P) (trapK a.S a.P (a.P.length))=z0 (runE b.st b.en b.ta b.ba b.S b.L b.P) (trapK b.S b.P (List.length b.P)))∧Ob (z0 (runE a.st a.en a.ta a.ba a.S a.L a.P) (worthK a.S a.P (a.P.length)-a.pr*homeF a.S a.L a.P (a.P.length))=z0 (runE b.st b.en b.ta b.ba b.S b.L b.P) (worthK b.S b.P (List.length b.P)-b.pr*homeF b.S b.L b.P (List.length b.P)))∧EqR I3 (runR a.st a.en a.ta a.ba a.S a.L a.P) (runR b.st b.en b.ta b.ba b.S b.L b.P)∧Ob (a.st=b.st)∧Ob (a.en=b.en)∧Ob (a.ta=b.ta)∧Ob (a.pr=b.pr)∧Ob (a.ba=b.ba)∧Ob (SV.lst a.xs (a.S.length) 6 (Rv.elemOf I6 a.S)=SV.lst b.xs (List.length b.S) 6 (Rv.elemOf I6 b.S))∧Ob (SV.lst a.xl a.L.length 1 (llElem I2 a.ys a.L)=SV.lst b.xl b.L.length 1 (llElem I2 b.ys b.L))∧Ob (a.a=b.a)∧Ob (IsLst B'_2 b.xp (List.length b.P) 1 (Rv.elemOf [.i64] b.P))∧PlA I3 (runR b.st b.en b.ta b.ba b.S b.L b.P)∧Ob (IsLst B'_2 b.xs (List.length b.S) 6 (Rv.elemOf I6 b.S))∧Ob (IsLst B'_2 b.xl b.L.length 1 (llElem I2 b.ys b.L))∧True)))∧(cell a.S (cell a.P a.k 0).toNat 5 < cell (runR a.st a.en a.ta a.ba a.S a.L a.P) a.k 1→False))∧(cell (runR a.st a.en a.ta a.ba a.S a.L a.P) a.k 1 < cell a.S (cell a.P a.k 0).toNat 4→False))∧(cell (runR a.st a.en a.ta a.ba a.S a.L a.P) a.k 1 < cell (runR a.st a.en a.ta a.ba a.S a.L a.P) a.k 0→False))∧(¬cell (runR a.st a.en a.ta a.ba a.S a.L a.P) a.k 0=doneK a.st a.S a.L a.P a.k+cell (a.L.getD (↑(plc a.P a.k):Int).toNat []) (cell a.P a.k 0+(1:Int)).toNat 0→False))∧(¬(↑a.k:Int) < (↑(a.P.length):Int)→Ob ((0:Int)≤(↑(plc a.P a.k):Int)∧(↑(plc a.P a.k):Int).toNat < a.L.length∧IsLst B'_2 a.xl a.L.length 1 (llElem I2 a.ys a.L))∧Ob (IsLst B'_2 a.xl a.L.length 1 (llElem I2 a.ys a.L)∧(↑(plc a.P a.k):Int).toNat < a.L.length)∧Ob ((0:Nat) < (a.L.getD (↑(plc a.P a.k):Int).toNat []).length∧IsLst B'_2 (a.ys (↑(plc a.P a.k):Int).toNat) (a.L.getD (↑(plc a.P a.k):Int).toNat []).length 2 (Rv.elemOf I2 (a.L.getD (↑(plc a.P a.k):Int).toNat [])))∧Ob (IsLst B'_2 (a.ys (↑(plc a.P a.k):Int).toNat) (a.L.getD (↑(plc a.P a.k):Int).toNat []).length 2 (Rv.elemOf I2 (a.L.getD (↑(plc a.P a.k):Int).toNat []))∧(0:Nat) < (a.L.getD (↑(plc a.P a.k):Int).toNat []).length)∧Ob (InR .i64 (doneK a.st a.S a.L a.P a.k+cell (a.L.getD (↑(plc a.P a.k):Int).toNat []) 0 0))∧Ob (InR .i64 (fuelK a.S a.L a.P a.k+cell (a.L.getD (↑(plc a.P a.k):Int).toNat []) 0 1))∧Ob (InR .i64 (fuelK a.S a.L a.P a.k+cell (a.L.getD (↑(plc a.P a.k):Int).toNat []) 0 1))∧Ob (InR .i64 (a.pr*(fuelK a.S a.L a.P a.k+cell (a.L.getD (↑(plc a.P a.k):Int).toNat []) 0 1)))∧Ob (InR .i64 (worthK a.S a.P a.k-a.pr*(fuelK a.S a.L a.P a.k+cell (a.L.getD (↑(plc a.P a.k):Int).toNat []) 0 1)))∧(z0 (runE a.st a.en a.ta a.ba a.S a.L a.P) (homeB a.st a.S a.L a.P (a.P.length))=doneK a.st a.S a.L a.P a.k+cell (a.L.getD (↑(plc a.P a.k):Int).toNat []) 0 0∧z0 (runE a.st a.en a.ta a.ba a.S a.L a.P) (homeF a.S a.L a.P (a.P.length))=fuelK a.S a.L a.P a.k+cell (a.L.getD (↑(plc a.P a.k):Int).toNat []) 0 1∧z0 (runE a.st a.en a.ta a.ba a.S a.L a.P) (trapK a.S a.P (a.P.length))=trapK a.S a.P a.k∧z0 (runE a.st a.en a.ta a.ba a.S a.L a.P) (worthK a.S a.P (a.P.length)-a.pr*homeF a.S a.L a.P (a.P.length))=worthK a.S a.P a.k-a.pr*(fuelK a.S a.L a.P a.k+cell (a.L.getD (↑(plc a.P a.k):Int).toNat []) 0 1)∧True→(z0 (runE a.st a.en a.ta a.ba a.S a.L a.P) (homeB a.st a.S a.L a.P (a.P.length))≤a.en→(z0 (runE a.st a.en a.ta a.ba a.S a.L a.P) (homeF a.S a.L a.P (a.P.length))≤a.ta→(trapK a.S a.P a.k≤a.ba→Ob (hasTabs [] B'_2)∧True)∧(¬trapK a.S a.P a.k≤a.ba→False))∧(¬z0 (runE a.st a.en a.ta a.ba a.S a.L a.P) (homeF a.S a.L a.P (a.P.length))≤a.ta→False))∧(¬z0 (runE a.st a.en a.ta a.ba a.S a.L a.P) (homeB a.st a.S a.L a.P (a.P.length))≤a.en→False))∧(¬(z0 (runE a.st a.en a.ta a.ba a.S a.L a.P) (homeB a.st a.S a.L a.P (a.P.length))=doneK a.st a.S a.L a.P a.k+cell (a.L.getD (↑(plc a.P a.k):Int).toNat []) 0 0∧z0 (runE a.st a.en a.ta a.ba a.S a.L a.P) (homeF a.S a.L a.P (a.P.length))=fuelK a.S a.L a.P a.k+cell (a.L.getD (↑(plc a.P a.k):Int).toNat []) 0 1∧z0 (runE a.st a.en a.ta a.ba a.S a.L a.P) (trapK a.S a.P (a.P.length))=trapK a.S a.P a.k∧z0 (runE a.st a.en a.ta a.ba a.S a.L a.P) (worthK a.S a.P (a.P.length)-a.pr*homeF a.S a.L a.P (a.P.length))=worthK a.S a.P a.k-a.pr*(fuelK a.S a.L a.P a.k+cell (a.L.getD (↑(plc a.P a.k):Int).toNat []) 0 1)∧True)→False))))
set_option linter.unusedSimpArgs false in
set_option maxRecDepth 4000 in
set_option maxHeartbeats 2000000 in
theorem v_law:V_law:=by
 unfold V_law EqR I2 I3 I6 LsA PlA RwB
 intro B ht x N hx hox hr hN
 simp only [Ob_iff,and_true,true_and,implies_true,Classical.not_not,not_true_eq_false,F_TideOf,F_Below,F_TourOf,F_PlanOf,List.cons_append,List.nil_append,not_false_eq_true,true_implies,false_implies]
 refine⟨N,⟨hx,rfl,hr,fun i hi=>rfl⟩,hN,by decide,?_⟩
 intro a B1 g1 st en ta pr ba xs S hS hoS hSr xl ys L hL hoL ⟨hst,hT⟩
 have hen:=hT.en
 have hn:=hT.n
 refine⟨hx,hx,S,⟨hS,rfl,hSr,fun i hi=>rfl⟩,L,ys,⟨rfl,fun i hi=>rfl,hL⟩,by omega,?_⟩
 intro a2
 refine⟨hS,hL.1,?_⟩
 intro B2 g2 xp P hP hoP hPr ⟨hPl,_⟩
 have hx2:=hx.up g1
 have hSb:=hS
 have hLb:=hL
 have hS:=hS.up g2
 have hL:=hL.up g2
 have hT8:TourOk 8 en ta pr ba S L:=hT.monoH (by decide)
 have hP1:P.length≤1000:=by omega
 have hTab:=(ht.up g1).up g2
 refine⟨hx2,hx2,hSb,hLb.1,hSb,hLb.1,S,⟨hS,rfl,hSr,fun i hi=>rfl⟩,L,ys,⟨rfl,fun i hi=>rfl,hL⟩,P,⟨hP,rfl,hPr,fun i hi=>rfl⟩,⟨⟨hst.1,by omega⟩,hT8,hP1⟩,fun h1=>⟨fun _=>⟨fun _=>hTab,fun q=>q ⟨if_neg h1,if_neg h1,if_neg h1,if_neg h1⟩⟩,fun q=>q (congrArg Nat.cast (run_no rfl h1 0 0 0 0).1)⟩,fun h1=>?_⟩
 have hRl:(runR st en ta ba S L P).length=P.length:=by
  have:runR st en ta ba S L P=staysK st S L P P.length:=if_pos h1
  rw [this,stays_len]
 refine⟨hP,fun q=>q (congrArg Nat.cast hRl),fun _=>⟨⟨⟨0,a2,st,en,ta,pr,ba,S,L,P,xs,xl,xp,ys⟩,⟨⟨Nat.zero_le _,hP1,⟨hst.1,by simp only; omega⟩,hT8,h1⟩,hS,hL,hP⟩,rfl,rfl,rfl,rfl,rfl,rfl,rfl,rfl,rfl,rfl,rfl,rfl,⟨rfl,fun i hi=>rfl⟩,rfl,rfl,rfl,rfl,rfl,rfl,rfl,rfl,hP,plain_elemOf _ _ _,hS,hL.1⟩,?_⟩⟩
 clear hRl h1
 intro B3 gg v hv
 obtain⟨hv,hS3,hL3,hP3⟩:=hv
 intros
 have he:=hv.e
 obtain⟨hE,hB,hF⟩:=run_zero he
 have hz0:∀x,z0 (runE v.st v.en v.ta v.ba v.S v.L v.P) x=x:=fun x=>if_pos he
 have hkE:=errK_le hE hv.k
 have hst:=hv.st
 have hg:=goodK (P:=v.P) ⟨hv.st.1,by omega⟩ hv.t v.k hkE
 have g1:=hg.p
 have g2:=hg.d
 have g3:=hg.t
 have g4:=hg.f
 have g5:=hg.w
 have hvk:=hv.k
 have hvn:=hv.n
 have hm:=hv.t.m
 have hn:=hv.t.n
 have hpr:=hv.t.pr
 have hLk:plc v.P v.k < v.L.length:=by omega
 have hlen:=hv.t.l.len (plc v.P v.k) hLk
 have hyk:=(hL3.2 (plc v.P v.k) hLk).1
 have eP:((plc v.P v.k:Nat):Int).toNat=plc v.P v.k:=Int.toNat_natCast _
 rw [eP]
 refine⟨hP3,fun hkl=>?_,fun hkl=>?_⟩
 ·have hkl:v.k < v.P.length:=by omega
  have hE1:=errK_le hE (show v.k+1≤v.P.length from hkl)
  obtain⟨hr,_,hba,hto⟩:=stepE_zero (errK_suc hE1).2
  have hpl:pl v.P v.k < v.S.length:=by unfold pl; omega
  have ep:(cell v.P v.k 0).toNat=pl v.P v.k:=rfl
  have ep1:(cell v.P v.k 0+1).toNat=pl v.P v.k+1:=by unfold pl; omega
  have hSk:=hv.t.s.at_ (pl v.P v.k) hpl
  have hLg:=hv.t.l.at_ (plc v.P v.k) hLk (pl v.P v.k+1) (by omega)
  rw [ep1,ep]
  have q1:pl v.P v.k+1 < (v.L.getD (plc v.P v.k) []).length:=by omega
  have hRR:runR v.st v.en v.ta v.ba v.S v.L v.P=staysK v.st v.S v.L v.P v.P.length:=if_pos he
  have hkr:v.k < (runR v.st v.en v.ta v.ba v.S v.L v.P).length:=by rw [hRR,stays_len]; exact hkl
  obtain⟨c0,c1,c2⟩:=stays_at (st:=v.st) (S:=v.S) (L:=v.L) (P:=v.P) _ hkl
  rw [← hRR]at c0 c1 c2
  rw [c0,c1,c2]
  have nn:(0:Int)≤(v.k:Int):=Int.natCast_nonneg _
  have l0:cell (v.L.getD (plc v.P v.k) []) (pl v.P v.k+1) 0=lg v.L (plc v.P v.k) (pl v.P v.k+1) 0:=rfl
  have l1:cell (v.L.getD (plc v.P v.k) []) (pl v.P v.k+1) 1=lg v.L (plc v.P v.k) (pl v.P v.k+1) 1:=rfl
  have eA:arrK v.st v.S v.L v.P v.k=doneK v.st v.S v.L v.P v.k+cell (v.L.getD (plc v.P v.k) []) (pl v.P v.k+1) 0:=rfl
  have eB:begK v.st v.S v.L v.P v.k=max (arrK v.st v.S v.L v.P v.k) (cell v.S (pl v.P v.k) 4):=rfl
  have eD:doneK v.st v.S v.L v.P (v.k+1)=begK v.st v.S v.L v.P v.k+cell v.S (pl v.P v.k) 2:=rfl
  have eF:fuelK v.S v.L v.P (v.k+1)=fuelK v.S v.L v.P v.k+(cell (v.L.getD (plc v.P v.k) []) (pl v.P v.k+1) 1+cell v.S (pl v.P v.k) 3):=rfl
  have hfu:fuelK v.S v.L v.P v.k+cell (v.L.getD (plc v.P v.k) []) (pl v.P v.k+1) 1+cell v.S (pl v.P v.k) 3=fuelK v.S v.L v.P (v.k+1):=by rw [eF,Int.add_assoc]
  have i0:InR .i64 (cell v.P v.k 0+1):=by clear hSk hLg; simp only [InR]; omega
  have i2:InR .i64 (doneK v.st v.S v.L v.P v.k+cell (v.L.getD (plc v.P v.k) []) (pl v.P v.k+1) 0):=by simp only [InR]; omega
  have i3:InR .i64 (begK v.st v.S v.L v.P v.k+cell v.S (pl v.P v.k) 2):=by simp only [InR]; omega
  have i4:InR .i64 (worthK v.S v.P v.k+cell v.S (pl v.P v.k) 1):=by simp only [InR]; omega
  have i5:InR .i64 (fuelK v.S v.L v.P v.k+cell (v.L.getD (plc v.P v.k) []) (pl v.P v.k+1) 1):=by simp only [InR]; omega
  have i6:InR .i64 (fuelK v.S v.L v.P v.k+cell (v.L.getD (plc v.P v.k) []) (pl v.P v.k+1) 1+cell v.S (pl v.P v.k) 3):=by simp only [InR]; omega
  have i7:InR .i64 (trapK v.S v.P v.k+cell v.S (pl v.P v.k) 0):=by simp only [InR]; omega
  have i8:InR .i64 ((v.k:Int)+1):=by clear hSk hLg; simp only [InR]; omega
  have c00:0≤cell v.P v.k 0+1:=by clear hSk hLg; omega
  have hmu:v.P.length-(v.k+1) < v.P.length-v.k:=by clear hSk hLg; omega
  have hplc:cell v.P v.k 0+1=((plc v.P (v.k+1):Nat):Int):=by
   show cell v.P v.k 0+1=(((cell v.P v.k 0).toNat+1:Nat):Int)
   clear hSk hLg; omega
  have hI:HhI ⟨v.k+1,v.a,v.st,v.en,v.ta,v.pr,v.ba,v.S,v.L,v.P,v.xs,v.xl,v.xp,v.ys⟩:=⟨hkl,hv.n,hv.st,hv.t,hv.e⟩
  exact⟨hS3,hP3,⟨nn,hkl,hP3⟩,⟨hP3,hkl⟩,⟨hP3,hkl⟩,⟨hr.1,hpl,hS3⟩,⟨hS3,hpl⟩,⟨hS3,hpl⟩,hL3.1,⟨Int.natCast_nonneg _,hLk,hL3.1⟩,⟨hL3.1,hLk⟩,⟨hL3.1,hLk⟩,hyk,hP3,⟨nn,hkl,hP3⟩,⟨hP3,hkl⟩,⟨hP3,hkl⟩,i0,⟨c00,q1,hyk⟩,⟨hyk,q1⟩,⟨hyk,q1⟩,⟨nn,hkr⟩,hkr,i2,fun _=>⟨⟨nn,hkr⟩,hkr,⟨nn,hkr⟩,hkr,fun _=>⟨⟨nn,hkr⟩,hkr,fun _=>⟨⟨nn,hkr⟩,hkr,fun _=>⟨⟨nn,hkr⟩,hkr,⟨nn,hkr⟩,hkr,fun h1=>⟨⟨nn,hkr⟩,hkr,fun _=>⟨⟨nn,hkr⟩,hkr,⟨nn,hkr⟩,hkr,i3,fun q=>q rfl,fun _=>⟨hP3,⟨nn,hkl,hP3⟩,⟨hP3,hkl⟩,⟨hP3,hkl⟩,i0,⟨nn,hkr⟩,hkr,i4,i5,i6,i7,i8,⟨v.k+1,v.a,v.st,v.en,v.ta,v.pr,v.ba,v.S,v.L,v.P,v.xs,v.xl,v.xp,v.ys⟩,⟨⟨hI,hS3,hL3,hP3⟩,hmu⟩,rfl,rfl,hplc,rfl,rfl,hfu,rfl,rfl,rfl,rfl,rfl,rfl,⟨rfl,fun i hi=>rfl⟩,rfl,rfl,rfl,rfl,rfl,rfl,rfl,rfl,hP3,plain_elemOf _ _ _,hS3,hL3.1⟩⟩,fun q=>by omega⟩,fun h1=>⟨⟨nn,hkr⟩,hkr,⟨nn,hkr⟩,hkr,i3,fun q=>q rfl,fun _=>⟨hP3,⟨nn,hkl,hP3⟩,⟨hP3,hkl⟩,⟨hP3,hkl⟩,i0,⟨nn,hkr⟩,hkr,i4,i5,i6,i7,i8,⟨v.k+1,v.a,v.st,v.en,v.ta,v.pr,v.ba,v.S,v.L,v.P,v.xs,v.xl,v.xp,v.ys⟩,⟨⟨hI,hS3,hL3,hP3⟩,hmu⟩,rfl,rfl,hplc,rfl,rfl,hfu,rfl,rfl,rfl,rfl,rfl,rfl,⟨rfl,fun i hi=>rfl⟩,rfl,rfl,rfl,rfl,rfl,rfl,rfl,rfl,hP3,plain_elemOf _ _ _,hS3,hL3.1⟩⟩⟩,fun q=>by omega⟩,fun q=>by omega⟩,fun q=>by omega⟩,fun q=>q rfl⟩
 ·have hkk:v.k=v.P.length:=by omega
  rw [hz0,hz0,hz0,hz0,hkk]
  rw [hkk]at g1 g2 g3 g4 g5 hLk hlen hyk
  have hL0:=hv.t.l.at_ (plc v.P v.P.length) hLk 0 (by omega)
  have q1:0 < (v.L.getD (plc v.P v.P.length) []).length:=by omega
  have l0:cell (v.L.getD (plc v.P v.P.length) []) 0 0=lg v.L (plc v.P v.P.length) 0 0:=rfl
  have l1:cell (v.L.getD (plc v.P v.P.length) []) 0 1=lg v.L (plc v.P v.P.length) 0 1:=rfl
  have eB:homeB v.st v.S v.L v.P v.P.length=doneK v.st v.S v.L v.P v.P.length+cell (v.L.getD (plc v.P v.P.length) []) 0 0:=rfl
  have eF:homeF v.S v.L v.P v.P.length=fuelK v.S v.L v.P v.P.length+cell (v.L.getD (plc v.P v.P.length) []) 0 1:=rfl
  have htr:=trap_le hv.t.ba.1 _ hE
  have bF:0≤homeF v.S v.L v.P v.P.length∧homeF v.S v.L v.P v.P.length≤200100000:=by omega
  have bM:=mul_bd hpr bF
  rw [← eB,← eF]
  exact⟨⟨Int.natCast_nonneg _,hLk,hL3.1⟩,⟨hL3.1,hLk⟩,⟨q1,hyk⟩,⟨hyk,q1⟩,by simp only [InR]; omega,by simp only [InR]; omega,by simp only [InR]; omega,by simp only [InR]; omega,by simp only [InR]; omega,fun _=>⟨fun _=>⟨fun _=>⟨fun _=>hTab.up gg,fun q=>q htr⟩,fun q=>q hF⟩,fun q=>q hB⟩,fun q=>q ⟨rfl,rfl,rfl,rfl⟩⟩
theorem e_law:V_law=needLG P [] [F_TideOf,F_Below,F_Run] [F_TourOf,F_PlanOf] 10 ([]:Tabs) A_law F_law:=by kernel_rfl
theorem n_law:Ob (needLG P [] [F_TideOf,F_Below,F_Run] [F_TourOf,F_PlanOf] 10 ([]:Tabs) A_law F_law):=by
 rw [← e_law]
 exact⟨v_law⟩
theorem cg_law:∀F∈[F_TourOf,F_PlanOf],F.Ok P:=by
 intro F h
 simp only [List.mem_cons,List.not_mem_nil,or_false]at h
 rcases h with rfl | rfl
 ·exact TourOf_ok
 ·exact PlanOf_ok
theorem l_law:(([]:List Fn0).all fun G=>!Nat.beq G.g 10)=true:=rfl
theorem le_law:([F_TideOf,F_Below,F_Run].all fun G=>!Nat.beq G.g 10)=true:=rfl
theorem c_law:∀F∈([]:List Fn0),F.Ok P:=by
 intro F h; simp at h
theorem ce_law:∀F∈[F_TideOf,F_Below,F_Run],F.Ok P:=by
 intro F h
 simp only [List.mem_cons,List.not_mem_nil,or_false]at h
 rcases h with rfl | rfl | rfl
 ·exact TideOf_ok
 ·exact Below_ok
 ·exact Run_ok
end Go.Proofs.Ytimcjjekohfokaa.Sy
