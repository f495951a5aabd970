import Derived.Test.YtkdehhcadhainaaSyP4
import Derived.Test.YtkdehhcadhainaaGrM
import Derived.Test.YtkdehhcadhainaaStM
import Derived.Test.YtkdehhcadhainaaKtT
import Derived.Test.YtkdehhcadhainaaKtA
import Derived.Test.YtkdehhcadhainaaSyP2
import Derived.Test.YtkdehhcadhainaaSyP4
import Derived.Test.YtkdehhcadhainaaKhA
import Derived.Test.YtkdehhcadhainaaKhC
import Derived.Test.YtkdehhcadhainaaKhD
import Derived.Test.YtkdehhcadhainaaKhN
import Derived.Test.YtkdehhcadhainaaKhH
import Derived.Test.YtkdehhcadhainaaKhM
import Derived.Test.YtkdehhcadhainaaKhI
import Derived.Test.YtkdehhcadhainaaKhJ
import Derived.KernelRfl
import Derived.Test.YtkdehhcadhainaaProg
namespace Go.Proofs.Ytkdehhcadhainaa.Sy
open Go Go.Rv
set_option linter.unusedVariables false
structure HbS where
 k:Nat
 j:Nat
 a:Int
 st:Int
 en:Int
 ta:Int
 pr:Int
 ba:Int
 S:Rows
 L:List Rows
 A:List Rows
 xs:RV
 xl:RV
 xa:RV
 ys:Nat→RV
 za:Nat→RV
structure HbI (v:HbS):Prop where
 k:v.k≤v.A.length
 n:v.A.length≤1000
 m:∀i,(v.A.getD i []).length≤1000
 st:0≤v.st∧v.st≤1440
 t:TourOk 8 v.en v.ta v.pr v.ba v.S v.L
structure HbJ (v:HbS):Prop extends HbI v where
 kl:v.k < v.A.length
 j:v.j≤v.A.length
 e:bndE v.st v.en v.ta v.ba v.S v.L (v.A.getD v.k [])=0
theorem TourOk.monoB {a b:Nat} {en ta pr ba:Int} {S:Rows} {L:List Rows} (h:TourOk a en ta pr ba S L) (hab:a≤b):TourOk b en ta pr ba S L:=⟨h.en,h.ta,h.pr,h.ba,Nat.le_trans h.n hab,h.s,h.m,h.l⟩
theorem run_zeroB {st en ta ba:Int} {S:Rows} {L:List Rows} {P:Rows} (h:runE st en ta ba S L P=0):chkT st en=0∧errK st ba S L P P.length=0∧homeB st S L P P.length≤en∧homeF S L P P.length≤ta:=by
 by_cases h0:chkT st en=0
 ·by_cases h1:errK st ba S L P P.length=0
  ·rw [run_home h0 h1]at h
   unfold homeE at h
   by_cases h2:en < homeB st S L P P.length
   ·rw [if_pos h2]at h; exact absurd h (by decide)
   ·rw [if_neg h2]at h
    by_cases h3:ta < homeF S L P P.length
    ·rw [if_pos h3]at h; exact absurd h (by decide)
    ·exact⟨h0,h1,by omega,by omega⟩
  ·unfold runE at h
   rw [if_pos h0,if_neg h1]at h
   exact absurd h h1
 ·rw [run_bad h0]at h; exact absurd h h0
theorem bnd_of_run {st en ta pr ba:Int} {S:Rows} {L:List Rows} {P:Rows} (hs:0≤st∧st≤1440) (ht:TourOk 8 en ta pr ba S L) (h:runE st en ta ba S L P=0):bndE st en ta ba S L P=0:=by
 obtain⟨h0,h1,h2,h3⟩:=run_zeroB h
 have hg:=goodK (P:=P) ⟨hs.1,by omega⟩ ht P.length h1
 have hL:=ht.l.at_ (plc P P.length) (by have:=hg.p; have:=ht.m; omega) 0 (by omega)
 have e1:homeB st S L P P.length=doneK st S L P P.length+lg L (plc P P.length) 0 0:=rfl
 have e2:homeF S L P P.length=fuelK S L P P.length+lg L (plc P P.length) 0 1:=rfl
 exact bnd_ok h0 h1 ⟨by omega,by omega⟩
theorem bnd_ge {st en ta pr ba:Int} {S:Rows} {L:List Rows} {P Q:Rows} (hs:0≤st∧st≤1440) (ht:TourOk 8 en ta pr ba S L) (hP:bndE st en ta ba S L P=0) (hQ:runE st en ta ba S L Q=0) (hb:P.length≤Q.length∧∀j,j < P.length→cell Q j 0=cell P j 0):¬ z0 (bndE st en ta ba S L P) (bndV st pr ba S L P P.length) < z0 (runE st en ta ba S L Q) (worthK S Q Q.length-pr*homeF S L Q Q.length):=by
 have e1:z0 (bndE st en ta ba S L P) (bndV st pr ba S L P P.length)=bndV st pr ba S L P P.length:=if_pos hP
 have e2:z0 (runE st en ta ba S L Q) (worthK S Q Q.length-pr*homeF S L Q Q.length)=worthK S Q Q.length-pr*homeF S L Q Q.length:=if_pos hQ
 rw [e1,e2]
 have:=bound_best (P:=P) ⟨hs.1,by omega⟩ ht (run_zeroB hQ).2.1 hb.1 hb.2
 omega
noncomputable def F_law:LawF:=⟨3,[.one (.l [.i64])],fun l=>match l with | [.l N]=>N.length≤9223372036854775807 | _=>False⟩
noncomputable def A_law:List SV→List Dat→Nat→List SV→AnG:=fun xs ds n ts=>match xs with
 | [.lst xz _ _ _]=>match ds with
  | [.l N]=>match n with
   | 4=>⟨HbS,fun v=>([none,none,none,some (SV.ptr ((1:Nat)) ((0:Nat))),some (.lst v.xa v.A.length 1 (llElem [.i64] v.za v.A)),some (.i .i64 v.k)]++nN 74),fun v=>[.cells [.i .i64 v.st,.i .i64 v.en,.i .i64 v.ta,.i .i64 v.pr,.i .i64 v.ba,.lst v.xs v.S.length 6 (Rv.elemOf [.i64,.i64,.i64,.i64,.i64,.i64] v.S),.lst v.xl v.L.length 1 (llElem [.i64,.i64] v.ys v.L)] .ex,.cells [.i .u64 v.a] .ex],fun B v=>HbI v∧IsLst B v.xs v.S.length 6 (Rv.elemOf [.i64,.i64,.i64,.i64,.i64,.i64] v.S)∧IsLL B [.i64,.i64] v.xl v.ys v.L∧IsLL B [.i64] v.xa v.za v.A,fun v=>1000-v.k,0,[]⟩
   | 12=>(match lget ts 5 with | some (SV.i IntKind.i64 ik)=>⟨HbS,fun v=>([none,none,none,some (SV.ptr ((1:Nat)) ((0:Nat))),some (.lst v.xa v.A.length 1 (llElem [.i64] v.za v.A)),some (.i .i64 ik),some (.i .i64 (z0 (bndE v.st v.en v.ta v.ba v.S v.L (v.A.getD v.k [])) (bndV v.st v.pr v.ba v.S v.L (v.A.getD v.k []) (v.A.getD v.k []).length))),none,none,none,some (.i .i64 v.j)]++nN 69),fun v=>[.cells [.i .i64 v.st,.i .i64 v.en,.i .i64 v.ta,.i .i64 v.pr,.i .i64 v.ba,.lst v.xs v.S.length 6 (Rv.elemOf [.i64,.i64,.i64,.i64,.i64,.i64] v.S),.lst v.xl v.L.length 1 (llElem [.i64,.i64] v.ys v.L)] .ex,.cells [.i .u64 v.a] .ex],fun B v=>HbJ v∧ik=v.k∧IsLst B v.xs v.S.length 6 (Rv.elemOf [.i64,.i64,.i64,.i64,.i64,.i64] v.S)∧IsLL B [.i64,.i64] v.xl v.ys v.L∧IsLL B [.i64] v.xa v.za v.A,fun v=>1000-v.j,0,[]⟩ | _=>noAnG)
   | _=>noAnG
  | _=>noAnG
 | _=>noAnG
def V_law:Prop:=
 ∀(B:RW),hasTabs [] B→∀(n:RV) (h:List (List Int)),IsLst B n h.length 1 (Rv.elemOf [.i64] h)→oneB n=true→(∀row∈h,row.length=1)→h.length≤9223372036854775807→RwB B n h.length 1 [.i64] h fun x=>Ob (F_TideOf.pre [Dat.l x])∧Ob ((0:Int)≤(4:Int)∧(4:Int)≤(8:Int))∧∀(y:Int) (B':RW),Grow B B'→∀(t q u w v:Int) (m:RV) (g:List (List Int)),IsLst B' m g.length 6 (Rv.elemOf I6 g)→oneB m=true→(∀row∈g,row.length=6)→∀(p:RV) (ys:Nat→RV) (R:List (List (List Int))),IsLL B' I2 p ys R→oneB p=true→((0:Int)≤t∧t≤q)∧TourOk 4 q u w v g R→LsA B n [.i64] h∧LsA B n [.i64] h∧Ob (IsLst B' m g.length 6 (Rv.elemOf I6 g))∧Ob ((0:Int)≤(↑g.length:Int)∧(↑g.length:Int)≤(4:Int))∧Ob (IsLst B' m g.length 6 (Rv.elemOf I6 g))∧Ob (IsLst B' p R.length 1 (llElem I2 ys R))∧∀(B'_1:RW),Grow B' B'_1→∀(s:RV) (ys_1:Nat→RV) (R_1:List (List (List Int))),IsLL B'_1 [.i64] s ys_1 R_1→oneB s=true→(R_1.length≤1000∧∀(d:Nat),(R_1.getD d []).length≤1000)→Ob (IsLst B' n h.length 1 (Rv.elemOf [.i64] h))∧Ob (IsLst B' n h.length 1 (Rv.elemOf [.i64] h))∧Ob (IsLst B' m g.length 6 (Rv.elemOf I6 g))∧Ob (IsLst B' p R.length 1 (llElem I2 ys R))∧Ob (IsLst B' m g.length 6 (Rv.elemOf I6 g))∧(∃(b:HbS),Ob (HbI b∧IsLst B'_1 b.xs (b.S.length) 6 (Rv.elemOf I6 b.S)∧IsLL B'_1 I2 b.xl b.ys b.L∧IsLL B'_1 [.i64] b.xa b.za b.A)∧Ob (SV.lst s R_1.length 1 (llElem [.i64] ys_1 R_1)=SV.lst b.xa b.A.length 1 (llElem [.i64] b.za b.A))∧Ob ((0:Int)=(↑b.k:Int))∧Ob (t=b.st)∧Ob (q=b.en)∧Ob (u=b.ta)∧Ob (w=b.pr)∧Ob (v=b.ba)∧Ob (SV.lst m g.length 6 (Rv.elemOf I6 g)=SV.lst b.xs (b.S.length) 6 (Rv.elemOf I6 b.S))∧Ob (SV.lst p R.length 1 (llElem I2 ys R)=SV.lst b.xl b.L.length 1 (llElem I2 b.ys b.L))∧Ob (y=b.a)∧Ob (IsLst B'_1 b.xa b.A.length 1 (llElem [.i64] b.za b.A))∧Ob (IsLst B'_1 b.xs (b.S.length) 6 (Rv.elemOf I6 b.S))∧Ob (IsLst B'_1 b.xl b.L.length 1 (llElem I2 b.ys b.L))∧True)∧∀(B'_2:RW),Grow B'_1 B'_2→∀(b:HbS),HbI b∧IsLst B'_2 b.xs (b.S.length) 6 (Rv.elemOf I6 b.S)∧IsLL B'_2 I2 b.xl b.ys b.L∧IsLL B'_2 [.i64] b.xa b.za b.A→∀(_ _ _ _ _ _ _ _ _ _ _ _ _ _ _ _ _ _ _ _ _ _ _ _ _ _ _ _ _ _ _ _ _ _ _ _ _ _ _ _ _ _ _ _ _ _ _ _ _ _ _ _ _ _ _ _ _ _ _ _ _ _ _ _ _ _ _ _ _ _ _ _ _ _ _ _ _:Value),Ob (IsLst B'_2 b.xa b.A.length 1 (llElem [.i64] b.za b.A))∧((↑b.k:Int) < (↑b.A.length:Int)→Ob (IsLst B'_2 b.xs (b.S.length) 6 (Rv.elemOf I6 b.S))∧Ob (IsLst B'_2 b.xl b.L.length 1 (llElem I2 b.ys b.L))∧Ob (IsLst B'_2 b.xa b.A.length 1 (llElem [.i64] b.za b.A))∧Ob ((0:Int)≤(↑b.k:Int)∧b.k < b.A.length∧IsLst B'_2 b.xa b.A.length 1 (llElem [.i64] b.za b.A))∧Ob (IsLst B'_2 b.xa b.A.length 1 (llElem [.i64] b.za b.A)∧b.k < b.A.length)∧Ob (IsLst B'_2 b.xa b.A.length 1 (llElem [.i64] b.za b.A)∧b.k < b.A.length)∧Ob (IsLst B'_2 (b.za b.k) (b.A.getD b.k []).length 1 (Rv.elemOf [.i64] (b.A.getD b.k [])))∧∃(l:List (List Int)),Ob (IsLst B'_2 b.xs (b.S.length) 6 (Rv.elemOf I6 b.S)∧l.length=b.S.length∧(∀r∈l,r.length=6)∧∀(d:Nat),d < b.S.length→Rv.elemOf I6 b.S d=Rv.elemOf I6 l d)∧∃(R_2:List (List (List Int))),∃(ys_2:Nat→RV),Ob (R_2.length=b.L.length∧(∀(d:Nat),d < b.L.length→llElem I2 b.ys b.L d=llElem I2 ys_2 R_2 d)∧IsLL B'_2 I2 b.xl ys_2 R_2)∧∃(j:List (List Int)),Ob (IsLst B'_2 (b.za b.k) (b.A.getD b.k []).length 1 (Rv.elemOf [.i64] (b.A.getD b.k []))∧j.length=(b.A.getD b.k []).length∧(∀r∈j,r.length=1)∧∀(d:Nat),d < (b.A.getD b.k []).length→Rv.elemOf [.i64] (b.A.getD b.k []) d=Rv.elemOf [.i64] j d)∧Ob (F_Bound.pre ([Dat.z b.st,Dat.z b.en,Dat.z b.ta,Dat.z b.pr,Dat.z b.ba,Dat.l l,Dat.ll R_2]++[Dat.l j]))∧(¬bndE b.st b.en b.ta b.ba l R_2 j=(0:Int)→Ob (IsLst B'_2 b.xs (b.S.length) 6 (Rv.elemOf I6 b.S))∧Ob (IsLst B'_2 b.xl b.L.length 1 (llElem I2 b.ys b.L))∧Ob (IsLst B'_2 b.xa b.A.length 1 (llElem [.i64] b.za b.A))∧Ob ((0:Int)≤(↑b.k:Int)∧b.k < b.A.length∧IsLst B'_2 b.xa b.A.length 1 (llElem [.i64] b.za b.A))∧Ob (IsLst B'_2 b.xa b.A.length 1 (llElem [.i64] b.za b.A)∧b.k < b.A.length)∧Ob (IsLst B'_2 b.xa b.A.length 1 (llElem [.i64] b.za b.A)∧b.k < b.A.length)∧Ob (IsLst B'_2 (b.za b.k) (b.A.getD b.k []).length 1 (Rv.elemOf [.i64] (b.A.getD b.k [])))∧∃(f:List (List Int)),Ob (IsLst B'_2 b.xs (b.S.length) 6 (Rv.elemOf I6 b.S)∧f.length=b.S.length∧(∀r∈f,r.length=6)∧∀(d:Nat),d < b.S.length→Rv.elemOf I6 b.S d=Rv.elemOf I6 f d)∧∃(R_3:List (List (List Int))),∃(ys_3:Nat→RV),Ob (R_3.length=b.L.length∧(∀(d:Nat),d < b.L.length→llElem I2 b.ys b.L d=llElem I2 ys_3 R_3 d)∧IsLL B'_2 I2 b.xl ys_3 R_3)∧∃(e:List (List Int)),Ob (IsLst B'_2 (b.za b.k) (b.A.getD b.k []).length 1 (Rv.elemOf [.i64] (b.A.getD b.k []))∧e.length=(b.A.getD b.k []).length∧(∀r∈e,r.length=1)∧∀(d:Nat),d < (b.A.getD b.k []).length→Rv.elemOf [.i64] (b.A.getD b.k []) d=Rv.elemOf [.i64] e d)∧Ob (F_earns.pre ([Dat.z b.st,Dat.z b.en,Dat.z b.ta,Dat.z b.pr,Dat.z b.ba,Dat.l f,Dat.ll R_3]++[Dat.l e]))∧(runE b.st b.en b.ta b.ba f R_3 e=(0:Int)→False)∧(¬runE b.st b.en b.ta b.ba f R_3 e=(0:Int)→Ob (InR .i64 ((↑b.k:Int)+(1:Int)))∧∃(c:HbS),Ob ((HbI c∧IsLst B'_2 c.xs (List.length c.S) 6 (Rv.elemOf I6 c.S)∧IsLL B'_2 I2 c.xl c.ys c.L∧IsLL B'_2 [.i64] c.xa c.za c.A)∧(1000:Nat)-c.k < 1000-b.k)∧Ob (SV.lst b.xa b.A.length 1 (llElem [.i64] b.za b.A)=SV.lst c.xa c.A.length 1 (llElem [.i64] c.za c.A))∧Ob ((↑b.k:Int)+(1:Int)=(↑c.k:Int))∧Ob (b.st=c.st)∧Ob (b.en=c.en)∧Ob (b.ta=c.ta)∧Ob (b.pr=c.pr)∧Ob (b.ba=c.ba)∧Ob (SV.lst b.xs (b.S.length) 6 (Rv.elemOf I6 b.S)=SV.lst c.xs (List.length c.S) 6 (Rv.elemOf I6 c.S))∧Ob (SV.lst b.xl b.L.length 1 (llElem I2 b.ys b.L)=SV.lst c.xl c.L.length 1 (llElem I2 c.ys c.L))∧Ob (b.a=c.a)∧Ob (IsLst B'_2 c.xa c.A.length 1 (llElem [.i64] c.za c.A))∧Ob (IsLst B'_2 c.xs (List.length c.S) 6 (Rv.elemOf I6 c.S))∧Ob (IsLst B'_2 c.xl c.L.length 1 (llElem I2 c.ys c.L))∧True))∧(¬¬bndE b.st b.en b.ta b.ba l R_2 j=(0:Int)→(∃(a:HbS),Ob (HbJ a∧(↑b.k:Int)=(↑a.k:Int)∧IsLst B'_2 a.xs (a.S.length) 6 (Rv.elemOf I6 a.S)∧IsLL B'_2 I2 a.xl a.ys a.L∧IsLL B'_2 [.i64] a.xa a.za a.A)∧Ob (SV.lst b.xa b.A.length 1 (llElem [.i64] b.za b.A)=SV.lst a.xa a.A.length 1 (llElem [.i64] a.za a.A))∧Ob ((↑b.k:Int)=(↑b.k:Int))∧Ob (z0 (bndE b.st b.en b.ta b.ba l R_2 j) (bndV b.st b.pr b.ba l R_2 j j.length)=z0 (bndE a.st a.en a.ta a.ba a.S a.L (a.A.getD a.k [])) (bndV a.st a.pr a.ba a.S a.L (a.A.getD a.k []) (List.length (a.A.getD a.k []))))∧Ob ((0:Int)=(↑a.j:Int))∧Ob (b.st=a.st)∧Ob (b.en=a.en)∧Ob (b.ta=a.ta)∧Ob (b.pr=a.pr)∧Ob (b.ba=a.ba)∧Ob (SV.lst b.xs (b.S.length) 6 (Rv.elemOf I6 b.S)=SV.lst a.xs (a.S.length) 6 (Rv.elemOf I6 a.S))∧Ob (SV.lst b.xl b.L.length 1 (llElem I2 b.ys b.L)=SV.lst a.xl a.L.length 1 (llElem I2 a.ys a.L))∧Ob (b.a=a.a)∧Ob (IsLst B'_2 a.xa a.A.length 1 (llElem [.i64] a.za a.A))∧Ob (IsLst B'_2 a.xs (a.S.length) 6 (Rv.elemOf I6 a.S))∧Ob (IsLst B'_2 a.xl a.L.length 1 (llElem I2 a.ys a.L))∧True)∧∀(B'_3:RW),Grow B'_2 B'_3→∀(a:HbS),HbJ a∧(↑b.k:Int)=(↑a.k:Int)∧IsLst B'_3 a.xs (a.S.length) 6 (Rv.elemOf I6 a.S)∧IsLL B'_3 I2 a.xl a.ys a.L∧IsLL B'_3 [.i64] a.xa a.za a.A→∀(_ _ _ _ _ _ _ _ _ _ _ _ _ _ _ _ _ _ _ _ _ _ _ _ _ _ _ _ _ _ _ _ _ _ _ _ _ _ _ _ _ _ _ _ _ _ _ _ _ _ _ _ _ _ _ _ _ _ _ _ _ _ _ _ _ _ _ _ _ _ _ _ _ _ _:Value),Ob (IsLst B'_3 a.xa a.A.length 1 (llElem [.i64] a.za a.A))∧((↑a.j:Int) < (↑a.A.length:Int)→Ob (IsLst B'_3 a.xs (a.S.length) 6 (Rv.elemOf I6 a.S))∧Ob (IsLst B'_3 a.xl a.L.length 1 (llElem I2 a.ys a.L))∧Ob (IsLst B'_3 a.xa a.A.length 1 (llElem [.i64] a.za a.A))∧Ob ((0:Int)≤(↑a.j:Int)∧a.j < a.A.length∧IsLst B'_3 a.xa a.A.length 1 (llElem [.i64] a.za a.A))∧Ob (IsLst B'_3 a.xa a.A.length 1 (llElem [.i64] a.za a.A)∧a.j < a.A.length)∧Ob (IsLst B'_3 a.xa a.A.length 1 (llElem [.i64] a.za a.A)∧a.j < a.A.length)∧Ob (IsLst B'_3 (a.za a.j) (a.A.getD a.j []).length 1 (Rv.elemOf [.i64] (a.A.getD a.j [])))∧∃(f:List (List Int)),Ob (IsLst B'_3 a.xs (a.S.length) 6 (Rv.elemOf I6 a.S)∧f.length=a.S.length∧(∀r∈f,r.length=6)∧∀(d:Nat),d < a.S.length→Rv.elemOf I6 a.S d=Rv.elemOf I6 f d)∧∃(R_3:List (List (List Int))),∃(ys_3:Nat→RV),Ob (R_3.length=a.L.length∧(∀(d:Nat),d < a.L.length→llElem I2 a.ys a.L d=llElem I2 ys_3 R_3 d)∧IsLL B'_3 I2 a.xl ys_3 R_3)∧∃(e:List (List Int)),Ob (IsLst B'_3 (a.za a.j) (a.A.getD a.j []).length 1 (Rv.elemOf [.i64] (a.A.getD a.j []))∧e.length=(a.A.getD a.j []).length∧(∀r∈e,r.length=1)∧∀(d:Nat),d < (a.A.getD a.j []).length→Rv.elemOf [.i64] (a.A.getD a.j []) d=Rv.elemOf [.i64] e d)∧Ob (F_earns.pre ([Dat.z a.st,Dat.z a.en,Dat.z a.ta,Dat.z a.pr,Dat.z a.ba,Dat.l f,Dat.ll R_3]++[Dat.l e]))∧(runE a.st a.en a.ta a.ba f R_3 e=(0:Int)→(z0 (bndE a.st a.en a.ta a.ba a.S a.L (a.A.getD a.k [])) (bndV a.st a.pr a.ba a.S a.L (a.A.getD a.k []) (List.length (a.A.getD a.k []))) < z0 (runE a.st a.en a.ta a.ba f R_3 e) (worthK f e e.length-a.pr*homeF f R_3 e e.length)→Ob (IsLst B'_3 a.xa a.A.length 1 (llElem [.i64] a.za a.A))∧Ob ((0:Int)≤(↑a.j:Int)∧a.j < a.A.length∧IsLst B'_3 a.xa a.A.length 1 (llElem [.i64] a.za a.A))∧Ob (IsLst B'_3 a.xa a.A.length 1 (llElem [.i64] a.za a.A)∧a.j < a.A.length)∧Ob (IsLst B'_3 a.xa a.A.length 1 (llElem [.i64] a.za a.A)∧a.j < a.A.length)∧Ob (IsLst B'_3 (a.za a.j) (a.A.getD a.j []).length 1 (Rv.elemOf [.i64] (a.A.getD a.j [])))∧Ob (IsLst B'_3 a.xa a.A.length 1 (llElem [.i64] a.za a.A))∧Ob ((0:Int)≤(↑b.k:Int)∧b.k < a.A.length∧IsLst B'_3 a.xa a.A.length 1 (llElem [.i64] a.za a.A))∧Ob (IsLst B'_3 a.xa a.A.length 1 (llElem [.i64] a.za a.A)∧b.k < a.A.length)∧Ob (IsLst B'_3 a.xa a.A.length 1 (llElem [.i64] a.za a.A)∧b.k < a.A.length)∧Ob (IsLst B'_3 (a.za b.k) (a.A.getD b.k []).length 1 (Rv.elemOf [.i64] (a.A.getD b.k [])))∧∃(k:List (List Int)),Ob (IsLst B'_3 (a.za a.j) (a.A.getD a.j []).length 1 (Rv.elemOf [.i64] (a.A.getD a.j []))∧k.length=(a.A.getD a.j []).length∧(∀r∈k,r.length=1)∧∀(d:Nat),d < (a.A.getD a.j []).length→Rv.elemOf [.i64] (a.A.getD a.j []) d=Rv.elemOf [.i64] k d)∧∃(i:List (List Int)),Ob (IsLst B'_3 (a.za b.k) (a.A.getD b.k []).length 1 (Rv.elemOf [.i64] (a.A.getD b.k []))∧i.length=(a.A.getD b.k []).length∧(∀r∈i,r.length=1)∧∀(d:Nat),d < (a.A.getD b.k []).length→Rv.elemOf [.i64] (a.A.getD b.k []) d=Rv.elemOf [.i64] i d)∧Ob (k.length≤1000000∧i.length≤1000000)∧((i.length≤k.length∧∀(o:Nat),o < i.length→cell k o 0=cell i o 0)→False)∧(¬(i.length≤k.length∧∀(o:Nat),o < i.length→cell k o 0=cell i o 0)→Ob (InR .i64 ((↑a.j:Int)+(1:Int)))∧∃(c:HbS),Ob ((HbJ c∧(↑b.k:Int)=(↑c.k:Int)∧IsLst B'_3 c.xs (List.length c.S) 6 (Rv.elemOf I6 c.S)∧IsLL B'_3 I2 c.xl c.ys c.L∧IsLL B'_3 [.i64] c.xa c.za c.A)∧(1000:Nat)-c.j < 1000-a.j)∧Ob (SV.lst a.xa a.A.length 1 (llElem [.i64] a.za a.A)=SV.lst c.xa c.A.length 1 (llElem [.i64] c.za c.A))∧Ob ((↑b.k:Int)=(↑b.k:Int))∧Ob (z0 (bndE a.st a.en a.ta a.ba a.S a.L (a.A.getD a.k [])) (bndV a.st a.pr a.ba a.S a.L (a.A.getD a.k []) (List.length (a.A.getD a.k [])))=z0 (bndE c.st c.en c.ta c.ba c.S c.L (c.A.getD c.k [])) (bndV c.st c.pr c.ba c.S c.L (c.A.getD c.k []) (List.length (c.A.getD c.k []))))∧Ob ((↑a.j:Int)+(1:Int)=(↑c.j:Int))∧Ob (a.st=c.st)∧Ob (a.en=c.en)∧Ob (a.ta=c.ta)∧Ob (a.pr=c.pr)∧Ob (a.ba=c.ba)∧Ob (SV.lst a.xs (a.S.length) 6 (Rv.elemOf I6 a.S)=SV.lst c.xs (List.length c.S) 6 (Rv.elemOf I6 c.S))∧Ob (SV.lst a.xl a.L.length 1 (llElem I2 a.ys a.L)=SV.lst c.xl c.L.length 1 (llElem I2 c.ys c.L))∧Ob (a.a=c.a)∧Ob (IsLst B'_3 c.xa c.A.length 1 (llElem [.i64] c.za c.A))∧Ob (IsLst B'_3 c.xs (List.length c.S) 6 (Rv.elemOf I6 c.S))∧Ob (IsLst B'_3 c.xl c.L.length 1 (llElem I2 c.ys c.L))∧True))∧(¬z0 (bndE a.st a.en a.ta a.ba a.S a.L (a.A.getD a.k [])) (bndV a.st a.pr a.ba a.S a.L (a.A.getD a.k []) (List.length (a.A.getD a.k []))) < z0 (runE a.st a.en a.ta a.ba f R_3 e) (worthK f e e.length-a.pr*homeF f R_3 e e.length)→Ob (InR .i64 ((↑a.j:Int)+(1:Int)))∧∃(c:HbS),Ob ((HbJ c∧(↑b.k:Int)=(↑c.k:Int)∧IsLst B'_3 c.xs (List.length c.S) 6 (Rv.elemOf I6 c.S)∧IsLL B'_3 I2 c.xl c.ys c.L∧IsLL B'_3 [.i64] c.xa c.za c.A)∧(1000:Nat)-c.j < 1000-a.j)∧Ob (SV.lst a.xa a.A.length 1 (llElem [.i64] a.za a.A)=SV.lst c.xa c.A.length 1 (llElem [.i64] c.za c.A))∧Ob ((↑b.k:Int)=(↑b.k:Int))∧Ob (z0 (bndE a.st a.en a.ta a.ba a.S a.L (a.A.getD a.k [])) (bndV a.st a.pr a.ba a.S a.L (a.A.getD a.k []) (List.length (a.A.getD a.k [])))=z0 (bndE c.st c.en c.ta c.ba c.S c.L (c.A.getD c.k [])) (bndV c.st c.pr c.ba c.S c.L (c.A.getD c.k []) (List.length (c.A.getD c.k []))))∧Ob ((↑a.j:Int)+(1:Int)=(↑c.j:Int))∧Ob (a.st=c.st)∧Ob (a.en=c.en)∧Ob (a.ta=c.ta)∧Ob (a.pr=c.pr)∧Ob (a.ba=c.ba)∧Ob (SV.lst a.xs (a.S.length) 6 (Rv.elemOf I6 a.S)=SV.lst c.xs (List.length c.S) 6 (Rv.elemOf I6 c.S))∧Ob (SV.lst a.xl a.L.length 1 (llElem I2 a.ys a.L)=SV.lst c.xl c.L.length 1 (llElem I2 c.ys c.L))∧Ob (a.a=c.a)∧Ob (IsLst B'_3 c.xa c.A.length 1 (llElem [.i64] c.za c.A))∧Ob (IsLst B'_3 c.xs (List.length c.S) 6 (Rv.elemOf I6 c.S))∧Ob (IsLst B'_3 c.xl c.L.length 1 (llElem I2 c.ys c.L))∧True))∧(¬runE a.st a.en a.ta a.ba f R_3 e=(0:Int)→Ob (InR .i64 ((↑a.j:Int)+(1:Int)))∧∃(c:HbS),Ob ((HbJ c∧(↑b.k:Int)=(↑c.k:Int)∧IsLst B'_3 c.xs (List.length c.S) 6 (Rv.elemOf I6 c.S)∧IsLL B'_3 I2 c.xl c.ys c.L∧IsLL B'_3 [.i64] c.xa c.za c.A)∧(1000:Nat)-c.j < 1000-a.j)∧Ob (SV.lst a.xa a.A.length 1 (llElem [.i64] a.za a.A)=SV.lst c.xa c.A.length 1 (llElem [.i64] c.za c.A))∧Ob ((↑b.k:Int)=(↑b.k:Int))∧Ob (z0 (bndE a.st a.en a.ta a.ba a.S a.L (a.A.getD a.k [])) (bndV a.st a.pr a.ba a.S a.L (a.A.getD a.k []) (List.length (a.A.getD a.k [])))=z0 (bndE c.st c.en c.ta c.ba c.S c.L (c.A.getD c.k [])) (bndV c.st c.pr c.ba c.S c.L (c.A.getD c.k []) (List.length (c.A.getD c.k []))))∧Ob ((↑a.j:Int)+(1:Int)=(↑c.j:Int))∧Ob (a.st=c.st)∧Ob (a.en=c.en)∧Ob (a.ta=c.ta)∧Ob (a.pr=c.pr)∧Ob (a.ba=c.ba)∧Ob (SV.lst a.xs (a.S.length) 6 (Rv.elemOf I6 a.S)=SV.lst c.xs (List.length c.S) 6 (Rv.elemOf I6 c.S))∧Ob (SV.lst a.xl a.L.length 1 (llElem I2 a.ys a.L)=SV.lst c.xl c.L.length 1 (llElem I2 c.ys c.L))∧Ob (a.a=c.a)∧Ob (IsLst B'_3 c.xa c.A.length 1 (llElem [.i64] c.za c.A))∧Ob (IsLst B'_3 c.xs (List.length c.S) 6 (Rv.elemOf I6 c.S))∧Ob (IsLst B'_3 c.xl c.L.length 1 (llElem I2 c.ys c.L))∧True))∧(¬(↑a.j:Int) < (↑a.A.length:Int)→Ob (InR .i64 ((↑b.k:Int)+(1:Int)))∧∃(c:HbS),Ob ((HbI c∧IsLst B'_3 c.xs (List.length c.S) 6 (Rv.elemOf I6 c.S)∧IsLL B'_3 I2 c.xl c.ys c.L∧IsLL B'_3 [.i64] c.xa c.za c.A)∧(1000:Nat)-c.k < 1000-b.k)∧Ob (SV.lst a.xa a.A.length 1 (llElem [.i64] a.za a.A)=SV.lst c.xa c.A.length 1 (llElem [.i64] c.za c.A))∧Ob ((↑b.k:Int)+(1:Int)=(↑c.k:Int))∧Ob (a.st=c.st)∧Ob (a.en=c.en)∧Ob (a.ta=c.ta)∧Ob (a.pr=c.pr)∧Ob (a.ba=c.ba)∧Ob (SV.lst a.xs (a.S.length) 6 (Rv.elemOf I6 a.S)=SV.lst c.xs (List.length c.S) 6 (Rv.elemOf I6 c.S))∧Ob (SV.lst a.xl a.L.length 1 (llElem I2 a.ys a.L)=SV.lst c.xl c.L.length 1 (llElem I2 c.ys c.L))∧Ob (a.a=c.a)∧Ob (IsLst B'_3 c.xa c.A.length 1 (llElem [.i64] c.za c.A))∧Ob (IsLst B'_3 c.xs (List.length c.S) 6 (Rv.elemOf I6 c.S))∧Ob (IsLst B'_3 c.xl c.L.length 1 (llElem I2 c.ys c.L))∧True)))∧(¬(↑b.k:Int) < (↑b.A.length:Int)→Ob (hasTabs [] B'_2)∧True)
set_option linter.unusedSimpArgs false in
set_option maxRecDepth 4000 in
set_option maxHeartbeats 2000000 in
theorem v_law:V_law:=by
 unfold V_law I2 I6 LsA RwB
 intro B ht x N hx hox hr hN
 simp only [Ob_iff,and_true,true_and,implies_true,Classical.not_not,not_true_eq_false,F_TideOf,F_TourOf,F_Plans,List.cons_append,List.nil_append,not_false_eq_true,true_implies,false_implies]
 refine⟨N,⟨hx,rfl,hr,fun i hi=>rfl⟩,hN,by decide,?_⟩
 intro a B1 g1 st en ta pr ba xs S hS hoS hSr xl ys L hL hoL ⟨hst,hT⟩
 have hen:=hT.en
 have hn:=hT.n
 refine⟨hx,hx,hS,by omega,hS,hL.1,?_⟩
 intro B2 g2 xa za A hA hoA ⟨hAl,hAm⟩
 have hT8:TourOk 8 en ta pr ba S L:=hT.monoB (by decide)
 have hTab:=(ht.up g1).up g2
 refine⟨hx.up g1,hx.up g1,hS,hL.1,hS,⟨⟨0,0,a,st,en,ta,pr,ba,S,L,A,xs,xl,xa,ys,za⟩,⟨⟨Nat.zero_le _,hAl,hAm,⟨hst.1,by simp only; omega⟩,hT8⟩,hS.up g2,hL.up g2,hA⟩,rfl,rfl,rfl,rfl,rfl,rfl,rfl,rfl,rfl,rfl,hA.1,hS.up g2,(hL.up g2).1⟩,?_⟩
 clear hS hL hA hSr hT8 hT hst hAl hAm
 intro B3 gg v hv
 obtain⟨hv,hS,hL,hA⟩:=hv
 intros
 have hvn:=hv.n
 have hst:=hv.st
 have hSr:=hv.t.s.row
 refine⟨hA.1,fun h1=>?_,fun _=>hTab.up gg⟩
 have hk:v.k < v.A.length:=by omega
 have hP:=(hA.2 v.k hk).1
 have hPr:=hA.rows v.k
 refine⟨hS,hL.1,hA.1,⟨Int.natCast_nonneg _,hk,hA.1⟩,⟨hA.1,hk⟩,⟨hA.1,hk⟩,hP,v.S,⟨hS,rfl,hSr,fun i hi=>rfl⟩,v.L,v.ys,⟨rfl,fun i hi=>rfl,hL⟩,v.A.getD v.k [],⟨hP,rfl,hPr,fun i hi=>rfl⟩,⟨⟨hv.st.1,by omega⟩,hv.t,hv.m _⟩,fun h2=>?_,fun h2=>?_⟩
 ·exact⟨hS,hL.1,hA.1,⟨Int.natCast_nonneg _,hk,hA.1⟩,⟨hA.1,hk⟩,⟨hA.1,hk⟩,hP,v.S,⟨hS,rfl,hSr,fun i hi=>rfl⟩,v.L,v.ys,⟨rfl,fun i hi=>rfl,hL⟩,v.A.getD v.k [],⟨hP,rfl,hPr,fun i hi=>rfl⟩,⟨⟨hv.st.1,by omega⟩,hv.t,hv.m _⟩,fun h3=>h2 (bnd_of_run hv.st hv.t h3),fun h3=>⟨by simp only [InR]; omega,⟨v.k+1,0,v.a,v.st,v.en,v.ta,v.pr,v.ba,v.S,v.L,v.A,v.xs,v.xl,v.xa,v.ys,v.za⟩,⟨⟨⟨hk,hv.n,hv.m,hv.st,hv.t⟩,hS,hL,hA⟩,by simp only; omega⟩,rfl,rfl,rfl,rfl,rfl,rfl,rfl,rfl,rfl,rfl,hA.1,hS,hL.1⟩⟩
 ·refine⟨⟨⟨v.k,0,v.a,v.st,v.en,v.ta,v.pr,v.ba,v.S,v.L,v.A,v.xs,v.xl,v.xa,v.ys,v.za⟩,⟨⟨⟨hv.k,hv.n,hv.m,hv.st,hv.t⟩,hk,Nat.zero_le _,h2⟩,rfl,hS,hL,hA⟩,rfl,rfl,rfl,rfl,rfl,rfl,rfl,rfl,rfl,rfl,rfl,hA.1,hS,hL.1⟩,?_⟩
  intro B4 g4 u hu
  obtain⟨hu,hku,hS3,hL3,hA3⟩:=hu
  intros
  have hku:v.k=u.k:=by omega
  rw [hku]
  have hun:=hu.n
  have hust:=hu.st
  have hSr3:=hu.t.s.row
  have huk:=hu.kl
  refine⟨hA3.1,fun h3=>?_,fun h3=>?_⟩
  ·have hj:u.j < u.A.length:=by omega
   have hQ:=(hA3.2 u.j hj).1
   have hQr:=hA3.rows u.j
   have hP3:=(hA3.2 u.k huk).1
   have hPr3:=hA3.rows u.k
   have i1:InR .i64 ((u.j:Int)+1):=by simp only [InR]; omega
   have hmu:1000-(u.j+1) < 1000-u.j:=by omega
   have hJ:HbJ ⟨u.k,u.j+1,u.a,u.st,u.en,u.ta,u.pr,u.ba,u.S,u.L,u.A,u.xs,u.xl,u.xa,u.ys,u.za⟩:=⟨⟨hu.k,hu.n,hu.m,hu.st,hu.t⟩,hu.kl,hj,hu.e⟩
   have nk:(0:Int)≤(u.k:Int):=Int.natCast_nonneg _
   have nj:(0:Int)≤(u.j:Int):=Int.natCast_nonneg _
   have hm1:(u.A.getD u.j []).length≤1000000:=Nat.le_trans (hu.m _) (by decide)
   have hm2:(u.A.getD u.k []).length≤1000000:=Nat.le_trans (hu.m _) (by decide)
   exact⟨hS3,hL3.1,hA3.1,⟨nj,hj,hA3.1⟩,⟨hA3.1,hj⟩,⟨hA3.1,hj⟩,hQ,u.S,⟨hS3,rfl,hSr3,fun i hi=>rfl⟩,u.L,u.ys,⟨rfl,fun i hi=>rfl,hL3⟩,u.A.getD u.j [],⟨hQ,rfl,hQr,fun i hi=>rfl⟩,⟨⟨hu.st.1,by omega⟩,hu.t,hu.m _⟩,fun h4=>⟨fun h5=>⟨hA3.1,⟨nj,hj,hA3.1⟩,⟨hA3.1,hj⟩,⟨hA3.1,hj⟩,hQ,hA3.1,⟨nk,huk,hA3.1⟩,⟨hA3.1,huk⟩,⟨hA3.1,huk⟩,hP3,u.A.getD u.j [],⟨hQ,rfl,hQr,fun i hi=>rfl⟩,u.A.getD u.k [],⟨hP3,rfl,hPr3,fun i hi=>rfl⟩,⟨hm1,hm2⟩,fun h6=>bnd_ge hu.st hu.t hu.e h4 h6 h5,fun h6=>⟨i1,⟨u.k,u.j+1,u.a,u.st,u.en,u.ta,u.pr,u.ba,u.S,u.L,u.A,u.xs,u.xl,u.xa,u.ys,u.za⟩,⟨⟨hJ,rfl,hS3,hL3,hA3⟩,hmu⟩,rfl,rfl,rfl,rfl,rfl,rfl,rfl,rfl,rfl,rfl,rfl,hA3.1,hS3,hL3.1⟩⟩,fun h5=>⟨i1,⟨u.k,u.j+1,u.a,u.st,u.en,u.ta,u.pr,u.ba,u.S,u.L,u.A,u.xs,u.xl,u.xa,u.ys,u.za⟩,⟨⟨hJ,rfl,hS3,hL3,hA3⟩,hmu⟩,rfl,rfl,rfl,rfl,rfl,rfl,rfl,rfl,rfl,rfl,rfl,hA3.1,hS3,hL3.1⟩⟩,fun h4=>⟨i1,⟨u.k,u.j+1,u.a,u.st,u.en,u.ta,u.pr,u.ba,u.S,u.L,u.A,u.xs,u.xl,u.xa,u.ys,u.za⟩,⟨⟨hJ,rfl,hS3,hL3,hA3⟩,hmu⟩,rfl,rfl,rfl,rfl,rfl,rfl,rfl,rfl,rfl,rfl,rfl,hA3.1,hS3,hL3.1⟩⟩
  ·exact⟨by simp only [InR]; omega,⟨u.k+1,0,u.a,u.st,u.en,u.ta,u.pr,u.ba,u.S,u.L,u.A,u.xs,u.xl,u.xa,u.ys,u.za⟩,⟨⟨⟨huk,hu.n,hu.m,hu.st,hu.t⟩,hS3,hL3,hA3⟩,by simp only; omega⟩,rfl,rfl,rfl,rfl,rfl,rfl,rfl,rfl,rfl,rfl,hA3.1,hS3,hL3.1⟩
theorem e_law:V_law=needLG P [F_Begins] [F_TideOf,F_Bound,F_earns] [F_TourOf,F_Plans] 10 ([]:Tabs) A_law F_law:=by kernel_rfl
theorem n_law:Ob (needLG P [F_Begins] [F_TideOf,F_Bound,F_earns] [F_TourOf,F_Plans] 10 ([]:Tabs) A_law F_law):=by
 rw [← e_law]
 exact⟨v_law⟩
theorem cg_law:∀F∈[F_TourOf,F_Plans],F.Ok P:=by
 intro F h
 simp only [List.mem_cons,List.not_mem_nil,or_false]at h
 rcases h with rfl | rfl
 ·exact TourOf_ok
 ·exact Plans_ok
theorem l_law:(([F_Begins]:List Fn0).all fun G=>!Nat.beq G.g 10)=true:=rfl
theorem le_law:([F_TideOf,F_Bound,F_earns].all fun G=>!Nat.beq G.g 10)=true:=rfl
theorem c_law:∀F∈([F_Begins]:List Fn0),F.Ok P:=by
 intro F h
 simp only [List.mem_cons,List.not_mem_nil,or_false]at h
 rcases h with rfl
 ·exact Begins_ok
theorem ce_law:∀F∈[F_TideOf,F_Bound,F_earns],F.Ok P:=by
 intro F h
 simp only [List.mem_cons,List.not_mem_nil,or_false]at h
 rcases h with rfl | rfl | rfl
 ·exact TideOf_ok
 ·exact Bound_ok
 ·exact earns_ok
end Go.Proofs.Ytkdehhcadhainaa.Sy
