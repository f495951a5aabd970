import Derived.Test.YtoagogieidfagaaSyP4
import Derived.Test.YtoagogieidfagaaGrM
import Derived.Test.YtoagogieidfagaaStM
import Derived.Test.YtoagogieidfagaaKtT
import Derived.Test.YtoagogieidfagaaSyP2
import Derived.Test.YtoagogieidfagaaKbA
import Derived.Test.YtoagogieidfagaaKbB
import Derived.Test.YtoagogieidfagaaKbC
import Derived.Test.YtoagogieidfagaaKbD
import Derived.Test.YtoagogieidfagaaKbE
import Derived.KernelRfl
import Derived.Test.YtoagogieidfagaaProg
namespace Go.Proofs.Ytoagogieidfagaa.Sy
open Go Go.Rv
set_option linter.unusedVariables false
structure GcS where
 k:Nat
 a:Int
 W:Int
 D:Int
 G:Int
 x0:Int
 row:Int
 yr:Int
 L:List Rows
 C:Rows
 xl:RV
 xc:RV
 ys:Nat→RV
structure GcI (v:GcS):Prop where
 k:v.k≤365
 b:BayOk 10 2 4 v.W v.D v.G v.L v.C
 x:0≤v.x0∧v.x0 < v.W
 r:0≤v.row∧v.row < v.D
 y:1≤v.yr∧v.yr≤20
theorem wishK_mod {L:List Rows} {C:Rows} {d1 d2 line row:Int} (h:d1.tmod 365=d2.tmod 365):∀k,wishK L C d1 line row k=wishK L C d2 line row k
 | 0=>rfl
 | k+1=>by
  have ih:=wishK_mod (L:=L) (C:=C) (line:=line) (row:=row) h k
  have e:custHit C d1 line row k↔custHit C d2 line row k:=by unfold custHit; rw [h]
  rcases Classical.em (custHit C d1 line row k)with q | q
  ·rw [wishK_hit q,wishK_hit (e.1 q),ih]
  ·rw [wishK_not q,wishK_not (fun p=>q (e.2 p)),ih]
theorem leftK_mod {W:Int} {L:List Rows} {C:Rows} {d1 d2 row:Int} (h:d1.tmod 365=d2.tmod 365):∀k,leftK W L C d1 row k=leftK W L C d2 row k
 | 0=>rfl
 | k+1=>by
  have ih:=leftK_mod (W:=W) (L:=L) (C:=C) (row:=row) h k
  rw [leftK,leftK,ih,wishK_mod h]
theorem holdK_mod {W:Int} {L:List Rows} {C:Rows} {d1 d2 x row:Int} (h:d1.tmod 365=d2.tmod 365):∀k,holdK W L C d1 x row k=holdK W L C d2 x row k
 | 0=>rfl
 | k+1=>by
  have ih:=holdK_mod (W:=W) (L:=L) (C:=C) (x:=x) (row:=row) h k
  rw [holdK,holdK,ih,leftK_mod h]
theorem hold_year {W:Int} {L:List Rows} {C:Rows} {x row y:Int} {k:Nat} (hy:1≤y∧y≤20) (hk:k < 365):hold W L C x row (y*365+k)=hold W L C x row k:=by
 refine holdK_mod ?_ _
 rw [Int.tmod_eq_emod_of_nonneg (by omega),Int.tmod_eq_emod_of_nonneg (by omega)]
 omega
theorem hold_before {W:Int} {L:List Rows} {C:Rows} {x row y:Int} (hy:1≤y∧y≤20):∀k:Nat,k≤365→hold W L C x row (y*365-1+k)=holdB W L C x row k
 | 0,_=>by
  refine holdK_mod ?_ _
  rw [Int.tmod_eq_emod_of_nonneg (by omega),Int.tmod_eq_emod_of_nonneg (by omega)]
  omega
 | k+1,hk=>by
  have e:y*365-1+((k+1:Nat):Int)=y*365+k:=by omega
  rw [e]
  exact hold_year hy (by omega)
theorem chL_split {W:Int} {L:List Rows} {C:Rows} {x row:Int} (k:Nat):∀d,∃T,chL W L C x row (k+d)=chL W L C x row k++T∧∀i,i < T.length→(k:Int)≤cell T i 0
 | 0=>⟨[],by rw [Nat.add_zero,List.append_nil],fun i hi=>absurd hi (Nat.not_lt_zero i)⟩
 | d+1=>by
  obtain⟨T,h1,h2⟩:=chL_split (W:=W) (L:=L) (C:=C) (x:=x) (row:=row) k d
  rcases Classical.em (hold W L C x row ((k+d:Nat):Int)=holdB W L C x row (k+d))with q | q
  ·exact⟨T,by rw [← Nat.add_assoc,chL_same q,h1],h2⟩
  ·refine⟨T++[[((k+d:Nat):Int)]],by rw [← Nat.add_assoc,chL_new q,h1,List.append_assoc],fun i hi=>?_⟩
   by_cases hiT:i < T.length
   ·rw [cell_appB hiT]; exact h2 i hiT
   ·have e:i=T.length:=by simp only [List.length_append,List.length_singleton]at hi; omega
    rw [e,cell_lastB]
    show(k:Int)≤((k+d:Nat):Int)
    omega
theorem cell_skip {R T:Rows} {c:Nat}:cell (R++T) R.length c=cell T 0 c:=by
 have e:(R++T).getD R.length []=T.getD 0 []:=by rw [List.getD_eq_getElem?_getD,List.getElem?_append_right (Nat.le_refl _),Nat.sub_self,← List.getD_eq_getElem?_getD]
 unfold cell
 rw [e]
theorem ch_new {W:Int} {L:List Rows} {C:Rows} {x row:Int} {k n:Nat} (hk:k < n) (h:¬ hold W L C x row k=holdB W L C x row k):(chL W L C x row k).length < (chL W L C x row n).length∧cell (chL W L C x row n) (chL W L C x row k).length 0=k:=by
 obtain⟨T,h1,_⟩:=chL_split (W:=W) (L:=L) (C:=C) (x:=x) (row:=row) (k+1) (n-(k+1))
 rw [show k+1+(n-(k+1))=n by omega,chL_new h]at h1
 rw [h1]
 refine⟨by simp only [List.length_append,List.length_singleton]; omega,?_⟩
 rw [List.append_assoc,cell_skip]
 rfl
theorem ch_same {W:Int} {L:List Rows} {C:Rows} {x row:Int} {k n:Nat} (hk:k < n) (h:hold W L C x row k=holdB W L C x row k) (hl:(chL W L C x row k).length < (chL W L C x row n).length):¬ cell (chL W L C x row n) (chL W L C x row k).length 0=k:=by
 obtain⟨T,h1,h2⟩:=chL_split (W:=W) (L:=L) (C:=C) (x:=x) (row:=row) (k+1) (n-(k+1))
 rw [show k+1+(n-(k+1))=n by omega,chL_same h]at h1
 rw [h1]at hl ⊢
 rw [cell_skip]
 simp only [List.length_append]at hl
 have:=h2 0 (by omega)
 omega
noncomputable def F_law:LawF:=⟨3,[.one (.l [.i64])],fun l=>match l with | [.l N]=>N.length≤9223372036854775807 | _=>False⟩
noncomputable def A_law:List SV→List Dat→Nat→List SV→AnG:=fun xs ds n ts=>match xs with
 | [.lst xz _ _ _]=>match ds with
  | [.l N]=>match n with
   | 10=>⟨GcS,fun v=>([none,none,none,none,some (SV.ptr ((1:Nat)) ((0:Nat))),some (.i .i64 v.x0),some (.i .i64 v.row),some (.i .i64 v.yr),some (.gsl 2 (chL v.W v.L v.C v.x0 v.row 365).length 1 true),none,some (.i .i64 (hold v.W v.L v.C v.x0 v.row (v.yr*365-1+v.k))),none,some (.i .i64 ((chL v.W v.L v.C v.x0 v.row v.k).length:Nat)),some (.i .i64 v.k)]++nN 87),fun v=>[.gr (chL v.W v.L v.C v.x0 v.row 365).length 1 (.fn (Rv.elemOf [.i64] (chL v.W v.L v.C v.x0 v.row 365))) .gr true,.cells [.i .i64 v.W,.i .i64 v.D,.i .i64 v.G,.lst v.xl v.L.length 1 (llElem [.i64] v.ys v.L),.lst v.xc v.C.length 6 (Rv.elemOf [.i64,.i64,.i64,.i64,.i64,.i64] v.C)] .ex,.cells [.i .u64 v.a] .ex],fun B v=>GcI v∧IsLL B [.i64] v.xl v.ys v.L∧IsLst B v.xc v.C.length 6 (Rv.elemOf [.i64,.i64,.i64,.i64,.i64,.i64] v.C),fun v=>365-v.k,0,[]⟩
   | _=>noAnG
  | _=>noAnG
 | _=>noAnG
def V_law:Prop:=
 ∀(B:RW),hasTabs [] B→∀(l:RV) (i:List (List Int)),IsLst B l i.length 1 (Rv.elemOf [.i64] i)→oneB l=true→(∀row∈i,row.length=1)→i.length≤9223372036854775807→RwB B l i.length 1 [.i64] i fun p=>Ob (F_TideOf.pre [Dat.l p])∧Ob ((1:Int)≤(10:Int)∧(10:Int)≤(40:Int)∧(1:Int)≤(2:Int)∧(2:Int)≤(40:Int)∧(1:Int)≤(4:Int)∧(4:Int)≤(40:Int))∧∀(e:Int) (B':RW),Grow B B'→∀(c f o:Int) (m:RV) (ys:Nat→RV) (R:List (List (List Int))),IsLL B' [.i64] m ys R→oneB m=true→∀(n:RV) (g:List (List Int)),IsLst B' n g.length 6 (Rv.elemOf I6 g)→oneB n=true→(∀row∈g,row.length=6)→BayOk (10:Int) (2:Int) (4:Int) c f o R g→LsA B l [.i64] i∧LsA B l [.i64] i∧Ob (F_Below.pre ([Dat.z e]++[Dat.z c]))∧Ob (F_Below.pre ([Dat.z (belowA e c)]++[Dat.z f]))∧Ob (F_From.pre ([Dat.z (belowA (belowA e c) f)]++[Dat.z (1:Int),Dat.z (20:Int)]))∧∃(R_1:List (List (List Int))),∃(ys_1:Nat→RV),Ob (R_1.length=R.length∧(∀(d:Nat),d < R.length→llElem [.i64] ys R d=llElem [.i64] ys_1 R_1 d)∧IsLL B' [.i64] m ys_1 R_1)∧∃(j:List (List Int)),Ob (IsLst B' n g.length 6 (Rv.elemOf I6 g)∧j.length=g.length∧(∀r∈j,r.length=6)∧∀(d:Nat),d < g.length→Rv.elemOf I6 g d=Rv.elemOf I6 j d)∧Ob (F_Changes.pre ([Dat.z c,Dat.z f,Dat.z o,Dat.ll R_1,Dat.l j]++[Dat.z (belowV e c),Dat.z (belowV (belowA e c) f)]))∧Ob (InR .i64 (((1:Int)+belowV (belowA (belowA e c) f) ((20:Int)-(1:Int)+(1:Int)))*(365:Int)))∧Ob (InR .i64 (((1:Int)+belowV (belowA (belowA e c) f) ((20:Int)-(1:Int)+(1:Int)))*(365:Int)-(1:Int)))∧∃(R_2:List (List (List Int))),∃(ys_2:Nat→RV),Ob (R_2.length=R.length∧(∀(d:Nat),d < R.length→llElem [.i64] ys R d=llElem [.i64] ys_2 R_2 d)∧IsLL B' [.i64] m ys_2 R_2)∧∃(k:List (List Int)),Ob (IsLst B' n g.length 6 (Rv.elemOf I6 g)∧k.length=g.length∧(∀r∈k,r.length=6)∧∀(d:Nat),d < g.length→Rv.elemOf I6 g d=Rv.elemOf I6 k d)∧Ob (F_Holder.pre ([Dat.z c,Dat.z f,Dat.z o,Dat.ll R_2,Dat.l k]++[Dat.z (((1:Int)+belowV (belowA (belowA e c) f) ((20:Int)-(1:Int)+(1:Int)))*(365:Int)-(1:Int)),Dat.z (belowV e c),Dat.z (belowV (belowA e c) f)]))∧(¬¬(0:Int)=(0:Int)→(¬(0:Int)=(0:Int)→False)∧(¬¬(0:Int)=(0:Int)→(∃(a:GcS),Ob (GcI a∧IsLL B' [.i64] a.xl a.ys a.L∧IsLst B' a.xc (a.C.length) 6 (Rv.elemOf I6 a.C))∧Ob (belowV e c=a.x0)∧Ob (belowV (belowA e c) f=a.row)∧Ob ((1:Int)+belowV (belowA (belowA e c) f) ((20:Int)-(1:Int)+(1:Int))=a.yr)∧Ob (List.length (chL c R_1 j (belowV e c) (belowV (belowA e c) f) 365)=List.length (chL a.W a.L a.C a.x0 a.row 365))∧Ob ((↑(hold c R_2 k (belowV e c) (belowV (belowA e c) f) (((1:Int)+belowV (belowA (belowA e c) f) ((20:Int)-(1:Int)+(1:Int)))*(365:Int)-(1:Int))):Int)=(↑(hold a.W a.L a.C a.x0 a.row (a.yr*(365:Int)-(1:Int)+(↑a.k:Int))):Int))∧Ob ((0:Int)=(↑(List.length (chL a.W a.L a.C a.x0 a.row a.k)):Int))∧Ob ((0:Int)=(↑a.k:Int))∧EqR [.i64] (chL c R_1 j (belowV e c) (belowV (belowA e c) f) 365) (chL a.W a.L a.C a.x0 a.row 365)∧Ob (c=a.W)∧Ob (f=a.D)∧Ob (o=a.G)∧Ob (SV.lst m R.length 1 (llElem [.i64] ys R)=SV.lst a.xl a.L.length 1 (llElem [.i64] a.ys a.L))∧Ob (SV.lst n g.length 6 (Rv.elemOf I6 g)=SV.lst a.xc (a.C.length) 6 (Rv.elemOf I6 a.C))∧Ob (belowA (belowA (belowA e c) f) ((20:Int)-(1:Int)+(1:Int))=a.a)∧PlA [.i64] (chL a.W a.L a.C a.x0 a.row 365)∧Ob (IsLst B' a.xl a.L.length 1 (llElem [.i64] a.ys a.L))∧Ob (IsLst B' a.xc (a.C.length) 6 (Rv.elemOf I6 a.C))∧True)∧∀(B'_1:RW),Grow B' B'_1→∀(a:GcS),GcI a∧IsLL B'_1 [.i64] a.xl a.ys a.L∧IsLst B'_1 a.xc (a.C.length) 6 (Rv.elemOf I6 a.C)→∀(_ _ _ _ _ _ _ _ _ _ _ _ _ _ _ _ _ _ _ _ _ _ _ _ _ _ _ _ _ _ _ _ _ _ _ _ _ _ _ _ _ _ _ _ _ _ _ _ _ _ _ _ _ _ _ _ _ _ _ _ _ _ _ _ _ _ _ _ _ _ _ _ _ _ _ _ _ _ _ _ _ _ _ _ _ _ _ _ _ _ _ _ _:Value),((↑a.k:Int) < (365:Int)→Ob (InR .i64 (a.yr*(365:Int)))∧Ob (InR .i64 (a.yr*(365:Int)+(↑a.k:Int)))∧∃(R_3:List (List (List Int))),∃(ys_3:Nat→RV),Ob (R_3.length=a.L.length∧(∀(d:Nat),d < a.L.length→llElem [.i64] a.ys a.L d=llElem [.i64] ys_3 R_3 d)∧IsLL B'_1 [.i64] a.xl ys_3 R_3)∧∃(h:List (List Int)),Ob (IsLst B'_1 a.xc (a.C.length) 6 (Rv.elemOf I6 a.C)∧h.length=a.C.length∧(∀r∈h,r.length=6)∧∀(d:Nat),d < a.C.length→Rv.elemOf I6 a.C d=Rv.elemOf I6 h d)∧Ob (F_Holder.pre ([Dat.z a.W,Dat.z a.D,Dat.z a.G,Dat.ll R_3,Dat.l h]++[Dat.z (a.yr*(365:Int)+(↑a.k:Int)),Dat.z a.x0,Dat.z a.row]))∧((↑(List.length (chL a.W a.L a.C a.x0 a.row a.k)):Int) < (↑(List.length (chL a.W a.L a.C a.x0 a.row 365)):Int)→Ob ((0:Int)≤(↑(List.length (chL a.W a.L a.C a.x0 a.row a.k)):Int)∧(↑(List.length (chL a.W a.L a.C a.x0 a.row a.k)):Int).toNat < List.length (chL a.W a.L a.C a.x0 a.row 365))∧Ob ((↑(List.length (chL a.W a.L a.C a.x0 a.row a.k)):Int).toNat < List.length (chL a.W a.L a.C a.x0 a.row 365))∧(cell (chL a.W a.L a.C a.x0 a.row 365) (↑(List.length (chL a.W a.L a.C a.x0 a.row a.k)):Int).toNat 0=(↑a.k:Int)→Ob (InR .i64 ((↑(List.length (chL a.W a.L a.C a.x0 a.row a.k)):Int)+(1:Int)))∧(¬¬(0:Int)=(0:Int)→(¬(¬(↑(hold a.W R_3 h a.x0 a.row (a.yr*(365:Int)+(↑a.k:Int))):Int)=(↑(hold a.W a.L a.C a.x0 a.row (a.yr*(365:Int)-(1:Int)+(↑a.k:Int))):Int)↔cell (chL a.W a.L a.C a.x0 a.row 365) (↑(List.length (chL a.W a.L a.C a.x0 a.row a.k)):Int).toNat 0=(↑a.k:Int))→False)∧(¬¬(¬(↑(hold a.W R_3 h a.x0 a.row (a.yr*(365:Int)+(↑a.k:Int))):Int)=(↑(hold a.W a.L a.C a.x0 a.row (a.yr*(365:Int)-(1:Int)+(↑a.k:Int))):Int)↔cell (chL a.W a.L a.C a.x0 a.row 365) (↑(List.length (chL a.W a.L a.C a.x0 a.row a.k)):Int).toNat 0=(↑a.k:Int))→Ob (InR .i64 ((↑a.k:Int)+(1:Int)))∧∃(b:GcS),Ob ((GcI b∧IsLL B'_1 [.i64] b.xl b.ys b.L∧IsLst B'_1 b.xc (List.length b.C) 6 (Rv.elemOf I6 b.C))∧(365:Nat)-b.k < 365-a.k)∧Ob (a.x0=b.x0)∧Ob (a.row=b.row)∧Ob (a.yr=b.yr)∧Ob (List.length (chL a.W a.L a.C a.x0 a.row 365)=List.length (chL b.W b.L b.C b.x0 b.row 365))∧Ob ((↑(hold a.W R_3 h a.x0 a.row (a.yr*(365:Int)+(↑a.k:Int))):Int)=(↑(hold b.W b.L b.C b.x0 b.row (b.yr*(365:Int)-(1:Int)+(↑b.k:Int))):Int))∧Ob ((↑(List.length (chL a.W a.L a.C a.x0 a.row a.k)):Int)+(1:Int)=(↑(List.length (chL b.W b.L b.C b.x0 b.row b.k)):Int))∧Ob ((↑a.k:Int)+(1:Int)=(↑b.k:Int))∧EqR [.i64] (chL a.W a.L a.C a.x0 a.row 365) (chL b.W b.L b.C b.x0 b.row 365)∧Ob (a.W=b.W)∧Ob (a.D=b.D)∧Ob (a.G=b.G)∧Ob (SV.lst a.xl a.L.length 1 (llElem [.i64] a.ys a.L)=SV.lst b.xl b.L.length 1 (llElem [.i64] b.ys b.L))∧Ob (SV.lst a.xc (a.C.length) 6 (Rv.elemOf I6 a.C)=SV.lst b.xc (List.length b.C) 6 (Rv.elemOf I6 b.C))∧Ob (a.a=b.a)∧PlA [.i64] (chL b.W b.L b.C b.x0 b.row 365)∧Ob (IsLst B'_1 b.xl b.L.length 1 (llElem [.i64] b.ys b.L))∧Ob (IsLst B'_1 b.xc (List.length b.C) 6 (Rv.elemOf I6 b.C))∧True))∧(¬(0:Int)=(0:Int)→False))∧(¬cell (chL a.W a.L a.C a.x0 a.row 365) (↑(List.length (chL a.W a.L a.C a.x0 a.row a.k)):Int).toNat 0=(↑a.k:Int)→(¬¬(0:Int)=(0:Int)→(¬(¬(↑(hold a.W R_3 h a.x0 a.row (a.yr*(365:Int)+(↑a.k:Int))):Int)=(↑(hold a.W a.L a.C a.x0 a.row (a.yr*(365:Int)-(1:Int)+(↑a.k:Int))):Int)↔cell (chL a.W a.L a.C a.x0 a.row 365) (↑(List.length (chL a.W a.L a.C a.x0 a.row a.k)):Int).toNat 0=(↑a.k:Int))→False)∧(¬¬(¬(↑(hold a.W R_3 h a.x0 a.row (a.yr*(365:Int)+(↑a.k:Int))):Int)=(↑(hold a.W a.L a.C a.x0 a.row (a.yr*(365:Int)-(1:Int)+(↑a.k:Int))):Int)↔cell (chL a.W a.L a.C a.x0 a.row 365) (↑(List.length (chL a.W a.L a.C a.x0 a.row a.k)):Int).toNat 0=(↑a.k:Int))→Ob (InR .i64 ((↑a.k:Int)+(1:Int)))∧∃(b:GcS),Ob ((GcI b∧IsLL B'_1 [.i64] b.xl b.ys b.L∧IsLst B'_1 b.xc (List.length b.C) 6 (Rv.elemOf I6 b.C))∧(365:Nat)-b.k < 365-a.k)∧Ob (a.x0=b.x0)∧Ob (a.row=b.row)∧Ob (a.yr=b.yr)∧Ob (List.length (chL a.W a.L a.C a.x0 a.row 365)=List.length (chL b.W b.L b.C b.x0 b.row 365))∧Ob ((↑(hold a.W R_3 h a.x0 a.row (a.yr*(365:Int)+(↑a.k:Int))):Int)=(↑(hold b.W b.L b.C b.x0 b.row (b.yr*(365:Int)-(1:Int)+(↑b.k:Int))):Int))∧Ob ((↑(List.length (chL a.W a.L a.C a.x0 a.row a.k)):Int)=(↑(List.length (chL b.W b.L b.C b.x0 b.row b.k)):Int))∧Ob ((↑a.k:Int)+(1:Int)=(↑b.k:Int))∧EqR [.i64] (chL a.W a.L a.C a.x0 a.row 365) (chL b.W b.L b.C b.x0 b.row 365)∧Ob (a.W=b.W)∧Ob (a.D=b.D)∧Ob (a.G=b.G)∧Ob (SV.lst a.xl a.L.length 1 (llElem [.i64] a.ys a.L)=SV.lst b.xl b.L.length 1 (llElem [.i64] b.ys b.L))∧Ob (SV.lst a.xc (a.C.length) 6 (Rv.elemOf I6 a.C)=SV.lst b.xc (List.length b.C) 6 (Rv.elemOf I6 b.C))∧Ob (a.a=b.a)∧PlA [.i64] (chL b.W b.L b.C b.x0 b.row 365)∧Ob (IsLst B'_1 b.xl b.L.length 1 (llElem [.i64] b.ys b.L))∧Ob (IsLst B'_1 b.xc (List.length b.C) 6 (Rv.elemOf I6 b.C))∧True))∧(¬(0:Int)=(0:Int)→False)))∧(¬(↑(List.length (chL a.W a.L a.C a.x0 a.row a.k)):Int) < (↑(List.length (chL a.W a.L a.C a.x0 a.row 365)):Int)→(¬¬(0:Int)=(0:Int)→(¬(¬(↑(hold a.W R_3 h a.x0 a.row (a.yr*(365:Int)+(↑a.k:Int))):Int)=(↑(hold a.W a.L a.C a.x0 a.row (a.yr*(365:Int)-(1:Int)+(↑a.k:Int))):Int)↔false=true)→False)∧(¬¬(¬(↑(hold a.W R_3 h a.x0 a.row (a.yr*(365:Int)+(↑a.k:Int))):Int)=(↑(hold a.W a.L a.C a.x0 a.row (a.yr*(365:Int)-(1:Int)+(↑a.k:Int))):Int)↔false=true)→Ob (InR .i64 ((↑a.k:Int)+(1:Int)))∧∃(b:GcS),Ob ((GcI b∧IsLL B'_1 [.i64] b.xl b.ys b.L∧IsLst B'_1 b.xc (List.length b.C) 6 (Rv.elemOf I6 b.C))∧(365:Nat)-b.k < 365-a.k)∧Ob (a.x0=b.x0)∧Ob (a.row=b.row)∧Ob (a.yr=b.yr)∧Ob (List.length (chL a.W a.L a.C a.x0 a.row 365)=List.length (chL b.W b.L b.C b.x0 b.row 365))∧Ob ((↑(hold a.W R_3 h a.x0 a.row (a.yr*(365:Int)+(↑a.k:Int))):Int)=(↑(hold b.W b.L b.C b.x0 b.row (b.yr*(365:Int)-(1:Int)+(↑b.k:Int))):Int))∧Ob ((↑(List.length (chL a.W a.L a.C a.x0 a.row a.k)):Int)=(↑(List.length (chL b.W b.L b.C b.x0 b.row b.k)):Int))∧Ob ((↑a.k:Int)+(1:Int)=(↑b.k:Int))∧EqR [.i64] (chL a.W a.L a.C a.x0 a.row 365) (chL b.W b.L b.C b.x0 b.row 365)∧Ob (a.W=b.W)∧Ob (a.D=b.D)∧Ob (a.G=b.G)∧Ob (SV.lst a.xl a.L.length 1 (llElem [.i64] a.ys a.L)=SV.lst b.xl b.L.length 1 (llElem [.i64] b.ys b.L))∧Ob (SV.lst a.xc (a.C.length) 6 (Rv.elemOf I6 a.C)=SV.lst b.xc (List.length b.C) 6 (Rv.elemOf I6 b.C))∧Ob (a.a=b.a)∧PlA [.i64] (chL b.W b.L b.C b.x0 b.row 365)∧Ob (IsLst B'_1 b.xl b.L.length 1 (llElem [.i64] b.ys b.L))∧Ob (IsLst B'_1 b.xc (List.length b.C) 6 (Rv.elemOf I6 b.C))∧True))∧(¬(0:Int)=(0:Int)→False)))∧(¬(↑a.k:Int) < (365:Int)→((↑(List.length (chL a.W a.L a.C a.x0 a.row a.k)):Int)=(↑(List.length (chL a.W a.L a.C a.x0 a.row 365)):Int)→Ob (hasTabs [] B'_1)∧True)∧(¬(↑(List.length (chL a.W a.L a.C a.x0 a.row a.k)):Int)=(↑(List.length (chL a.W a.L a.C a.x0 a.row 365)):Int)→False))))∧(¬(0:Int)=(0:Int)→False)
set_option linter.unusedSimpArgs false in
set_option maxRecDepth 4000 in
set_option maxHeartbeats 2000000 in
theorem v_law:V_law:=by
 unfold V_law EqR I6 LsA PlA RwB
 intro B ht x N hx hox hr hN
 simp only [Ob_iff,and_true,true_and,implies_true,Classical.not_not,not_true_eq_false,F_TideOf,F_From,F_Below,F_BayOf,List.cons_append,List.nil_append,not_false_eq_true,true_implies,false_implies]
 refine⟨N,⟨hx,rfl,hr,fun i hi=>rfl⟩,hN,by decide,?_⟩
 intro a B1 g1 W D G xl ys L hl hol xc C hc hoc hcr hb
 have hw:=hb.w
 have hd:=hb.d
 have b1:=belowV_in a W
 have b2:=belowV_in (belowA a W) D
 have b3:=belowV_in (belowA (belowA a W) D) (20-1+1)
 generalize belowA (belowA (belowA a W) D) (20-1+1)=a3 at *
 generalize belowV (belowA (belowA a W) D) (20-1+1)=y0 at *
 generalize belowV (belowA a W) D=r0 at *
 generalize belowV a W=x0 at *
 have hbC:BayOk 40 20 6 W D G L C:=hb.mono (by decide) (by decide) (by decide)
 have hX:0≤x0∧x0 < W:=by omega
 have hR:0≤r0∧r0 < D:=by omega
 have hY:1≤1+y0∧1+y0≤20:=by omega
 have hdy:0≤(1+y0)*365-1∧(1+y0)*365-1≤36499:=by omega
 refine⟨hx,hx,by omega,by omega,by decide,L,ys,⟨rfl,fun i hi=>rfl,hl⟩,C,⟨hc,rfl,hcr,fun i hi=>rfl⟩,⟨hbC,hX,hR⟩,by simp only [InR]; omega,by simp only [InR]; omega,L,ys,⟨rfl,fun i hi=>rfl,hl⟩,C,⟨hc,rfl,hcr,fun i hi=>rfl⟩,⟨hbC,hdy,hX,hR⟩,⟨⟨0,a3,W,D,G,x0,r0,1+y0,L,C,xl,xc,ys⟩,⟨⟨Nat.zero_le _,hb,hX,hR,hY⟩,hl,hc⟩,rfl,rfl,rfl,rfl,congrArg Nat.cast (congrArg (hold W L C x0 r0) (Int.add_zero _).symm),rfl,rfl,⟨rfl,fun i hi=>rfl⟩,rfl,rfl,rfl,rfl,rfl,rfl,plain_elemOf _ _ _,hl.1,hc⟩,?_⟩
 intro B2 g2 v hv
 obtain⟨hv,hll,hcc⟩:=hv
 intros
 have hvk:=hv.k
 have hvy:=hv.y
 refine⟨fun h1=>?_,fun h1=>⟨fun _=>(ht.up g1).up g2,fun h2=>h2 (by rw [show v.k=365 by omega])⟩⟩
 have hk:v.k < 365:=by omega
 have hle:=chL_le (W:=v.W) (L:=v.L) (C:=v.C) (x:=v.x0) (row:=v.row) v.k
 have i0:InR .i64 (((chL v.W v.L v.C v.x0 v.row v.k).length:Int)+1):=by
  generalize (chL v.W v.L v.C v.x0 v.row v.k).length=q at *
  simp only [InR]
  omega
 clear hle
 have i1:InR .i64 ((v.k:Int)+1):=by simp only [InR]; omega
 have i2:365-(v.k+1) < 365-v.k:=by omega
 have hdy2:0≤v.yr*365+(v.k:Int)∧v.yr*365+(v.k:Int)≤36499:=by omega
 refine⟨by simp only [InR]; omega,by simp only [InR]; omega,v.L,v.ys,⟨rfl,fun i hi=>rfl,hll⟩,v.C,⟨hcc,rfl,hv.b.c.row,fun i hi=>rfl⟩,⟨hv.b.mono (by decide) (by decide) (by decide),hdy2,hv.x,hv.r⟩,?_⟩
 have e1:=hold_year (W:=v.W) (L:=v.L) (C:=v.C) (x:=v.x0) (row:=v.row) hv.y hk
 have e2:=hold_before (W:=v.W) (L:=v.L) (C:=v.C) (x:=v.x0) (row:=v.row) hv.y v.k hv.k
 have nb:((hold v.W v.L v.C v.x0 v.row v.k:Nat):Int)=((hold v.W v.L v.C v.x0 v.row (v.yr*365-1+((v.k+1:Nat):Int)):Nat):Int):=congrArg Nat.cast (hold_before hv.y (v.k+1) hk).symm
 have gI:GcI ⟨v.k+1,v.a,v.W,v.D,v.G,v.x0,v.row,v.yr,v.L,v.C,v.xl,v.xc,v.ys⟩:=⟨hk,hv.b,hv.x,hv.r,hv.y⟩
 rw [e1,e2,Int.toNat_natCast]
 clear e1 e2
 have hch:∀h3:hold v.W v.L v.C v.x0 v.row v.k=holdB v.W v.L v.C v.x0 v.row v.k,((chL v.W v.L v.C v.x0 v.row v.k).length:Int)=((chL v.W v.L v.C v.x0 v.row (v.k+1)).length:Int):=fun h3=>by rw [chL_same h3]
 refine⟨fun h2=>⟨⟨Int.natCast_nonneg _,Int.ofNat_lt.1 h2⟩,Int.ofNat_lt.1 h2,fun h3=>⟨i0,?_,fun _=>?_⟩,fun h3=>⟨?_,fun _=>?_⟩⟩,fun h2=>⟨?_,fun _=>?_⟩⟩
 ·exact fun q=>q ⟨fun _=>h3,fun _=>fun p=>ch_same hk (Int.ofNat.inj p) (Int.ofNat_lt.1 h2) h3⟩
 ·have hne:¬ hold v.W v.L v.C v.x0 v.row v.k=holdB v.W v.L v.C v.x0 v.row v.k:=fun p=>ch_same hk p (Int.ofNat_lt.1 h2) h3
  have eA:((chL v.W v.L v.C v.x0 v.row v.k).length:Int)+1=((chL v.W v.L v.C v.x0 v.row (v.k+1)).length:Int):=by
   rw [chL_new hne,List.length_append]
   rfl
  exact⟨i1,⟨v.k+1,v.a,v.W,v.D,v.G,v.x0,v.row,v.yr,v.L,v.C,v.xl,v.xc,v.ys⟩,⟨⟨gI,hll,hcc⟩,i2⟩,rfl,rfl,rfl,rfl,nb,eA,rfl,⟨rfl,fun i hi=>rfl⟩,rfl,rfl,rfl,rfl,rfl,rfl,plain_elemOf _ _ _,hll.1,hcc⟩
 ·exact fun q=>q ⟨fun p=>absurd (ch_new hk (fun z=>p (congrArg Nat.cast z))).2 h3,fun p=>absurd p h3⟩
 ·have he:hold v.W v.L v.C v.x0 v.row v.k=holdB v.W v.L v.C v.x0 v.row v.k:=Classical.byContradiction fun z=>h3 (ch_new hk z).2
  exact⟨i1,⟨v.k+1,v.a,v.W,v.D,v.G,v.x0,v.row,v.yr,v.L,v.C,v.xl,v.xc,v.ys⟩,⟨⟨gI,hll,hcc⟩,i2⟩,rfl,rfl,rfl,rfl,nb,hch he,rfl,⟨rfl,fun i hi=>rfl⟩,rfl,rfl,rfl,rfl,rfl,rfl,plain_elemOf _ _ _,hll.1,hcc⟩
 ·exact fun q=>q ⟨fun p=>absurd (Int.ofNat_lt.2 (ch_new hk (fun z=>p (congrArg Nat.cast z))).1) h2,fun p=>by cases p⟩
 ·have he:hold v.W v.L v.C v.x0 v.row v.k=holdB v.W v.L v.C v.x0 v.row v.k:=Classical.byContradiction fun z=>h2 (Int.ofNat_lt.2 (ch_new hk z).1)
  exact⟨i1,⟨v.k+1,v.a,v.W,v.D,v.G,v.x0,v.row,v.yr,v.L,v.C,v.xl,v.xc,v.ys⟩,⟨⟨gI,hll,hcc⟩,i2⟩,rfl,rfl,rfl,rfl,nb,hch he,rfl,⟨rfl,fun i hi=>rfl⟩,rfl,rfl,rfl,rfl,rfl,rfl,plain_elemOf _ _ _,hll.1,hcc⟩
theorem e_law:V_law=needLG P [] [F_TideOf,F_Below,F_From,F_Holder,F_Changes] [F_BayOf] 11 ([]:Tabs) A_law F_law:=by kernel_rfl
theorem n_law:Ob (needLG P [] [F_TideOf,F_Below,F_From,F_Holder,F_Changes] [F_BayOf] 11 ([]:Tabs) A_law F_law):=by
 rw [← e_law]
 exact⟨v_law⟩
theorem cg_law:∀F∈[F_BayOf],F.Ok P:=by
 intro F h
 simp only [List.mem_cons,List.not_mem_nil,or_false]at h
 rcases h with rfl
 ·exact BayOf_ok
theorem l_law:(([]:List Fn0).all fun G=>!Nat.beq G.g 11)=true:=rfl
theorem le_law:([F_TideOf,F_Below,F_From,F_Holder,F_Changes].all fun G=>!Nat.beq G.g 11)=true:=rfl
theorem c_law:∀F∈([]:List Fn0),F.Ok P:=by
 intro F h; simp at h
theorem ce_law:∀F∈[F_TideOf,F_Below,F_From,F_Holder,F_Changes],F.Ok P:=by
 intro F h
 simp only [List.mem_cons,List.not_mem_nil,or_false]at h
 rcases h with rfl | rfl | rfl | rfl | rfl
 ·exact TideOf_ok
 ·exact Below_ok
 ·exact From_ok
 ·exact Holder_ok
 ·exact Changes_ok
end Go.Proofs.Ytoagogieidfagaa.Sy
