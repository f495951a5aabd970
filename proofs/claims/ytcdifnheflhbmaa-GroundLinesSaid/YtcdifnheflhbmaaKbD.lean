import Derived.Test.YtcdifnheflhbmaaSyP4
import Derived.Test.YtcdifnheflhbmaaGrM
import Derived.Test.YtcdifnheflhbmaaStM
import Derived.Test.YtcdifnheflhbmaaKtT
import Derived.Test.YtcdifnheflhbmaaSyP2
import Derived.Test.YtcdifnheflhbmaaKbA
import Derived.Test.YtcdifnheflhbmaaKbB
import Derived.KernelRfl
import Derived.Test.YtcdifnheflhbmaaProg
namespace Go.Proofs.Ytcdifnheflhbmaa.Sy
open Go Go.Rv
set_option linter.unusedVariables false
theorem BayOk.mono {a b c a' b' c' W D G:Int} {L:List Rows} {C:Rows} (h:BayOk a b c W D G L C) (h1:a≤a') (h2:b≤b') (h3:c≤c'):BayOk a' b' c' W D G L C:=⟨⟨h.w.1,Int.le_trans h.w.2 h1⟩,⟨h.d.1,Int.le_trans h.d.2 h2⟩,⟨h.g.1,Int.le_trans h.g.2 h3⟩,h.n,h.l,h.c⟩
noncomputable def F_checkSpan:Fn0:=⟨60,[.agg [.i .i64,.i .i64],i64],fun l=>match l with | [.z a,.z b,.z m]=>0≤a∧a≤b∧b < m | _=>False,fun l=>match l with | [.z a,.z b,.z m]=>.i .i64 0 | _=>.v undef⟩
noncomputable def A_checkSpan:List SV→List Dat→Nat→List SV→Ann:=fun _ _ _ _=>noAnn
def V_checkSpan:Prop:=
 ∀(B:RW) (b a c:Int),(0:Int)≤b∧b≤a∧a < c→Ob True∧(¬¬((0:Int)≤b∧b < c)→Ob True∧(¬((0:Int)≤a∧a < c)→Ob ((1:Int)=(0:Int))∧True)∧(¬¬((0:Int)≤a∧a < c)→(a < b→Ob ((8:Int)=(0:Int))∧True)∧(¬a < b→Ob ((0:Int)=(0:Int))∧True)))∧(¬((0:Int)≤b∧b < c)→Ob ((1:Int)=(0:Int))∧True)
set_option linter.unusedSimpArgs false in
set_option maxRecDepth 4000 in
set_option maxHeartbeats 400000 in
theorem v_checkSpan:V_checkSpan:=by
 unfold V_checkSpan
 intro B a b m h
 simp only [Ob_iff,and_true,true_and]
 refine⟨fun _=>⟨fun q=>absurd (show 0≤b∧b < m by omega) q,fun _=>⟨fun q=>by omega,fun _=>trivial⟩⟩,fun q=>absurd (show 0≤a∧a < m by omega) q⟩
theorem e_checkSpan:V_checkSpan=needF P [F_isIndex] A_checkSpan F_checkSpan:=by kernel_rfl
theorem n_checkSpan:Ob (needF P [F_isIndex] A_checkSpan F_checkSpan):=by
 rw [← e_checkSpan]
 exact⟨v_checkSpan⟩
theorem b_checkSpan:((P.funcs[60]?).any fun fn=>fn.body.isSome)=true:=by kernel_rfl
theorem checkSpan_ok:Fn0.Ok P F_checkSpan:=Fn0.ok named (l:=[F_isIndex]) (A:=A_checkSpan) (by rfl) (by
 intro F h
 simp only [List.mem_cons,List.not_mem_nil,or_false]at h
 rcases h with rfl
 ·exact isIndex_ok
) b_checkSpan (by
 intro ds N
 simp only [F_checkSpan]
 split<;>rfl) n_checkSpan
noncomputable def F_checkLine:Fn0:=⟨47,[.agg [.i .i64,.i .i64,.i .i64,.ll [.i64],.l [.i64,.i64,.i64,.i64,.i64,.i64]],i64],fun l=>match l with | [.z W,.z D,.z G,.ll L,.l C,.z line]=>BayOk 40 40 40 W D G L C∧0≤line∧line < L.length | _=>False,fun l=>match l with | [.z W,.z D,.z G,.ll L,.l C,.z line]=>.i .i64 0 | _=>.v undef⟩
noncomputable def A_checkLine:List SV→List Dat→Nat→List SV→Ann:=fun xs ds n ts=>match xs with
 | [.agg [_,_,_,.lst x _ _ xe,.lst y _ _ ye],_]=>match ds with
  | [.z W,.z D,.z G,.ll L,.l C,.z line]=>match n with
   | 4=>(match lget ts 20 with | some (SV.lst q0 q1 q2 q3)=>⟨Nat,fun k=>([none,some (SV.i IntKind.i64 line),some (SV.ptr ((0:Nat)) ((0:Nat)))]++nN 17++[some (.lst q0 q1 q2 q3),some (SV.i IntKind.i64 (↑(L.getD line.toNat []).length:Int)),some (.i .i64 k)]++nN 25),fun k=>[SObj.cells [SV.i IntKind.i64 W,SV.i IntKind.i64 D,SV.i IntKind.i64 G,SV.lst x L.length ((1:Nat)) xe,SV.lst y C.length ((6:Nat)) ye] Kd.ex],fun k=>(k:Int)≤D,fun k=>D.toNat-k,0⟩ | _=>noAnn)
   | _=>noAnn
  | _=>noAnn
 | _=>noAnn
def V_checkLine:Prop:=
 ∀(B:RW) (g e h:Int) (d:RV) (ys:Nat→RV) (R:List (List (List Int))),IsLL B [.i64] d ys R→oneB d=true→∀(f:RV) (c:List (List Int)),IsLst B f c.length 6 (Rv.elemOf I6 c)→oneB f=true→(∀row∈c,row.length=6)→∀(a:Int),BayOk (40:Int) (40:Int) (40:Int) g e h R c∧(0:Int)≤a∧a < (↑R.length:Int)→Ob (IsLst B d R.length 1 (llElem [.i64] ys R))∧Ob ((0:Int)≤a∧a.toNat < R.length∧IsLst B d R.length 1 (llElem [.i64] ys R))∧Ob (IsLst B d R.length 1 (llElem [.i64] ys R)∧a.toNat < R.length)∧Ob (IsLst B d R.length 1 (llElem [.i64] ys R)∧a.toNat < R.length)∧Ob (IsLst B (ys a.toNat) (R.getD a.toNat []).length 1 (Rv.elemOf [.i64] (R.getD a.toNat [])))∧Ob (IsLst B (ys a.toNat) (R.getD a.toNat []).length 1 (Rv.elemOf [.i64] (R.getD a.toNat [])))∧(¬(↑(R.getD a.toNat []).length:Int)=e→Ob ((2:Int)=(0:Int))∧True)∧(¬¬(↑(R.getD a.toNat []).length:Int)=e→Ob ((0:Int)≤a∧a.toNat < R.length∧IsLst B d R.length 1 (llElem [.i64] ys R))∧Ob (IsLst B d R.length 1 (llElem [.i64] ys R)∧a.toNat < R.length)∧Ob (IsLst B (ys a.toNat) (R.getD a.toNat []).length 1 (Rv.elemOf [.i64] (R.getD a.toNat [])))∧(∃(b:Nat),Ob ((↑b:Int)≤e)∧Ob (a=a)∧Ob (SV.lst (ys a.toNat) (R.getD a.toNat []).length 1 (Rv.elemOf [.i64] (R.getD a.toNat []))=SV.lst (ys a.toNat) (R.getD a.toNat []).length 1 (Rv.elemOf [.i64] (R.getD a.toNat [])))∧Ob ((↑(R.getD a.toNat []).length:Int)=(↑(R.getD a.toNat []).length:Int))∧Ob ((0:Int)=(↑b:Int))∧Ob (g=g)∧Ob (e=e)∧Ob (h=h)∧Ob (SV.lst d R.length 1 (llElem [.i64] ys R)=SV.lst d R.length 1 (llElem [.i64] ys R))∧Ob (SV.lst f c.length 6 (Rv.elemOf I6 c)=SV.lst f c.length 6 (Rv.elemOf I6 c))∧Ob (IsLst B (ys a.toNat) (R.getD a.toNat []).length 1 (Rv.elemOf [.i64] (R.getD a.toNat [])))∧Ob (IsLst B d R.length 1 (llElem [.i64] ys R))∧LsA B f I6 c∧True)∧∀(b:Nat),(↑b:Int)≤e→∀(_ _ _ _ _ _ _ _ _ _ _ _ _ _ _ _ _ _ _ _ _ _ _ _ _ _ _ _ _ _ _ _ _ _ _ _ _ _ _ _ _ _ _:Value),((↑b:Int) < (↑(R.getD a.toNat []).length:Int)→Ob ((0:Int)≤(↑b:Int)∧b < (R.getD a.toNat []).length∧IsLst B (ys a.toNat) (R.getD a.toNat []).length 1 (Rv.elemOf [.i64] (R.getD a.toNat [])))∧Ob (IsLst B (ys a.toNat) (R.getD a.toNat []).length 1 (Rv.elemOf [.i64] (R.getD a.toNat []))∧b < (R.getD a.toNat []).length)∧Ob True∧(¬((0:Int)≤cell (R.getD a.toNat []) b 0∧cell (R.getD a.toNat []) b 0≤g)→Ob ((1:Int)=(0:Int))∧True)∧(¬¬((0:Int)≤cell (R.getD a.toNat []) b 0∧cell (R.getD a.toNat []) b 0≤g)→((0:Int) < a→Ob (InR .i64 (a-(1:Int)))∧Ob ((0:Int)≤a-(1:Int)∧(a-(1:Int)).toNat < R.length∧IsLst B d R.length 1 (llElem [.i64] ys R))∧Ob (IsLst B d R.length 1 (llElem [.i64] ys R)∧(a-(1:Int)).toNat < R.length)∧Ob ((0:Int)≤(↑b:Int)∧b < (R.getD (a-(1:Int)).toNat []).length∧IsLst B (ys (a-(1:Int)).toNat) (R.getD (a-(1:Int)).toNat []).length 1 (Rv.elemOf [.i64] (R.getD (a-(1:Int)).toNat [])))∧Ob (IsLst B (ys (a-(1:Int)).toNat) (R.getD (a-(1:Int)).toNat []).length 1 (Rv.elemOf [.i64] (R.getD (a-(1:Int)).toNat []))∧b < (R.getD (a-(1:Int)).toNat []).length)∧(cell (R.getD a.toNat []) b 0 < cell (R.getD (a-(1:Int)).toNat []) b 0→Ob ((9:Int)=(0:Int))∧True)∧(¬cell (R.getD a.toNat []) b 0 < cell (R.getD (a-(1:Int)).toNat []) b 0→Ob (InR .i64 ((↑b:Int)+(1:Int)))∧∃(i:Nat),Ob ((↑i:Int)≤e∧e.toNat-i < e.toNat-b)∧Ob (a=a)∧Ob (SV.lst (ys a.toNat) (R.getD a.toNat []).length 1 (Rv.elemOf [.i64] (R.getD a.toNat []))=SV.lst (ys a.toNat) (R.getD a.toNat []).length 1 (Rv.elemOf [.i64] (R.getD a.toNat [])))∧Ob ((↑(R.getD a.toNat []).length:Int)=(↑(R.getD a.toNat []).length:Int))∧Ob ((↑b:Int)+(1:Int)=(↑i:Int))∧Ob (g=g)∧Ob (e=e)∧Ob (h=h)∧Ob (SV.lst d R.length 1 (llElem [.i64] ys R)=SV.lst d R.length 1 (llElem [.i64] ys R))∧Ob (SV.lst f c.length 6 (Rv.elemOf I6 c)=SV.lst f c.length 6 (Rv.elemOf I6 c))∧Ob (IsLst B (ys a.toNat) (R.getD a.toNat []).length 1 (Rv.elemOf [.i64] (R.getD a.toNat [])))∧Ob (IsLst B d R.length 1 (llElem [.i64] ys R))∧LsA B f I6 c∧True))∧(¬(0:Int) < a→Ob (InR .i64 ((↑b:Int)+(1:Int)))∧∃(i:Nat),Ob ((↑i:Int)≤e∧e.toNat-i < e.toNat-b)∧Ob (a=a)∧Ob (SV.lst (ys a.toNat) (R.getD a.toNat []).length 1 (Rv.elemOf [.i64] (R.getD a.toNat []))=SV.lst (ys a.toNat) (R.getD a.toNat []).length 1 (Rv.elemOf [.i64] (R.getD a.toNat [])))∧Ob ((↑(R.getD a.toNat []).length:Int)=(↑(R.getD a.toNat []).length:Int))∧Ob ((↑b:Int)+(1:Int)=(↑i:Int))∧Ob (g=g)∧Ob (e=e)∧Ob (h=h)∧Ob (SV.lst d R.length 1 (llElem [.i64] ys R)=SV.lst d R.length 1 (llElem [.i64] ys R))∧Ob (SV.lst f c.length 6 (Rv.elemOf I6 c)=SV.lst f c.length 6 (Rv.elemOf I6 c))∧Ob (IsLst B (ys a.toNat) (R.getD a.toNat []).length 1 (Rv.elemOf [.i64] (R.getD a.toNat [])))∧Ob (IsLst B d R.length 1 (llElem [.i64] ys R))∧LsA B f I6 c∧True)))∧(¬(↑b:Int) < (↑(R.getD a.toNat []).length:Int)→Ob ((0:Int)=(0:Int))∧True))
set_option linter.unusedSimpArgs false in
set_option maxRecDepth 4000 in
set_option maxHeartbeats 400000 in
theorem v_checkLine:V_checkLine:=by
 unfold V_checkLine I6 LsA
 intro B W D G x ys L hx hox y C hy hoy hry line ⟨hb,hl⟩
 simp only [Ob_iff,and_true,true_and,implies_true,Classical.not_not]
 have hlen:=hb.l.len line.toNat (by omega)
 have hd:=hb.d
 have hln:line.toNat < L.length:=by omega
 have hy1:=(hx.2 line.toNat hln).1
 have hlD:((L.getD line.toNat []).length:Int)=D:=by omega
 refine⟨hx.1,⟨hl.1,hln,hx.1⟩,⟨hx.1,hln⟩,⟨hx.1,hln⟩,hy1,hy1,fun q=>absurd hlD q,fun _=>⟨⟨hl.1,hln,hx.1⟩,⟨hx.1,hln⟩,hy1,⟨0,by omega,rfl,hy1,hx.1,hy⟩,?_⟩⟩
 intro k hk
 intros
 rename_i h1
 have hkD:k < D.toNat:=by omega
 have hkl:k < (L.getD line.toNat []).length:=by omega
 have hr:0≤cell (L.getD line.toNat []) k 0∧cell (L.getD line.toNat []) k 0≤W:=⟨hb.l.nn _ hln _ hkD,(hb.l.at_ _ hln _ hkD).2⟩
 have i1:InR .i64 ((k:Int)+1):=by
  have:=hlen
  have h40:D≤40:=hd.2
  clear hr
  simp only [InR]
  omega
 have i2:((k+1:Nat):Int)≤D∧D.toNat-(k+1) < D.toNat-k:=by clear hr; omega
 refine⟨⟨Int.natCast_nonneg k,hkl,hy1⟩,⟨hy1,hkl⟩,fun q=>absurd hr q,fun _=>⟨fun h2=>?_,fun h2=>?_⟩⟩
 ·have e:(line-1).toNat=line.toNat-1:=by clear hr; omega
  have hln2:line.toNat-1 < L.length:=by clear hr; omega
  have hlen2:=hb.l.len (line.toNat-1) hln2
  have hkl2:k < (L.getD (line.toNat-1) []).length:=by clear hr; omega
  have hy2:=(hx.2 (line.toNat-1) hln2).1
  have i3:InR .i64 (line-1):=by
   have hg:=hb.g
   have hn:=hb.n
   clear hr
   simp only [InR]
   omega
  have i4:0≤line-1:=by clear hr; omega
  have hp:=(hb.l.at_ _ hln _ hkD).1
  unfold lnPrev at hp
  rw [if_neg (by clear hr; omega)]at hp
  rw [e]
  exact⟨i3,⟨i4,hln2,hx.1⟩,⟨hx.1,hln2⟩,⟨Int.natCast_nonneg k,hkl2,hy2⟩,⟨hy2,hkl2⟩,fun q=>absurd hp (Int.not_le.2 q),fun _=>⟨i1,k+1,i2,rfl,hy1,hx.1,hy⟩⟩
 ·exact⟨i1,k+1,i2,rfl,hy1,hx.1,hy⟩
theorem e_checkLine:V_checkLine=needF P [F_within] A_checkLine F_checkLine:=by kernel_rfl
theorem n_checkLine:Ob (needF P [F_within] A_checkLine F_checkLine):=by
 rw [← e_checkLine]
 exact⟨v_checkLine⟩
theorem b_checkLine:((P.funcs[47]?).any fun fn=>fn.body.isSome)=true:=by kernel_rfl
theorem checkLine_ok:Fn0.Ok P F_checkLine:=Fn0.ok named (l:=[F_within]) (A:=A_checkLine) (by rfl) (by
 intro F h
 simp only [List.mem_cons,List.not_mem_nil,or_false]at h
 rcases h with rfl
 ·exact within_ok
) b_checkLine (by
 intro ds N
 simp only [F_checkLine]
 split<;>rfl) n_checkLine
noncomputable def F_checkCustom:Fn0:=⟨48,[.agg [.i .i64,.i .i64,.i .i64,.ll [.i64],.l [.i64,.i64,.i64,.i64,.i64,.i64]],.agg [.i .i64,.i .i64,.i .i64,.i .i64,.i .i64,.i .i64]],fun l=>match l with | [.z W,.z D,.z G,.ll L,.l C,.z c0,.z c1,.z c2,.z c3,.z c4,.z c5]=>(0≤c0∧c0 < L.length)∧(0≤c1∧c1≤c2∧c2 < D)∧(0≤c3∧c3≤c4∧c4 < 365)∧-200≤c5∧c5≤200 | _=>False,fun l=>match l with | [.z W,.z D,.z G,.ll L,.l C,.z c0,.z c1,.z c2,.z c3,.z c4,.z c5]=>.i .i64 0 | _=>.v undef⟩
noncomputable def A_checkCustom:List SV→List Dat→Nat→List SV→Ann:=fun _ _ _ _=>noAnn
def V_checkCustom:Prop:=
 ∀(B:RW) (l j k:Int) (h:RV) (ys:Nat→RV) (R:List (List (List Int))),IsLL B [.i64] h ys R→oneB h=true→∀(i:RV) (g:List (List Int)),IsLst B i g.length 6 (Rv.elemOf I6 g)→oneB i=true→(∀row∈g,row.length=6)→∀(b f e c d a:Int),((0:Int)≤b∧b < (↑R.length:Int))∧((0:Int)≤f∧f≤e∧e < j)∧((0:Int)≤c∧c≤d∧d < (365:Int))∧(-200:Int)≤a∧a≤(200:Int)→Ob (IsLst B h R.length 1 (llElem [.i64] ys R))∧Ob True∧(¬((0:Int)≤b∧b < (↑R.length:Int))→Ob ((6:Int)=(0:Int))∧True)∧(¬¬((0:Int)≤b∧b < (↑R.length:Int))→Ob ((0:Int)≤f∧f≤e∧e < j)∧(¬(0:Int)=(0:Int)→Ob ((0:Int)=(0:Int))∧True)∧(¬¬(0:Int)=(0:Int)→Ob ((0:Int)≤c∧c≤d∧d < (365:Int))∧(¬(0:Int)=(0:Int)→Ob ((0:Int)=(0:Int))∧True)∧(¬¬(0:Int)=(0:Int)→Ob True∧(¬((-200:Int)≤a∧a≤(200:Int))→Ob ((1:Int)=(0:Int))∧True)∧(¬¬((-200:Int)≤a∧a≤(200:Int))→Ob ((0:Int)=(0:Int))∧True))))
set_option linter.unusedSimpArgs false in
set_option maxRecDepth 4000 in
set_option maxHeartbeats 400000 in
theorem v_checkCustom:V_checkCustom:=by
 unfold V_checkCustom I6
 intro B W D G x ys L hx hox y C hy hoy hry c0 c1 c2 c3 c4 c5 ⟨h0,h1,h3,h5⟩
 simp only [Ob_iff,and_true,true_and,implies_true,Classical.not_not,not_true_eq_false]
 exact⟨hx.1,fun q=>absurd h0 q,fun _=>⟨h1,fun _=>⟨h3,fun _=>fun q=>absurd h5 q⟩⟩⟩
theorem e_checkCustom:V_checkCustom=needF P [F_isIndex,F_within,F_checkSpan] A_checkCustom F_checkCustom:=by kernel_rfl
theorem n_checkCustom:Ob (needF P [F_isIndex,F_within,F_checkSpan] A_checkCustom F_checkCustom):=by
 rw [← e_checkCustom]
 exact⟨v_checkCustom⟩
theorem b_checkCustom:((P.funcs[48]?).any fun fn=>fn.body.isSome)=true:=by kernel_rfl
theorem checkCustom_ok:Fn0.Ok P F_checkCustom:=Fn0.ok named (l:=[F_isIndex,F_within,F_checkSpan]) (A:=A_checkCustom) (by rfl) (by
 intro F h
 simp only [List.mem_cons,List.not_mem_nil,or_false]at h
 rcases h with rfl | rfl | rfl
 ·exact isIndex_ok
 ·exact within_ok
 ·exact checkSpan_ok
) b_checkCustom (by
 intro ds N
 simp only [F_checkCustom]
 split<;>rfl) n_checkCustom
noncomputable def F_Check:Fn0:=⟨35,[.agg [.i .i64,.i .i64,.i .i64,.ll [.i64],.l [.i64,.i64,.i64,.i64,.i64,.i64]]],fun l=>match l with | [.z W,.z D,.z G,.ll L,.l C]=>BayOk 40 20 6 W D G L C | _=>False,fun l=>match l with | [.z W,.z D,.z G,.ll L,.l C]=>.i .i64 0 | _=>.v undef⟩
noncomputable def A_Check:List SV→List Dat→Nat→List SV→Ann:=fun xs ds n ts=>match xs with
 | [.agg [_,_,_,.lst x _ _ xe,.lst y _ _ ye]]=>match ds with
  | [.z W,.z D,.z G,.ll L,.l C]=>match n with
   | 6=>⟨Nat,fun k=>([none,some (SV.ptr ((0:Nat)) ((0:Nat)))]++nN 31++[some (SV.i IntKind.i64 (↑L.length:Int)),some (.i .i64 k)]++nN 27),fun k=>[SObj.cells [SV.i IntKind.i64 W,SV.i IntKind.i64 D,SV.i IntKind.i64 G,SV.lst x L.length ((1:Nat)) xe,SV.lst y C.length ((6:Nat)) ye] Kd.ex],fun k=>k≤L.length,fun k=>L.length-k,0⟩
   | 15=>⟨Nat,fun k=>([none,some (SV.ptr ((0:Nat)) ((0:Nat)))]++nN 47++[some (SV.lst y C.length ((6:Nat)) ye),some (SV.i IntKind.i64 (↑C.length:Int)),some (.i .i64 k)]++nN 10),fun k=>[SObj.cells [SV.i IntKind.i64 W,SV.i IntKind.i64 D,SV.i IntKind.i64 G,SV.lst x L.length ((1:Nat)) xe,SV.lst y C.length ((6:Nat)) ye] Kd.ex],fun k=>k≤C.length,fun k=>C.length-k,0⟩
   | _=>noAnn
  | _=>noAnn
 | _=>noAnn
def V_Check:Prop:=
 ∀(B:RW) (g f e:Int) (d:RV) (ys:Nat→RV) (R:List (List (List Int))),IsLL B [.i64] d ys R→oneB d=true→∀(b:RV) (a:List (List Int)),IsLst B b a.length 6 (Rv.elemOf I6 a)→oneB b=true→(∀row∈a,row.length=6)→BayOk (40:Int) (20:Int) (6:Int) g f e R a→Ob True∧(¬¬((1:Int)≤g∧g≤(200:Int))→Ob True∧(¬¬((1:Int)≤f∧f≤(20:Int))→Ob True∧(¬((1:Int)≤e∧e≤(6:Int))→Ob ((1:Int)=(0:Int))∧True)∧(¬¬((1:Int)≤e∧e≤(6:Int))→Ob (IsLst B d R.length 1 (llElem [.i64] ys R))∧Ob (InR .i64 (e-(1:Int)))∧(¬(↑R.length:Int)=e-(1:Int)→Ob ((2:Int)=(0:Int))∧True)∧(¬¬(↑R.length:Int)=e-(1:Int)→Ob (IsLst B d R.length 1 (llElem [.i64] ys R))∧(∃(h:Nat),Ob (h≤R.length)∧Ob ((↑R.length:Int)=(↑R.length:Int))∧Ob ((0:Int)=(↑h:Int))∧Ob (g=g)∧Ob (f=f)∧Ob (e=e)∧Ob (SV.lst d R.length 1 (llElem [.i64] ys R)=SV.lst d R.length 1 (llElem [.i64] ys R))∧Ob (SV.lst b a.length 6 (Rv.elemOf I6 a)=SV.lst b a.length 6 (Rv.elemOf I6 a))∧Ob (IsLst B d R.length 1 (llElem [.i64] ys R))∧LsA B b I6 a∧True)∧∀(h:Nat),h≤R.length→∀(_ _ _ _ _ _ _ _ _ _ _ _ _ _ _ _ _ _ _ _ _ _ _ _ _ _ _ _ _ _ _ _ _ _ _ _ _ _ _ _ _ _ _ _ _ _ _ _ _ _ _ _ _ _ _ _ _ _ _:Value),((↑h:Int) < (↑R.length:Int)→∃(R_1:List (List (List Int))),∃(ys_1:Nat→RV),Ob (R_1.length=R.length∧(∀(j:Nat),j < R.length→llElem [.i64] ys R j=llElem [.i64] ys_1 R_1 j)∧IsLL B [.i64] d ys_1 R_1)∧RwB B b a.length 6 I6 a fun k=>Ob (BayOk (40:Int) (40:Int) (40:Int) g f e R_1 k∧(0:Int)≤(↑h:Int)∧(↑h:Int) < (↑R_1.length:Int))∧(¬(0:Int)=(0:Int)→Ob ((0:Int)=(0:Int))∧True)∧(¬¬(0:Int)=(0:Int)→Ob (InR .i64 ((↑h:Int)+(1:Int)))∧∃(i:Nat),Ob (i≤R.length∧R.length-i < R.length-h)∧Ob ((↑R.length:Int)=(↑R.length:Int))∧Ob ((↑h:Int)+(1:Int)=(↑i:Int))∧Ob (g=g)∧Ob (f=f)∧Ob (e=e)∧Ob (SV.lst d R.length 1 (llElem [.i64] ys R)=SV.lst d R.length 1 (llElem [.i64] ys R))∧Ob (SV.lst b a.length 6 (Rv.elemOf I6 a)=SV.lst b a.length 6 (Rv.elemOf I6 a))∧Ob (IsLst B d R.length 1 (llElem [.i64] ys R))∧LsA B b I6 a∧True))∧(¬(↑h:Int) < (↑R.length:Int)→LsA B b I6 a∧((30:Int) < (↑a.length:Int)→Ob ((5:Int)=(0:Int))∧True)∧(¬(30:Int) < (↑a.length:Int)→LsA B b I6 a∧(∃(c:Nat),Ob (c≤a.length)∧Ob (SV.lst b a.length 6 (Rv.elemOf I6 a)=SV.lst b a.length 6 (Rv.elemOf I6 a))∧Ob ((↑a.length:Int)=(↑a.length:Int))∧Ob ((0:Int)=(↑c:Int))∧Ob (g=g)∧Ob (f=f)∧Ob (e=e)∧Ob (SV.lst d R.length 1 (llElem [.i64] ys R)=SV.lst d R.length 1 (llElem [.i64] ys R))∧Ob (SV.lst b a.length 6 (Rv.elemOf I6 a)=SV.lst b a.length 6 (Rv.elemOf I6 a))∧LsA B b I6 a∧Ob (IsLst B d R.length 1 (llElem [.i64] ys R))∧LsA B b I6 a∧True)∧∀(c:Nat),c≤a.length→∀(_ _ _ _ _ _ _ _ _ _ _ _ _ _ _ _ _ _ _ _ _ _ _ _ _ _ _ _ _ _ _ _ _ _ _ _ _ _ _ _ _ _ _ _ _ _ _ _ _ _ _ _ _ _ _ _ _ _:Value),((↑c:Int) < (↑a.length:Int)→Ob ((0:Int)≤(↑c:Int)∧c < a.length∧IsLst B b a.length 6 (Rv.elemOf I6 a))∧Ob (IsLst B b a.length 6 (Rv.elemOf I6 a)∧c < a.length)∧∃(R_1:List (List (List Int))),∃(ys_1:Nat→RV),Ob (R_1.length=R.length∧(∀(j:Nat),j < R.length→llElem [.i64] ys R j=llElem [.i64] ys_1 R_1 j)∧IsLL B [.i64] d ys_1 R_1)∧RwB B b a.length 6 I6 a fun k=>Ob (((0:Int)≤cell a c 0∧cell a c 0 < (↑R_1.length:Int))∧((0:Int)≤cell a c 1∧cell a c 1≤cell a c 2∧cell a c 2 < f)∧((0:Int)≤cell a c 3∧cell a c 3≤cell a c 4∧cell a c 4 < (365:Int))∧(-200:Int)≤cell a c 5∧cell a c 5≤(200:Int))∧(¬(0:Int)=(0:Int)→Ob ((0:Int)=(0:Int))∧True)∧(¬¬(0:Int)=(0:Int)→Ob (InR .i64 ((↑c:Int)+(1:Int)))∧∃(i:Nat),Ob (i≤a.length∧a.length-i < a.length-c)∧Ob (SV.lst b a.length 6 (Rv.elemOf I6 a)=SV.lst b a.length 6 (Rv.elemOf I6 a))∧Ob ((↑a.length:Int)=(↑a.length:Int))∧Ob ((↑c:Int)+(1:Int)=(↑i:Int))∧Ob (g=g)∧Ob (f=f)∧Ob (e=e)∧Ob (SV.lst d R.length 1 (llElem [.i64] ys R)=SV.lst d R.length 1 (llElem [.i64] ys R))∧Ob (SV.lst b a.length 6 (Rv.elemOf I6 a)=SV.lst b a.length 6 (Rv.elemOf I6 a))∧LsA B b I6 a∧Ob (IsLst B d R.length 1 (llElem [.i64] ys R))∧LsA B b I6 a∧True))∧(¬(↑c:Int) < (↑a.length:Int)→Ob ((0:Int)=(0:Int))∧True))))))∧(¬((1:Int)≤f∧f≤(20:Int))→Ob ((1:Int)=(0:Int))∧True))∧(¬((1:Int)≤g∧g≤(200:Int))→Ob ((1:Int)=(0:Int))∧True)
set_option linter.unusedSimpArgs false in
set_option maxRecDepth 4000 in
set_option maxHeartbeats 400000 in
theorem v_Check:V_Check:=by
 unfold V_Check I6 LsA RwB
 intro B W D G x ys L hx hox y C hy hoy hry hb
 simp only [Ob_iff,and_true,true_and,implies_true,Classical.not_not,not_true_eq_false]
 have hw:1≤W∧W≤200:=⟨hb.w.1,Int.le_trans hb.w.2 (by decide)⟩
 have hd:=hb.d
 have hg:=hb.g
 have hn:=hb.n
 have hC:=hb.c.len
 have iG:InR .i64 (G-1):=by simp only [InR]; omega
 refine⟨fun _=>⟨fun _=>⟨fun q=>absurd hg q,fun _=>⟨hx.1,iG,fun q=>absurd hn q,fun _=>⟨hx.1,⟨0,Nat.zero_le _,rfl,hx.1,hy⟩,?_⟩⟩⟩,fun q=>absurd hd q⟩,fun q=>absurd hw q⟩
 intro k hk
 intros
 refine⟨fun h1=>?_,fun h1=>⟨hy,fun q=>by omega,fun _=>⟨hy,⟨0,Nat.zero_le _,rfl,hy,hx.1,hy⟩,?_⟩⟩⟩
 ·have hkl:k < L.length:=by omega
  have i1:InR .i64 ((k:Int)+1):=by simp only [InR]; omega
  have i2:L.length-(k+1) < L.length-k:=by omega
  exact⟨L,ys,⟨rfl,fun i hi=>rfl,hx⟩,C,⟨hy,rfl,hry,fun i hi=>rfl⟩,⟨hb.mono (by decide) (by decide) (by decide),Int.natCast_nonneg k,h1⟩,fun _=>⟨i1,k+1,⟨hkl,i2⟩,rfl,hx.1,hy⟩⟩
 ·intro j hj
  intros
  rename_i h2
  have hjl:j < C.length:=by omega
  have i1:InR .i64 ((j:Int)+1):=by simp only [InR]; omega
  have i2:C.length-(j+1) < C.length-j:=by omega
  have c:=hb.c.at_ j hjl
  have c1:cell C j 0 < L.length:=by rw [hn]; exact c.2.1
  have c5:-200≤cell C j 5∧cell C j 5≤200:=⟨Int.le_trans (Int.neg_le_neg hw.2) c.2.2.2.2.2.2.2.2.1,Int.le_trans c.2.2.2.2.2.2.2.2.2 hw.2⟩
  exact⟨⟨Int.natCast_nonneg j,hjl,hy⟩,⟨hy,hjl⟩,L,ys,⟨rfl,fun i hi=>rfl,hx⟩,C,⟨hy,rfl,hry,fun i hi=>rfl⟩,⟨⟨c.1,c1⟩,⟨c.2.2.1,c.2.2.2.1,c.2.2.2.2.1⟩,⟨c.2.2.2.2.2.1,c.2.2.2.2.2.2.1,c.2.2.2.2.2.2.2.1⟩,c5⟩,fun _=>⟨i1,j+1,⟨hjl,i2⟩,rfl,hy,hx.1,hy⟩⟩
theorem e_Check:V_Check=needF P [F_within,F_checkLine,F_checkCustom] A_Check F_Check:=by kernel_rfl
theorem n_Check:Ob (needF P [F_within,F_checkLine,F_checkCustom] A_Check F_Check):=by
 rw [← e_Check]
 exact⟨v_Check⟩
theorem b_Check:((P.funcs[35]?).any fun fn=>fn.body.isSome)=true:=by kernel_rfl
theorem Check_ok:Fn0.Ok P F_Check:=Fn0.ok named (l:=[F_within,F_checkLine,F_checkCustom]) (A:=A_Check) (by rfl) (by
 intro F h
 simp only [List.mem_cons,List.not_mem_nil,or_false]at h
 rcases h with rfl | rfl | rfl
 ·exact within_ok
 ·exact checkLine_ok
 ·exact checkCustom_ok
) b_Check (by
 intro ds N
 simp only [F_Check]
 split<;>rfl) n_Check
end Go.Proofs.Ytcdifnheflhbmaa.Sy
