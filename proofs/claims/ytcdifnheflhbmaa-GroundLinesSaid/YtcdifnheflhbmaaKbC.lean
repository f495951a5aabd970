import Derived.Test.YtcdifnheflhbmaaSyP4
import Derived.Test.YtcdifnheflhbmaaGrM
import Derived.Test.YtcdifnheflhbmaaStM
import Derived.Test.YtcdifnheflhbmaaKtT
import Derived.Test.YtcdifnheflhbmaaSyP2
import Derived.Test.YtcdifnheflhbmaaKbA
import Derived.Test.YtcdifnheflhbmaaKbB
import Derived.KernelRfl
import Derived.Test.YtcdifnheflhbmaaProg
namespace Go.Proofs.Ytcdifnheflhbmaa.Sy
open Go Go.Rv
set_option linter.unusedVariables false
noncomputable def leftK (W:Int) (L:List Rows) (C:Rows) (day row:Int):Nat→Int
 | 0=>0
 | k+1=>min (max (wishK L C day k row C.length) (leftK W L C day row k)) W
noncomputable def holdK (W:Int) (L:List Rows) (C:Rows) (day x row:Int):Nat→Nat
 | 0=>0
 | k+1=>if holdK W L C day x row k < k then holdK W L C day x row k else if x < leftK W L C day row (k+1)then k else k+1
theorem holdK_le {W:Int} {L:List Rows} {C:Rows} {day x row:Int}:∀k,holdK W L C day x row k≤k
 | 0=>Nat.le_refl _
 | k+1=>by
  have ih:=holdK_le (W:=W) (L:=L) (C:=C) (day:=day) (x:=x) (row:=row) k
  rw [holdK]
  split
  ·omega
  ·split<;>omega
theorem holdK_stop {W:Int} {L:List Rows} {C:Rows} {day x row:Int} {k:Nat} (h:holdK W L C day x row k=k) (hx:x < leftK W L C day row (k+1)):∀d,holdK W L C day x row (k+1+d)=k
 | 0=>by rw [Nat.add_zero,holdK,if_neg (by omega),if_pos hx]
 | d+1=>by
  have ih:=holdK_stop h hx d
  rw [← Nat.add_assoc,holdK,if_pos (by omega),ih]
theorem holdK_at {W:Int} {L:List Rows} {C:Rows} {day x row:Int} {k n:Nat} (h:holdK W L C day x row k=k) (hx:x < leftK W L C day row (k+1)) (hk:k < n):holdK W L C day x row n=k:=by
 obtain⟨d,rfl⟩:∃d,n=k+1+d:=⟨n-(k+1),by omega⟩
 exact holdK_stop h hx d
theorem holdK_next {W:Int} {L:List Rows} {C:Rows} {day x row:Int} {k:Nat} (h:holdK W L C day x row k=k) (hx:¬ x < leftK W L C day row (k+1)):holdK W L C day x row (k+1)=k+1:=by
 rw [holdK,if_neg (by omega),if_neg hx]
noncomputable def F_holder:FnE:=⟨25,none,[.agg [.i .i64,.i .i64,.i .i64,.ll [.i64],.l [.i64,.i64,.i64,.i64,.i64,.i64]],i64,i64,i64],fun l=>match l with | [.z W,.z D,.z G,.ll L,.l C,.z day,.z x0,.z row]=>BayOk 40 40 40 W D G L C∧(0≤day∧day≤1000000)∧0≤row∧row < D | _=>False,fun l=>match l with | [.z W,.z D,.z G,.ll L,.l C,.z day,.z x0,.z row]=>[.i .i64 (holdK W L C day x0 row L.length)] | _=>[],fun l=>match l with | [.z W,.z D,.z G,.ll L,.l C,.z day,.z x0,.z row]=>[] | _=>[],fun l=>match l with | [.z W,.z D,.z G,.ll L,.l C,.z day,.z x0,.z row]=>[] | _=>[],false,none,none⟩
noncomputable def A_holder:List SV→List Dat→Nat→List SV→Ann:=fun _ _ _ _=>noAnn
noncomputable def A_holder_1:List SV→List Dat→List SV→List SObj→Nat→List SV→Ann:=fun _ _ _ _ _ _=>noAnn
noncomputable def A_holder_2:List SV→List Dat→List SV→List SObj→Nat→List SV→Ann:=fun xs ds ar bs n ts=>match xs with
 | [.agg [_,_,_,.lst x _ _ xe,.lst y _ _ ye],_,_,_]=>match ds with
  | [.z W,.z D,.z G,.ll L,.l C,.z day,.z x0,.z row]=>match n with
   | 2=>⟨Nat,fun k=>([some (SV.yl ((7:Nat))),some (SV.ptr ((3:Nat)) ((0:Nat))),some (SV.ptr ((4:Nat)) ((0:Nat))),some (SV.ptr ((5:Nat)) ((0:Nat))),none,some (.i .i64 (leftK W L C day row k)),none,none,none,some (SV.i IntKind.i64 (↑L.length:Int)),some (.i .i64 k)]++nN 18),fun k=>[.dead,SObj.dead,SObj.cells [SV.i IntKind.i64 row] Kd.ex,SObj.cells [SV.i IntKind.i64 day] Kd.ex,SObj.cells [SV.i IntKind.i64 W,SV.i IntKind.i64 D,SV.i IntKind.i64 G,SV.lst x L.length ((1:Nat)) xe,SV.lst y C.length ((6:Nat)) ye] Kd.ex,.cells [.i .i64 k] .ex,SObj.cells [SV.i IntKind.i64 x0] Kd.ex,SObj.cells [SV.i IntKind.i64 W,SV.i IntKind.i64 D,SV.i IntKind.i64 G,SV.lst x L.length ((1:Nat)) xe,SV.lst y C.length ((6:Nat)) ye] Kd.ex],fun k=>k≤L.length∧holdK W L C day x0 row k=k,fun k=>L.length-k,0⟩
   | _=>noAnn
  | _=>noAnn
 | _=>noAnn
noncomputable def I_holder:List SV→List Dat→List In:=fun xs ds=>[⟨23,A_holder_1 xs ds⟩,⟨37,A_holder_2 xs ds⟩]
def V_holder:Prop:=
 ∀(B:RW) (c i j:Int) (f:RV) (ys:Nat→RV) (R:List (List (List Int))),IsLL B [.i64] f ys R→oneB f=true→∀(g:RV) (a:List (List Int)),IsLst B g a.length 6 (Rv.elemOf I6 a)→oneB g=true→(∀row∈a,row.length=6)→∀(e h d:Int),F_holder.pre ([Dat.z c,Dat.z i,Dat.z j,Dat.ll R,Dat.l a]++([Dat.z e]++([Dat.z h]++([Dat.z d]++[]))))→∀(R_1:LR),R_1.b=B.n+(7:Nat)→Ob (IsLst B f R.length 1 (llElem [.i64] ys R))∧(∃(b:Nat),Ob (b≤R.length∧holdK c R a e h d b=b)∧Ob ((0:Int)=leftK c R a e d b)∧Ob ((↑R.length:Int)=(↑R.length:Int))∧Ob ((0:Int)=(↑b:Int))∧Ob (R_1=R_1)∧Ob (d=d)∧Ob (e=e)∧Ob (c=c)∧Ob (i=i)∧Ob (j=j)∧Ob (SV.lst f R.length 1 (llElem [.i64] ys R)=SV.lst f R.length 1 (llElem [.i64] ys R))∧Ob (SV.lst g a.length 6 (Rv.elemOf I6 a)=SV.lst g a.length 6 (Rv.elemOf I6 a))∧Ob ((0:Int)=(↑b:Int))∧Ob (h=h)∧Ob (c=c)∧Ob (i=i)∧Ob (j=j)∧Ob (SV.lst f R.length 1 (llElem [.i64] ys R)=SV.lst f R.length 1 (llElem [.i64] ys R))∧Ob (SV.lst g a.length 6 (Rv.elemOf I6 a)=SV.lst g a.length 6 (Rv.elemOf I6 a))∧Ob (R_1.b≤B.n+(8:Nat))∧Ob (IsLst B f R.length 1 (llElem [.i64] ys R))∧LsA B g I6 a∧Ob (IsLst B f R.length 1 (llElem [.i64] ys R))∧LsA B g I6 a∧True)∧∀(b:Nat),b≤R.length∧holdK c R a e h d b=b→∀(_ _ _ _ _ _ _ _ _ _ _ _ _ _ _ _ _ _ _ _ _ _:Value),((↑b:Int) < (↑R.length:Int)→Ob (IsLst B f R.length 1 (llElem [.i64] ys R))∧LsA B g I6 a∧∃(R_2:List (List (List Int))),∃(ys_1:Nat→RV),Ob (R_2.length=R.length∧(∀(m:Nat),m < R.length→llElem [.i64] ys R m=llElem [.i64] ys_1 R_2 m)∧IsLL B [.i64] f ys_1 R_2)∧RwB B g a.length 6 I6 a fun k=>Ob (BayOk (40:Int) (40:Int) (40:Int) c i j R_2 k∧((0:Int)≤e∧e≤(1000000:Int))∧((0:Int)≤(↑b:Int)∧(↑b:Int) < (↑R_2.length:Int))∧(0:Int)≤d∧d < i)∧Ob (B=B)∧Ob (R_1=R_1)∧(h < min (max (wishK R_2 k e (↑b:Int) d k.length) (leftK c R a e d b)) c→Ob ((↑b:Int)=(↑(holdK c R a e h d R.length):Int))∧True)∧(¬h < min (max (wishK R_2 k e (↑b:Int) d k.length) (leftK c R a e d b)) c→Ob (InR .i64 ((↑b:Int)+(1:Int)))∧Ob (InR .i64 ((↑b:Int)+(1:Int)))∧∃(l:Nat),Ob ((l≤R.length∧holdK c R a e h d l=l)∧R.length-l < R.length-b)∧Ob (min (max (wishK R_2 k e (↑b:Int) d k.length) (leftK c R a e d b)) c=leftK c R a e d l)∧Ob ((↑R.length:Int)=(↑R.length:Int))∧Ob ((↑b:Int)+(1:Int)=(↑l:Int))∧Ob (R_1=R_1)∧Ob (d=d)∧Ob (e=e)∧Ob (c=c)∧Ob (i=i)∧Ob (j=j)∧Ob (SV.lst f R.length 1 (llElem [.i64] ys R)=SV.lst f R.length 1 (llElem [.i64] ys R))∧Ob (SV.lst g a.length 6 (Rv.elemOf I6 a)=SV.lst g a.length 6 (Rv.elemOf I6 a))∧Ob ((↑b:Int)+(1:Int)=(↑l:Int))∧Ob (h=h)∧Ob (c=c)∧Ob (i=i)∧Ob (j=j)∧Ob (SV.lst f R.length 1 (llElem [.i64] ys R)=SV.lst f R.length 1 (llElem [.i64] ys R))∧Ob (SV.lst g a.length 6 (Rv.elemOf I6 a)=SV.lst g a.length 6 (Rv.elemOf I6 a))∧Ob (R_1.b≤B.n+(8:Nat))∧Ob (IsLst B f R.length 1 (llElem [.i64] ys R))∧LsA B g I6 a∧Ob (IsLst B f R.length 1 (llElem [.i64] ys R))∧LsA B g I6 a∧True))∧(¬(↑b:Int) < (↑R.length:Int)→Ob ((↑b:Int)=(↑(holdK c R a e h d R.length):Int))∧True)
set_option linter.unusedSimpArgs false in
set_option maxRecDepth 4000 in
set_option maxHeartbeats 400000 in
theorem v_holder:V_holder:=by
 unfold V_holder I6 LsA RwB
 intro B W D G x ys L hx hox y C hy hoy hry day x0 row ⟨hb,hd,hr⟩ R1 hR1
 simp only [Ob_iff,and_true,true_and]
 have hn:(L.length:Int)=G-1:=hb.n
 have hg:=hb.g
 have hw:=hb.w
 refine⟨hx.1,⟨0,⟨Nat.zero_le _,rfl⟩,rfl,rfl,rfl,by omega,hx.1,hy,hx.1,hy⟩,?_⟩
 intro k ⟨hk,hh⟩
 intros
 refine⟨fun h1=>?_,fun h1=>?_⟩
 ·have hkl:k < L.length:=by omega
  have i1:InR .i64 ((k:Int)+1):=by simp only [InR]; omega
  have i2:L.length-(k+1) < L.length-k:=by omega
  have hR:R1.b≤B.n+8:=by omega
  refine⟨hx.1,hy,L,ys,⟨rfl,fun i hi=>rfl,hx⟩,C,⟨hy,rfl,hry,fun i hi=>rfl⟩,⟨hb,hd,⟨Int.natCast_nonneg k,by omega⟩,hr⟩,fun h2=>?_,fun h2=>?_⟩
  ·rw [holdK_at hh h2 hkl]
  ·exact⟨i1,i1,k+1,⟨⟨hkl,holdK_next hh h2⟩,i2⟩,rfl,rfl,rfl,hR,hx.1,hy,hx.1,hy⟩
 ·have e:k=L.length:=by omega
  rw [← e,hh]
theorem e_holder:V_holder=needEI P [F_wish] [] I_holder A_holder F_holder:=by kernel_rfl
theorem n_holder:Ob (needEI P [F_wish] [] I_holder A_holder F_holder):=by
 rw [← e_holder]
 exact⟨v_holder⟩
theorem b_holder:((P.funcs[25]?).any fun fn=>fn.body.isSome)=true:=by kernel_rfl
theorem holder_ok:FnE.Ok P F_holder:=FnE.okI named (l:=[F_wish]) (es:=[]) (I:=I_holder) (A:=A_holder) (by rfl) (by rfl) (by rfl) (by
 intro F h
 simp only [List.mem_cons,List.not_mem_nil,or_false]at h
 rcases h with rfl
 ·exact wish_ok
) (by
 intro F h; simp at h) b_holder (by
 rintro ds h o ho n sz e k z rfl
 simp only [F_holder]at ho
 split at ho<;>simp at ho) n_holder
end Go.Proofs.Ytcdifnheflhbmaa.Sy
