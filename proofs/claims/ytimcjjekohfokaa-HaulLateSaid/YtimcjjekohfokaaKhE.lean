import Derived.Test.YtimcjjekohfokaaSyP4
import Derived.Test.YtimcjjekohfokaaGrM
import Derived.Test.YtimcjjekohfokaaStM
import Derived.Test.YtimcjjekohfokaaKtT
import Derived.Test.YtimcjjekohfokaaSyP2
import Derived.Test.YtimcjjekohfokaaKhA
import Derived.Test.YtimcjjekohfokaaKhC
import Derived.Test.YtimcjjekohfokaaKhD
import Derived.KernelRfl
import Derived.Test.YtimcjjekohfokaaProg
namespace Go.Proofs.Ytimcjjekohfokaa.Sy
open Go Go.Rv
set_option linter.unusedVariables false
noncomputable def lateN (en ta ba:Int) (S:Rows) (L:List Rows) (P:Rows):Nat→Int→Nat
 | 0,_=>0
 | f+1,st=>if runE (st+1) en ta ba S L P=0 then lateN en ta ba S L P f (st+1)+1 else 0
noncomputable def late (st en ta ba:Int) (S:Rows) (L:List Rows) (P:Rows):Int:=(lateN en ta ba S L P (1441-st).toNat st:Nat)
theorem runE_st {st en ta ba:Int} {S:Rows} {L:List Rows} {P:Rows} (h:runE st en ta ba S L P=0):st≤en∧st≤1440:=by
 by_cases h0:chkT st en=0
 ·unfold chkT at h0
  by_cases h1:st≤1440
  ·rw [if_pos h1]at h0
   by_cases h2:st≤en
   ·exact⟨h2,h1⟩
   ·rw [if_neg h2]at h0; exact absurd h0 (by decide)
  ·rw [if_neg h1]at h0; exact absurd h0 (by decide)
 ·rw [run_bad h0]at h; exact absurd h h0
theorem lateN_end {en ta ba:Int} {S:Rows} {L:List Rows} {P:Rows} {st:Int} (h:runE (st+1) en ta ba S L P≠0):∀f,lateN en ta ba S L P f st=0
 | 0=>rfl
 | f+1=>if_neg h
structure LaI (st en ta ba:Int) (S:Rows) (L:List Rows) (P:Rows) (k:Nat):Prop where
 b:st+k≤1440
 f:late st en ta ba S L P=(k:Int)+(lateN en ta ba S L P ((1441-st).toNat-k) (st+k):Nat)
theorem LaI.zero {st en ta ba:Int} {S:Rows} {L:List Rows} {P:Rows} (h:runE st en ta ba S L P=0):LaI st en ta ba S L P 0:=by
 have:=runE_st h
 refine⟨by omega,?_⟩
 unfold late
 have e:st+((0:Nat):Int)=st:=by omega
 rw [e,Nat.sub_zero]
 omega
theorem LaI.next {st en ta ba:Int} {S:Rows} {L:List Rows} {P:Rows} {k:Nat} (h:LaI st en ta ba S L P k) (h1:runE (st+k+1) en ta ba S L P=0):LaI st en ta ba S L P (k+1):=by
 have hb:=runE_st h1
 have hf:=h.f
 obtain⟨f,hff⟩:∃f,(1441-st).toNat-k=f+1:=⟨(1441-st).toNat-k-1,by omega⟩
 rw [hff,lateN,if_pos h1]at hf
 refine⟨by omega,?_⟩
 have e:(1441-st).toNat-(k+1)=f:=by omega
 have e2:st+((k+1:Nat):Int)=st+k+1:=by omega
 rw [e,e2,hf]
 omega
theorem LaI.stop {st en ta ba:Int} {S:Rows} {L:List Rows} {P:Rows} {k:Nat} (h:LaI st en ta ba S L P k) (h1:¬ runE (st+k+1) en ta ba S L P=0):late st en ta ba S L P=k:=by
 rw [h.f,lateN_end h1]
 omega
theorem lateN_le {en ta ba:Int} {S:Rows} {L:List Rows} {P:Rows}:∀(f:Nat) (st:Int) (d:Nat),runE st en ta ba S L P=0→d≤lateN en ta ba S L P f st→runE (st+d) en ta ba S L P=0
 | 0,st,d,h,hd=>by
  obtain rfl:d=0:=by simpa [lateN] using hd
  rw [show st+((0:Nat):Int)=st by omega]; exact h
 | f+1,st,d,h,hd=>by
  rw [lateN]at hd
  by_cases h1:runE (st+1) en ta ba S L P=0
  ·rw [if_pos h1]at hd
   cases d with
   | zero=>rw [show st+((0:Nat):Int)=st by omega]; exact h
   | succ d =>
    have:=lateN_le f (st+1) d h1 (by omega)
    rw [show st+((d+1:Nat):Int)=st+1+d by omega]; exact this
  ·rw [if_neg h1]at hd
   obtain rfl:d=0:=by omega
   rw [show st+((0:Nat):Int)=st by omega]; exact h
theorem lateN_gt {en ta ba:Int} {S:Rows} {L:List Rows} {P:Rows}:∀(f:Nat) (st:Int),1441≤st+f→runE (st+lateN en ta ba S L P f st+1) en ta ba S L P≠0
 | 0,st,hf=>fun h=>by
  have:=(runE_st h).2
  omega
 | f+1,st,hf=>by
  by_cases h1:runE (st+1) en ta ba S L P=0
  ·rw [lateN,if_pos h1]
   have:=lateN_gt (en:=en) (ta:=ta) (ba:=ba) (S:=S) (L:=L) (P:=P) f (st+1) (by omega)
   rw [show st+((lateN en ta ba S L P f (st+1)+1:Nat):Int)+1=st+1+(lateN en ta ba S L P f (st+1):Nat)+1 by omega]
   exact this
  ·rw [lateN,if_neg h1]
   rw [show st+((0:Nat):Int)+1=st+1 by omega]
   exact h1
noncomputable def F_earns:FnE:=⟨12,none,[.agg [.i .i64,.i .i64,.i .i64,.i .i64,.i .i64,.l [.i64,.i64,.i64,.i64,.i64,.i64],.ll [.i64,.i64]],.one (.l [.i64])],fun l=>match l with | [.z st,.z en,.z ta,.z pr,.z ba,.l S,.ll L,.l P]=>(0≤st∧st≤1000000)∧TourOk 8 en ta pr ba S L∧P.length≤1000 | _=>False,fun l=>match l with | [.z st,.z en,.z ta,.z pr,.z ba,.l S,.ll L,.l P]=>[.i .i64 (z0 (runE st en ta ba S L P) (worthK S P P.length-pr*homeF S L P P.length)),.p ((runE st en ta ba S L P)=0)] | _=>[],fun l=>match l with | [.z st,.z en,.z ta,.z pr,.z ba,.l S,.ll L,.l P]=>[] | _=>[],fun l=>match l with | [.z st,.z en,.z ta,.z pr,.z ba,.l S,.ll L,.l P]=>[] | _=>[],false,none,none⟩
noncomputable def A_earns:List SV→List Dat→Nat→List SV→Ann:=fun _ _ _ _=>noAnn
def V_earns:Prop:=
 ∀(B:RW) (g d e i f:Int) (k:RV) (b:List (List Int)),IsLst B k b.length 6 (Rv.elemOf I6 b)→oneB k=true→(∀row∈b,row.length=6)→∀(l:RV) (ys:Nat→RV) (R:List (List (List Int))),IsLL B I2 l ys R→oneB l=true→∀(j:RV) (a:List (List Int)),IsLst B j a.length 1 (Rv.elemOf [.i64] a)→oneB j=true→(∀row∈a,row.length=1)→F_earns.pre ([Dat.z g,Dat.z d,Dat.z e,Dat.z i,Dat.z f,Dat.l b,Dat.ll R]++([Dat.l a]++[]))→RwB B k b.length 6 I6 b fun h=>∃(R_1:List (List (List Int))),∃(ys_1:Nat→RV),Ob (R_1.length=R.length∧(∀(m:Nat),m < R.length→llElem I2 ys R m=llElem I2 ys_1 R_1 m)∧IsLL B I2 l ys_1 R_1)∧RwB B j a.length 1 [.i64] a fun c=>Ob (F_Run.pre ([Dat.z g,Dat.z d,Dat.z e,Dat.z i,Dat.z f,Dat.l h,Dat.ll R_1]++[Dat.l c]))∧Ob (z0 (runE g d e f h R_1 c) (worthK h c c.length-i*homeF h R_1 c c.length)=z0 (runE g d e f b R a) (worthK b a a.length-i*homeF b R a a.length))∧Ob (runE g d e f h R_1 c=(0:Int)↔runE g d e f b R a=(0:Int))∧True
set_option linter.unusedSimpArgs false in
set_option maxRecDepth 4000 in
set_option maxHeartbeats 400000 in
theorem v_earns:V_earns:=by
 unfold V_earns I2 I6 RwB
 intro B st en ta pr ba x S hx hox hrx y ys L hy hoy z P hz hoz hrz ⟨hs,ht,hP⟩
 simp only [Ob_iff,and_true,true_and,implies_true,Classical.not_not]
 exact⟨S,⟨hx,rfl,hrx,fun i hi=>rfl⟩,L,ys,⟨rfl,fun i hi=>rfl,hy⟩,P,⟨hz,rfl,hrz,fun i hi=>rfl⟩,⟨hs,ht,hP⟩,rfl,.rfl⟩
theorem e_earns:V_earns=needE P [] [F_Run] A_earns F_earns:=by kernel_rfl
theorem n_earns:Ob (needE P [] [F_Run] A_earns F_earns):=by
 rw [← e_earns]
 exact⟨v_earns⟩
theorem b_earns:((P.funcs[12]?).any fun fn=>fn.body.isSome)=true:=by kernel_rfl
theorem earns_ok:FnE.Ok P F_earns:=FnE.ok named (l:=[]) (es:=[F_Run]) (A:=A_earns) (by rfl) (by rfl) (by rfl) (by
 intro F h; simp at h) (by
 intro F h
 simp only [List.mem_cons,List.not_mem_nil,or_false]at h
 rcases h with rfl
 ·exact Run_ok
) b_earns (by
 rintro ds h o ho n sz e k z rfl
 simp only [F_earns]at ho
 split at ho<;>simp at ho) n_earns
noncomputable def F_Late:FnE:=⟨8,none,[.agg [.i .i64,.i .i64,.i .i64,.i .i64,.i .i64,.l [.i64,.i64,.i64,.i64,.i64,.i64],.ll [.i64,.i64]],.one (.l [.i64])],fun l=>match l with | [.z st,.z en,.z ta,.z pr,.z ba,.l S,.ll L,.l P]=>(0≤st∧st≤1440)∧TourOk 8 en ta pr ba S L∧P.length≤1000 | _=>False,fun l=>match l with | [.z st,.z en,.z ta,.z pr,.z ba,.l S,.ll L,.l P]=>[.i .i64 (z0 (runE st en ta ba S L P) (late st en ta ba S L P)),.i .i64 (runE st en ta ba S L P)] | _=>[],fun l=>match l with | [.z st,.z en,.z ta,.z pr,.z ba,.l S,.ll L,.l P]=>[] | _=>[],fun l=>match l with | [.z st,.z en,.z ta,.z pr,.z ba,.l S,.ll L,.l P]=>[] | _=>[],false,none,none⟩
noncomputable def A_Late:List SV→List Dat→Nat→List SV→Ann:=fun xs ds n ts=>match xs with
 | [.agg [_,_,_,_,_,.lst x _ _ xe,.lst y _ _ ye],.lst z _ _ ze]=>match ds with
  | [.z st,.z en,.z ta,.z pr,.z ba,.l S,.ll L,.l P]=>match n with
   | 6=>⟨Nat,fun k=>([none,some (SV.lst z P.length ((1:Nat)) ze),some (SV.ptr ((0:Nat)) ((0:Nat))),none,none,none,none,none,none,some (.i .i64 ((k:Int)+1))]++nN 30),fun k=>[.dead,.dead,.cells [.i .i64 (st+k),.i .i64 en,.i .i64 ta,.i .i64 pr,.i .i64 ba,.lst x S.length 6 xe,.lst y L.length 1 ye] .ex],fun k=>LaI st en ta ba S L P k,fun k=>(1441-st).toNat-k,0⟩
   | _=>noAnn
  | _=>noAnn
 | _=>noAnn
def V_Late:Prop:=
 ∀(B:RW) (c d e l f:Int) (i:RV) (a:List (List Int)),IsLst B i a.length 6 (Rv.elemOf I6 a)→oneB i=true→(∀row∈a,row.length=6)→∀(j:RV) (ys:Nat→RV) (R:List (List (List Int))),IsLL B I2 j ys R→oneB j=true→∀(h:RV) (b:List (List Int)),IsLst B h b.length 1 (Rv.elemOf [.i64] b)→oneB h=true→(∀row∈b,row.length=1)→F_Late.pre ([Dat.z c,Dat.z d,Dat.z e,Dat.z l,Dat.z f,Dat.l a,Dat.ll R]++([Dat.l b]++[]))→RwB B i a.length 6 I6 a fun n=>∃(R_1:List (List (List Int))),∃(ys_1:Nat→RV),Ob (R_1.length=R.length∧(∀(k:Nat),k < R.length→llElem I2 ys R k=llElem I2 ys_1 R_1 k)∧IsLL B I2 j ys_1 R_1)∧RwB B h b.length 1 [.i64] b fun m=>Ob (F_Run.pre ([Dat.z c,Dat.z d,Dat.z e,Dat.z l,Dat.z f,Dat.l n,Dat.ll R_1]++[Dat.l m]))∧(¬runE c d e f n R_1 m=(0:Int)→Ob ((0:Int)=z0 (runE c d e f a R b) (late c d e f a R b))∧Ob (runE c d e f n R_1 m=runE c d e f a R b)∧True)∧(¬¬runE c d e f n R_1 m=(0:Int)→(∃(g:Nat),Ob (LaI c d e f a R b g)∧Ob (SV.lst h b.length 1 (Rv.elemOf [.i64] b)=SV.lst h b.length 1 (Rv.elemOf [.i64] b))∧Ob ((1:Int)=(↑g:Int)+(1:Int))∧Ob (c=c+(↑g:Int))∧Ob (d=d)∧Ob (e=e)∧Ob (l=l)∧Ob (f=f)∧Ob (SV.lst i a.length 6 (Rv.elemOf I6 a)=SV.lst i a.length 6 (Rv.elemOf I6 a))∧Ob (SV.lst j R.length 1 (llElem I2 ys R)=SV.lst j R.length 1 (llElem I2 ys R))∧LsA B h [.i64] b∧LsA B i I6 a∧Ob (IsLst B j R.length 1 (llElem I2 ys R))∧True)∧∀(g:Nat),LaI c d e f a R b g→∀(_ _ _ _ _ _ _ _ _ _ _ _ _ _ _ _ _ _ _ _ _ _ _ _ _ _ _ _ _ _ _ _ _ _ _ _ _:Value),Ob (InR .i64 (c+(↑g:Int)+(1:Int)))∧RwB B i a.length 6 I6 a fun p=>∃(R_2:List (List (List Int))),∃(ys_2:Nat→RV),Ob (R_2.length=R.length∧(∀(k:Nat),k < R.length→llElem I2 ys R k=llElem I2 ys_2 R_2 k)∧IsLL B I2 j ys_2 R_2)∧RwB B h b.length 1 [.i64] b fun q=>Ob (F_Run.pre ([Dat.z (c+(↑g:Int)+(1:Int)),Dat.z d,Dat.z e,Dat.z l,Dat.z f,Dat.l p,Dat.ll R_2]++[Dat.l q]))∧(¬runE (c+(↑g:Int)+(1:Int)) d e f p R_2 q=(0:Int)→Ob (InR .i64 ((↑g:Int)+(1:Int)-(1:Int)))∧Ob ((↑g:Int)+(1:Int)-(1:Int)=z0 (runE c d e f a R b) (late c d e f a R b))∧Ob ((0:Int)=runE c d e f a R b)∧True)∧(¬¬runE (c+(↑g:Int)+(1:Int)) d e f p R_2 q=(0:Int)→Ob (InR .i64 ((↑g:Int)+(1:Int)+(1:Int)))∧∃(o:Nat),Ob (LaI c d e f a R b o∧((1441:Int)-c).toNat-o < ((1441:Int)-c).toNat-g)∧Ob (SV.lst h b.length 1 (Rv.elemOf [.i64] b)=SV.lst h b.length 1 (Rv.elemOf [.i64] b))∧Ob ((↑g:Int)+(1:Int)+(1:Int)=(↑o:Int)+(1:Int))∧Ob (c+(↑g:Int)+(1:Int)=c+(↑o:Int))∧Ob (d=d)∧Ob (e=e)∧Ob (l=l)∧Ob (f=f)∧Ob (SV.lst i a.length 6 (Rv.elemOf I6 a)=SV.lst i a.length 6 (Rv.elemOf I6 a))∧Ob (SV.lst j R.length 1 (llElem I2 ys R)=SV.lst j R.length 1 (llElem I2 ys R))∧LsA B h [.i64] b∧LsA B i I6 a∧Ob (IsLst B j R.length 1 (llElem I2 ys R))∧True))
set_option linter.unusedSimpArgs false in
set_option maxRecDepth 4000 in
set_option maxHeartbeats 400000 in
theorem v_Late:V_Late:=by
 unfold V_Late I2 I6 LsA RwB
 intro B st en ta pr ba x S hx hox hrx y ys L hy hoy z P hz hoz hrz ⟨hs,ht,hP⟩
 simp only [Ob_iff,and_true,true_and,implies_true,Classical.not_not]
 refine⟨S,⟨hx,rfl,hrx,fun i hi=>rfl⟩,L,ys,⟨rfl,fun i hi=>rfl,hy⟩,P,⟨hz,rfl,hrz,fun i hi=>rfl⟩,⟨⟨hs.1,by omega⟩,ht,hP⟩,fun h=>⟨(if_neg h).symm,rfl⟩,fun h=>⟨⟨0,.zero h,rfl,by omega,hz,hx,hy.1⟩,?_⟩⟩
 intro k hk
 intros
 have hb:=hk.b
 refine⟨by simp only [InR]; omega,S,⟨hx,rfl,hrx,fun i hi=>rfl⟩,L,ys,⟨rfl,fun i hi=>rfl,hy⟩,P,⟨hz,rfl,hrz,fun i hi=>rfl⟩,⟨⟨by omega,by omega⟩,ht,hP⟩,fun h1=>⟨by simp only [InR]; omega,?_,h.symm⟩,fun h1=>⟨by simp only [InR]; omega,k+1,⟨hk.next h1,by omega⟩,by omega,by omega,hz,hx,hy.1⟩⟩
 have e:z0 (runE st en ta ba S L P) (late st en ta ba S L P)=late st en ta ba S L P:=if_pos h
 rw [e,hk.stop h1]
 omega
theorem e_Late:V_Late=needE P [] [F_Run] A_Late F_Late:=by kernel_rfl
theorem n_Late:Ob (needE P [] [F_Run] A_Late F_Late):=by
 rw [← e_Late]
 exact⟨v_Late⟩
theorem b_Late:((P.funcs[8]?).any fun fn=>fn.body.isSome)=true:=by kernel_rfl
theorem Late_ok:FnE.Ok P F_Late:=FnE.ok named (l:=[]) (es:=[F_Run]) (A:=A_Late) (by rfl) (by rfl) (by rfl) (by
 intro F h; simp at h) (by
 intro F h
 simp only [List.mem_cons,List.not_mem_nil,or_false]at h
 rcases h with rfl
 ·exact Run_ok
) b_Late (by
 rintro ds h o ho n sz e k z rfl
 simp only [F_Late]at ho
 split at ho<;>simp at ho) n_Late
end Go.Proofs.Ytimcjjekohfokaa.Sy
