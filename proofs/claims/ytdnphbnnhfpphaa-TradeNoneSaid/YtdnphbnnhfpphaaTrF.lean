import Derived.Test.YtdnphbnnhfpphaaSyP2
import Derived.Test.YtdnphbnnhfpphaaGrM
import Derived.Test.YtdnphbnnhfpphaaKtT
import Derived.Test.YtdnphbnnhfpphaaTrA
import Derived.Test.YtdnphbnnhfpphaaTrN
import Derived.Test.YtdnphbnnhfpphaaTrB
import Derived.Test.YtdnphbnnhfpphaaTrC
import Derived.Test.YtdnphbnnhfpphaaTrD
import Derived.Test.YtdnphbnnhfpphaaTrE
import Derived.Test.YtdnphbnnhfpphaaSyP2
import Derived.KernelRfl
import Derived.Test.YtdnphbnnhfpphaaProg
namespace Go.Proofs.Ytdnphbnnhfpphaa.Sy
open Go Go.Rv
set_option linter.unusedVariables false
noncomputable def mrRow (a:Int) (k:Nat):List Int:=[codeOf (gnm k),mrLo (mkQ a k),mrHi (mkQ a k),mrS (mkQ a k),mrW (mkQ a k),mrP (mkQ a k)]
theorem mk_get (a:Int):∀ {k i:Nat},i < k→(mkR a k).getD i []=mrRow a i
 | 0,i,h=>by omega
 | k+1,i,h=>by
  have e:mkR a (k+1)=mkR a k++[mrRow a k]:=rfl
  have hl:=mk_len a k
  rw [e,List.getD_eq_getElem?_getD]
  by_cases h2:i < k
  ·rw [List.getElem?_append_left (by omega),← List.getD_eq_getElem?_getD]
   exact mk_get a h2
  ·have:i=(mkR a k).length:=by omega
   rw [this]
   simp [hl]
theorem mk_mem (a:Int):∀ {k:Nat} {r:List Int},r∈mkR a k→∃i,r=mrRow a i
 | 0,r,h=>by simp [mkR]at h
 | k+1,r,h=>by
  have e:mkR a (k+1)=mkR a k++[mrRow a k]:=rfl
  rw [e,List.mem_append]at h
  rcases h with h | h
  ·exact mk_mem a h
  ·exact⟨k,by simpa using h⟩
theorem ofV_three' (a x y z:Int):ofV a [[x],[y],[z]]=x∨ofV a [[x],[y],[z]]=y∨ofV a [[x],[y],[z]]=z:=by
 have h:=belowV_in a 3
 have e:ofV a [[x],[y],[z]]=cell [[x],[y],[z]] (belowV a 3).toNat 0:=by simp [ofV]
 rw [e]
 have:(belowV a 3).toNat=0∨(belowV a 3).toNat=1∨(belowV a 3).toNat=2:=by
  generalize belowV a 3=q at *
  omega
 rcases this with h0 | h0 | h0<;>rw [h0]
 ·exact .inl rfl
 ·exact .inr (.inl rfl)
 ·exact .inr (.inr rfl)
theorem mr_bd (b:Int):(1≤mrLo b∧mrLo b≤mrHi b∧mrHi b≤20000)∧0≤mrP b∧mrP b≤100000:=by
 have h1:440≤mrLo b∧mrLo b≤620:=by
  have:=belowV_in b (620-440+1)
  unfold mrLo
  generalize belowV b (620-440+1)=q at *
  omega
 have h2:mrO b=mrLo b+20∨mrO b=900:=ofV_two' _ _ _
 have h3:=belowV_in (mrA2 b) (mrO b-mrLo b+1)
 have h4:mrHi b=mrLo b+belowV (mrA2 b) (mrO b-mrLo b+1):=rfl
 have h5:mrP b=0∨mrP b=mrX b∨mrP b=mrY b:=ofV_three' _ _ _ _
 have h6:0≤mrX b∧(mrX b < 2500∨mrX b=0):=belowV_in _ _
 have h7:0≤mrY b∧(mrY b < 100001∨mrY b=0):=belowV_in _ _
 rw [h4]
 generalize belowV (mrA2 b) (mrO b-mrLo b+1)=q at *
 generalize mrP b=p at *
 generalize mrX b=x at *
 generalize mrY b=y at *
 clear h4
 omega
theorem can_tx (s:ByteArray):canC .u16 (codeOf s):=by
 show codeOf (strOf (codeOf s))=codeOf s
 rw [strOf_code]
theorem can_p01 (b:Prop):canC .i8 (p01 b):=(p01_iff b).2
theorem mk_ok (a:Int) {k:Nat} (h:1≤k∧k≤4):MkOk (mkR a k):=by
 have hl:=mk_len a k
 have hc:∀i j,i < k→cell (mkR a k) i j=(mrRow a i).getD j 0:=fun i j hi=>by
  unfold cell
  rw [mk_get a hi]
 refine⟨by omega,fun r hr=>?_,fun r hr=>?_,fun i hi=>?_,fun i hi=>?_⟩
 ·obtain⟨i,rfl⟩:=mk_mem a hr
  rfl
 ·obtain⟨i,rfl⟩:=mk_mem a hr
  exact⟨can_tx (gnm i),trivial,trivial,can_p01 _,can_p01 _,trivial,trivial⟩
 ·rw [hc i 0 (by omega)]
  simp only [mrRow,List.getD_cons_zero]
 ·rw [hc i 1 (by omega),hc i 2 (by omega),hc i 5 (by omega)]
  simp only [mrRow,List.getD_cons_succ,List.getD_cons_zero]
  exact mr_bd (mkQ a i)
theorem take_cell {L:Rows} {p j:Nat} (h:j < p) (c:Nat):cell (L.take p) j c=cell L j c:=by
 have e:(L.take p).getD j []=L.getD j []:=by rw [List.getD_eq_getElem?_getD,List.getD_eq_getElem?_getD,List.getElem?_take_of_lt h]
 unfold cell
 rw [e]
theorem take_dn {L:Rows} {p:Nat} {i q:Int} {c:Nat}:∀ {k:Nat},k≤p→dn (L.take p) i q c k=dn L i q c k
 | 0,_=>rfl
 | k+1,h=>by
  have ih:=take_dn (L:=L) (p:=p) (i:=i) (q:=q) (c:=c) (k:=k) (by omega)
  have hk:k < p:=by omega
  simp only [dn,ih,take_cell (L:=L) hk]
theorem take_lf {L:Rows} {p:Nat} {i:Int} {c k:Nat} (h:k≤p):lf (L.take p) i c k=lf L i c k:=by
 unfold lf
 simp only [take_dn h]
theorem lg_take {n:Nat} {L:Rows} (h:LgOk n L) {p:Nat} (hp:p≤L.length):LgOk n (L.take p):=by
 have hl:(L.take p).length=p:=by rw [List.length_take]; omega
 have hL:=h.l
 refine⟨by omega,fun j hj=>?_⟩
 have hj2:j < p:=by omega
 have A:=h.a j (by omega)
 have q:=fun c=>take_cell (L:=L) hj2 c
 exact⟨by rw [q]; exact A.kd,by rw [q]; exact A.gr,by rw [q]; exact A.ct,by rw [q]; exact A.gm,by rw [q,q]; exact A.fm,by rw [q,q,q,q,take_lf (by omega),take_lf (by omega)]; exact A.sh,by rw [q,take_lf (by omega),take_lf (by omega)]; exact A.cl⟩
theorem dn_up {n:Nat} {L:Rows} (h:LgOk n L) {i q:Int} {c:Nat} (hc:c < 2) {k:Nat}:∀ {m:Nat},k≤m→m≤L.length→dn L i q c k≤dn L i q c m
 | 0,hk,_=>by
  have:k=0:=by omega
  subst this
  exact Int.le_refl _
 | m+1,hk,hm=>by
  by_cases e:k=m+1
  ·subst e; exact Int.le_refl _
  ·have ih:=dn_up h (i:=i) (q:=q) hc (k:=k) (m:=m) (by omega) (by omega)
   have A:=(h.a m (by omega)).cg c hc
   by_cases e2:cell L m 1=i∧cell L m 0=q
   ·rw [dn_hit e2.1 e2.2]; omega
   ·rw [dn_miss e2]; exact ih
theorem dn_le {n:Nat} {L Q:Rows} (h:LgOk n L) (t:∃p,p≤L.length∧Q=L.take p) (i q:Int) {c:Nat} (hc:c < 2):dn Q i q c Q.length≤dn L i q c L.length:=by
 obtain⟨p,hp,rfl⟩:=t
 have hl:(L.take p).length=p:=by rw [List.length_take]; omega
 rw [hl,take_dn (Nat.le_refl _)]
 exact dn_up h hc hp (Nat.le_refl _)
theorem dn_five {n:Nat} {L:Rows} (h:LgOk n L) (i:Int):∀ {k:Nat},k≤L.length→dn L i 5 0 k=0
 | 0,_=>rfl
 | k+1,hk=>by
  have ih:=dn_five h i (k:=k) (by omega)
  have A:=h.a k (by omega)
  by_cases e:cell L k 1=i∧cell L k 0=5
  ·rw [dn_hit e.1 e.2,ih]
   have:=A.fm.1 e.2
   show 0+cell L k 2=0
   omega
  ·rw [dn_miss e,ih]
structure TnS where
 R:Rows
 L:Rows
 Q:Rows
 q:Int
 i:Nat
structure TnOk (v:TnS):Prop where
 r:v.R.length≤4
 a:LgOk v.R.length v.L
 t:∃p,p≤v.L.length∧v.Q=v.L.take p
noncomputable def F_law:LawF:=⟨3,[.one (.l [.i64])],fun l=>match l with | [.l N]=>N.length≤9223372036854775807 | _=>False⟩
noncomputable def A_law:List SV→List Dat→Nat→List SV→Ann:=fun xs ds n ts=>match xs with
 | [.lst xz _ _ _]=>match ds with
  | [.l N]=>match n with
   | 13=>⟨Unit,fun _=>[],fun _=>[],fun _=>True,fun _=>0,3⟩
   | 9=>⟨TnS,fun v=>([none,none,none,some (.ptr 0 0),some (.gsl 1 v.R.length 6 true),some (.gsl 2 v.L.length 4 true),some (.gsl 3 v.R.length 11 true),none,some (.gsl 4 v.R.length 11 true),none,some (.i .i64 v.i)]++nN 155),fun v=>[.gr v.R.length 11 (.fn (bkF v.Q v.Q.length)) .gr true,.gr v.R.length 11 (.fn (bkF v.L v.L.length)) .gr true,.gr v.L.length 4 (.fn (Rv.elemOf [.i64,.i64,.i64,.i64] v.L)) .gr true,.gr v.R.length 6 (.fn (Rv.elemOf [.u16,.i64,.i64,.i8,.i8,.i64] v.R)) .gr true,.cells [.i .u64 v.q] .ex],fun v=>TnOk v∧v.i≤v.R.length,fun v=>v.R.length-v.i,0⟩
   | _=>noAnn
  | _=>noAnn
 | _=>noAnn
set_option maxRecDepth 10000 in
def V_law:Prop:=
 ∀(B:RW),hasTabs [] B→∀(o:RV) (j:List (List Int)),IsLst B o j.length 1 (Rv.elemOf [.i64] j)→oneB o=true→(∀row∈j,row.length=1)→j.length≤9223372036854775807→RwB B o j.length 1 [.i64] j fun b=>Ob (F_TideOf.named.pre [Dat.l b])∧Ob (F_MarketOf.named.pre ([Dat.z (tideK b b.length)]++[]))∧∀(d:Int),d=mkQ (belowA (tideK b b.length) (4:Int)) ((1:Int)+belowV (tideK b b.length) (4:Int)).toNat→Ob (F_LedgerOf.named.pre ([Dat.z d]++[Dat.z (↑((1:Int)+belowV (tideK b b.length) (4:Int)).toNat:Int),Dat.z (20:Int)]))∧∀(m:Int),m=lgQ (↑((1:Int)+belowV (tideK b b.length) (4:Int)).toNat:Int) (belowA d ((20:Int)+(1:Int))) (belowV d ((20:Int)+(1:Int))).toNat→∃(h:List (List Int)),Ob (((1:Int)+belowV (tideK b b.length) (4:Int)).toNat=((1:Int)+belowV (tideK b b.length) (4:Int)).toNat∧h.length=((1:Int)+belowV (tideK b b.length) (4:Int)).toNat∧(∀f∈h,f.length=6)∧∀(g:Nat),g < ((1:Int)+belowV (tideK b b.length) (4:Int)).toNat→(El.fn (Rv.elemOf [IntKind.u16,.i64,.i64,IntKind.i8,IntKind.i8,.i64] (mkR (belowA (tideK b b.length) (4:Int)) ((1:Int)+belowV (tideK b b.length) (4:Int)).toNat))).at g=Rv.elemOf [IntKind.u16,.i64,.i64,IntKind.i8,IntKind.i8,.i64] h g)∧Ob (∀(f:List Int),f∈h→canR [IntKind.u16,.i64,.i64,IntKind.i8,IntKind.i8,.i64] f)∧RwE 4 I4 (lgL (↑((1:Int)+belowV (tideK b b.length) (4:Int)).toNat:Int) (belowA d ((20:Int)+(1:Int))) (belowV d ((20:Int)+(1:Int))).toNat) fun l=>Ob (F_Book.named.pre [Dat.l h,Dat.l l])∧Ob (InR .i64 ((↑(List.length (lgL (↑((1:Int)+belowV (tideK b b.length) (4:Int)).toNat:Int) (belowA d ((20:Int)+(1:Int))) (belowV d ((20:Int)+(1:Int))).toNat)):Int)+(1:Int)))∧Ob (F_Below.named.pre ([Dat.z m]++[Dat.z ((↑(List.length (lgL (↑((1:Int)+belowV (tideK b b.length) (4:Int)).toNat:Int) (belowA d ((20:Int)+(1:Int))) (belowV d ((20:Int)+(1:Int))).toNat)):Int)+(1:Int))]))∧∀(n:Int),n=belowA m ((↑(List.length (lgL (↑((1:Int)+belowV (tideK b b.length) (4:Int)).toNat:Int) (belowA d ((20:Int)+(1:Int))) (belowV d ((20:Int)+(1:Int))).toNat)):Int)+(1:Int))→∀(i:Int),i=belowV m ((↑(List.length (lgL (↑((1:Int)+belowV (tideK b b.length) (4:Int)).toNat:Int) (belowA d ((20:Int)+(1:Int))) (belowV d ((20:Int)+(1:Int))).toNat)):Int)+(1:Int))→(List.length (lgL (↑((1:Int)+belowV (tideK b b.length) (4:Int)).toNat:Int) (belowA d ((20:Int)+(1:Int))) (belowV d ((20:Int)+(1:Int))).toNat)=(0:Nat)→Ob (i=(0:Int))∧∃(e:List (List Int)),Ob (((1:Int)+belowV (tideK b b.length) (4:Int)).toNat=((1:Int)+belowV (tideK b b.length) (4:Int)).toNat∧e.length=((1:Int)+belowV (tideK b b.length) (4:Int)).toNat∧(∀f∈e,f.length=6)∧∀(g:Nat),g < ((1:Int)+belowV (tideK b b.length) (4:Int)).toNat→(El.fn (Rv.elemOf [IntKind.u16,.i64,.i64,IntKind.i8,IntKind.i8,.i64] (mkR (belowA (tideK b b.length) (4:Int)) ((1:Int)+belowV (tideK b b.length) (4:Int)).toNat))).at g=Rv.elemOf [IntKind.u16,.i64,.i64,IntKind.i8,IntKind.i8,.i64] e g)∧Ob (∀(f:List Int),f∈e→canR [IntKind.u16,.i64,.i64,IntKind.i8,IntKind.i8,.i64] f)∧Ob (F_Book.named.pre [Dat.l e,Dat.l []])∧(¬¬(↑h.length:Int)=(↑((1:Int)+belowV (tideK b b.length) (4:Int)).toNat:Int)→(¬(↑e.length:Int)=(↑((1:Int)+belowV (tideK b b.length) (4:Int)).toNat:Int)→False)∧(¬¬(↑e.length:Int)=(↑((1:Int)+belowV (tideK b b.length) (4:Int)).toNat:Int)→(∃(a:TnS),Ob (TnOk a∧a.i≤a.R.length)∧Ob (((1:Int)+belowV (tideK b b.length) (4:Int)).toNat=a.R.length)∧Ob (List.length (lgL (↑((1:Int)+belowV (tideK b b.length) (4:Int)).toNat:Int) (belowA d ((20:Int)+(1:Int))) (belowV d ((20:Int)+(1:Int))).toNat)=a.L.length)∧Ob (h.length=a.R.length)∧Ob (e.length=a.R.length)∧Ob ((0:Int)=(↑a.i:Int))∧EqA e.length a.R.length (El.fn (bkF [] 0)) (El.fn (bkF a.Q (a.Q.length)))∧EqA h.length a.R.length (El.fn (bkF l l.length)) (El.fn (bkF a.L (a.L.length)))∧EqR I4 (lgL (↑((1:Int)+belowV (tideK b b.length) (4:Int)).toNat:Int) (belowA d ((20:Int)+(1:Int))) (belowV d ((20:Int)+(1:Int))).toNat) a.L∧EqA (((1:Int)+belowV (tideK b b.length) (4:Int)).toNat) a.R.length (El.fn (Rv.elemOf [IntKind.u16,.i64,.i64,IntKind.i8,IntKind.i8,.i64] (mkR (belowA (tideK b b.length) (4:Int)) ((1:Int)+belowV (tideK b b.length) (4:Int)).toNat))) (El.fn (Rv.elemOf [IntKind.u16,.i64,.i64,IntKind.i8,IntKind.i8,.i64] a.R))∧Ob (n=a.q)∧Ob (PlainE (a.R.length) (El.fn (bkF a.Q (a.Q.length))))∧Ob (PlainE (a.R.length) (El.fn (bkF a.L (a.L.length))))∧PlA I4 a.L∧Ob (PlainE (a.R.length) (El.fn (Rv.elemOf [IntKind.u16,.i64,.i64,IntKind.i8,IntKind.i8,.i64] a.R)))∧True)∧∀(a:TnS),TnOk a∧a.i≤a.R.length→∀(_ _ _ _ _ _ _ _ _ _ _ _ _ _ _ _ _ _ _ _ _ _ _ _ _ _ _ _ _ _ _ _ _ _ _ _ _ _ _ _ _ _ _ _ _ _ _ _ _ _ _ _ _ _ _ _ _ _ _ _ _ _ _ _ _ _ _ _ _ _ _ _ _ _ _ _ _ _ _ _ _ _ _ _ _ _ _ _ _ _ _ _ _ _ _ _ _ _ _ _ _ _ _ _ _ _ _ _ _ _ _ _ _ _ _ _ _ _ _ _ _ _ _ _ _ _ _ _ _ _ _ _ _ _ _ _ _ _ _ _ _ _ _ _ _ _ _ _ _ _ _ _ _ _ _ _ _ _ _ _:Value),((↑a.i:Int) < (↑(a.R.length):Int)→Ob ((0:Int)≤(↑a.i:Int)∧a.i < a.R.length)∧Ob (a.i < a.R.length)∧Ob ((0:Int)≤(↑a.i:Int)∧a.i < a.R.length)∧Ob (a.i < a.R.length)∧Ob (InR .i64 (dn a.L (↑a.i:Int) (2:Int) 0 (a.L.length)+dn a.L (↑a.i:Int) (3:Int) 0 (a.L.length)))∧Ob (InR .i64 (dn a.L (↑a.i:Int) (2:Int) 0 (a.L.length)+dn a.L (↑a.i:Int) (3:Int) 0 (a.L.length)+dn a.L (↑a.i:Int) (4:Int) 0 (a.L.length)))∧Ob (InR .i64 (dn a.L (↑a.i:Int) (2:Int) 0 (a.L.length)+dn a.L (↑a.i:Int) (3:Int) 0 (a.L.length)+dn a.L (↑a.i:Int) (4:Int) 0 (a.L.length)+lf a.L (↑a.i:Int) 0 (a.L.length)))∧Ob (InR .i64 ((0:Int)*dn a.L (↑a.i:Int) (5:Int) 1 (a.L.length)))∧Ob (InR .i64 (dn a.L (↑a.i:Int) (2:Int) 0 (a.L.length)+dn a.L (↑a.i:Int) (3:Int) 0 (a.L.length)+dn a.L (↑a.i:Int) (4:Int) 0 (a.L.length)+lf a.L (↑a.i:Int) 0 (a.L.length)+(0:Int)*dn a.L (↑a.i:Int) (5:Int) 1 (a.L.length)))∧(¬¬dn a.L (↑a.i:Int) (1:Int) 0 (a.L.length)=dn a.L (↑a.i:Int) (2:Int) 0 (a.L.length)+dn a.L (↑a.i:Int) (3:Int) 0 (a.L.length)+dn a.L (↑a.i:Int) (4:Int) 0 (a.L.length)+lf a.L (↑a.i:Int) 0 (a.L.length)+(0:Int)*dn a.L (↑a.i:Int) (5:Int) 1 (a.L.length)→(¬lf a.L (↑a.i:Int) 0 (a.L.length) < (0:Int)→(¬dn a.L (↑a.i:Int) (2:Int) 0 (a.L.length) < dn a.Q (↑a.i:Int) (2:Int) 0 (a.Q.length)→(¬dn a.L (↑a.i:Int) (3:Int) 0 (a.L.length) < dn a.Q (↑a.i:Int) (3:Int) 0 (a.Q.length)→(¬dn a.L (↑a.i:Int) (4:Int) 0 (a.L.length) < dn a.Q (↑a.i:Int) (4:Int) 0 (a.Q.length)→(¬dn a.L (↑a.i:Int) (1:Int) 0 (a.L.length) < dn a.Q (↑a.i:Int) (1:Int) 0 (a.Q.length)→(dn a.L (↑a.i:Int) (5:Int) 1 (a.L.length) < dn a.Q (↑a.i:Int) (5:Int) 1 (a.Q.length)→False)∧(¬dn a.L (↑a.i:Int) (5:Int) 1 (a.L.length) < dn a.Q (↑a.i:Int) (5:Int) 1 (a.Q.length)→Ob (InR .i64 (dn a.L (↑a.i:Int) (2:Int) 1 (a.L.length)+dn a.L (↑a.i:Int) (3:Int) 1 (a.L.length)))∧Ob (InR .i64 (dn a.L (↑a.i:Int) (2:Int) 1 (a.L.length)+dn a.L (↑a.i:Int) (3:Int) 1 (a.L.length)+dn a.L (↑a.i:Int) (4:Int) 1 (a.L.length)))∧Ob (InR .i64 (dn a.L (↑a.i:Int) (2:Int) 1 (a.L.length)+dn a.L (↑a.i:Int) (3:Int) 1 (a.L.length)+dn a.L (↑a.i:Int) (4:Int) 1 (a.L.length)+lf a.L (↑a.i:Int) 1 (a.L.length)))∧Ob (InR .i64 (Int.ofNat 1*dn a.L (↑a.i:Int) (5:Int) 1 (a.L.length)))∧Ob (InR .i64 (dn a.L (↑a.i:Int) (2:Int) 1 (a.L.length)+dn a.L (↑a.i:Int) (3:Int) 1 (a.L.length)+dn a.L (↑a.i:Int) (4:Int) 1 (a.L.length)+lf a.L (↑a.i:Int) 1 (a.L.length)+Int.ofNat 1*dn a.L (↑a.i:Int) (5:Int) 1 (a.L.length)))∧(¬¬dn a.L (↑a.i:Int) (1:Int) 1 (a.L.length)=dn a.L (↑a.i:Int) (2:Int) 1 (a.L.length)+dn a.L (↑a.i:Int) (3:Int) 1 (a.L.length)+dn a.L (↑a.i:Int) (4:Int) 1 (a.L.length)+lf a.L (↑a.i:Int) 1 (a.L.length)+Int.ofNat 1*dn a.L (↑a.i:Int) (5:Int) 1 (a.L.length)→(¬lf a.L (↑a.i:Int) 1 (a.L.length) < (0:Int)→(¬dn a.L (↑a.i:Int) (2:Int) 1 (a.L.length) < dn a.Q (↑a.i:Int) (2:Int) 1 (a.Q.length)→(¬dn a.L (↑a.i:Int) (3:Int) 1 (a.L.length) < dn a.Q (↑a.i:Int) (3:Int) 1 (a.Q.length)→(¬dn a.L (↑a.i:Int) (4:Int) 1 (a.L.length) < dn a.Q (↑a.i:Int) (4:Int) 1 (a.Q.length)→(¬dn a.L (↑a.i:Int) (1:Int) 1 (a.L.length) < dn a.Q (↑a.i:Int) (1:Int) 1 (a.Q.length)→(dn a.L (↑a.i:Int) (5:Int) 1 (a.L.length) < dn a.Q (↑a.i:Int) (5:Int) 1 (a.Q.length)→False)∧(¬dn a.L (↑a.i:Int) (5:Int) 1 (a.L.length) < dn a.Q (↑a.i:Int) (5:Int) 1 (a.Q.length)→Ob (InR .i64 ((↑a.i:Int)+(1:Int)))∧∃(c:TnS),Ob ((TnOk c∧c.i≤List.length c.R)∧List.length c.R-c.i < a.R.length-a.i)∧Ob (a.R.length=List.length c.R)∧Ob (a.L.length=List.length c.L)∧Ob (a.R.length=List.length c.R)∧Ob (a.R.length=List.length c.R)∧Ob ((↑a.i:Int)+(1:Int)=(↑c.i:Int))∧EqA a.R.length (List.length c.R) (El.fn (bkF a.Q (a.Q.length))) (El.fn (bkF c.Q (List.length c.Q)))∧EqA a.R.length (List.length c.R) (El.fn (bkF a.L (a.L.length))) (El.fn (bkF c.L (List.length c.L)))∧EqR I4 a.L c.L∧EqA a.R.length (List.length c.R) (El.fn (Rv.elemOf [IntKind.u16,.i64,.i64,IntKind.i8,IntKind.i8,.i64] a.R)) (El.fn (Rv.elemOf [IntKind.u16,.i64,.i64,IntKind.i8,IntKind.i8,.i64] c.R))∧Ob (a.q=c.q)∧Ob (PlainE (List.length c.R) (El.fn (bkF c.Q (List.length c.Q))))∧Ob (PlainE (List.length c.R) (El.fn (bkF c.L (List.length c.L))))∧PlA I4 c.L∧Ob (PlainE (List.length c.R) (El.fn (Rv.elemOf [IntKind.u16,.i64,.i64,IntKind.i8,IntKind.i8,.i64] c.R)))∧True))∧(dn a.L (↑a.i:Int) (1:Int) 1 (a.L.length) < dn a.Q (↑a.i:Int) (1:Int) 1 (a.Q.length)→False))∧(dn a.L (↑a.i:Int) (4:Int) 1 (a.L.length) < dn a.Q (↑a.i:Int) (4:Int) 1 (a.Q.length)→False))∧(dn a.L (↑a.i:Int) (3:Int) 1 (a.L.length) < dn a.Q (↑a.i:Int) (3:Int) 1 (a.Q.length)→False))∧(dn a.L (↑a.i:Int) (2:Int) 1 (a.L.length) < dn a.Q (↑a.i:Int) (2:Int) 1 (a.Q.length)→False))∧(lf a.L (↑a.i:Int) 1 (a.L.length) < (0:Int)→False))∧(¬dn a.L (↑a.i:Int) (1:Int) 1 (a.L.length)=dn a.L (↑a.i:Int) (2:Int) 1 (a.L.length)+dn a.L (↑a.i:Int) (3:Int) 1 (a.L.length)+dn a.L (↑a.i:Int) (4:Int) 1 (a.L.length)+lf a.L (↑a.i:Int) 1 (a.L.length)+Int.ofNat 1*dn a.L (↑a.i:Int) (5:Int) 1 (a.L.length)→False)))∧(dn a.L (↑a.i:Int) (1:Int) 0 (a.L.length) < dn a.Q (↑a.i:Int) (1:Int) 0 (a.Q.length)→False))∧(dn a.L (↑a.i:Int) (4:Int) 0 (a.L.length) < dn a.Q (↑a.i:Int) (4:Int) 0 (a.Q.length)→False))∧(dn a.L (↑a.i:Int) (3:Int) 0 (a.L.length) < dn a.Q (↑a.i:Int) (3:Int) 0 (a.Q.length)→False))∧(dn a.L (↑a.i:Int) (2:Int) 0 (a.L.length) < dn a.Q (↑a.i:Int) (2:Int) 0 (a.Q.length)→False))∧(lf a.L (↑a.i:Int) 0 (a.L.length) < (0:Int)→False))∧(¬dn a.L (↑a.i:Int) (1:Int) 0 (a.L.length)=dn a.L (↑a.i:Int) (2:Int) 0 (a.L.length)+dn a.L (↑a.i:Int) (3:Int) 0 (a.L.length)+dn a.L (↑a.i:Int) (4:Int) 0 (a.L.length)+lf a.L (↑a.i:Int) 0 (a.L.length)+(0:Int)*dn a.L (↑a.i:Int) (5:Int) 1 (a.L.length)→False))∧(¬(↑a.i:Int) < (↑(a.R.length):Int)→Ob (hasTabs [] B)∧True)))∧(¬(↑h.length:Int)=(↑((1:Int)+belowV (tideK b b.length) (4:Int)).toNat:Int)→False))∧(¬List.length (lgL (↑((1:Int)+belowV (tideK b b.length) (4:Int)).toNat:Int) (belowA d ((20:Int)+(1:Int))) (belowV d ((20:Int)+(1:Int))).toNat)=(0:Nat)→Ob (List.length (lgL (↑((1:Int)+belowV (tideK b b.length) (4:Int)).toNat:Int) (belowA d ((20:Int)+(1:Int))) (belowV d ((20:Int)+(1:Int))).toNat)=List.length (lgL (↑((1:Int)+belowV (tideK b b.length) (4:Int)).toNat:Int) (belowA d ((20:Int)+(1:Int))) (belowV d ((20:Int)+(1:Int))).toNat)∧(0:Int)≤i∧i.toNat≤List.length (lgL (↑((1:Int)+belowV (tideK b b.length) (4:Int)).toNat:Int) (belowA d ((20:Int)+(1:Int))) (belowV d ((20:Int)+(1:Int))).toNat))∧∃(e:List (List Int)),Ob (((1:Int)+belowV (tideK b b.length) (4:Int)).toNat=((1:Int)+belowV (tideK b b.length) (4:Int)).toNat∧e.length=((1:Int)+belowV (tideK b b.length) (4:Int)).toNat∧(∀f∈e,f.length=6)∧∀(g:Nat),g < ((1:Int)+belowV (tideK b b.length) (4:Int)).toNat→(El.fn (Rv.elemOf [IntKind.u16,.i64,.i64,IntKind.i8,IntKind.i8,.i64] (mkR (belowA (tideK b b.length) (4:Int)) ((1:Int)+belowV (tideK b b.length) (4:Int)).toNat))).at g=Rv.elemOf [IntKind.u16,.i64,.i64,IntKind.i8,IntKind.i8,.i64] e g)∧Ob (∀(f:List Int),f∈e→canR [IntKind.u16,.i64,.i64,IntKind.i8,IntKind.i8,.i64] f)∧∃(k:List (List Int)),Ob ((0:Nat) < List.length (lgL (↑((1:Int)+belowV (tideK b b.length) (4:Int)).toNat:Int) (belowA d ((20:Int)+(1:Int))) (belowV d ((20:Int)+(1:Int))).toNat)∧i.toNat≤List.length (lgL (↑((1:Int)+belowV (tideK b b.length) (4:Int)).toNat:Int) (belowA d ((20:Int)+(1:Int))) (belowV d ((20:Int)+(1:Int))).toNat)∧k.length=i.toNat∧(∀f∈k,f.length=4)∧∀(g:Nat),g < i.toNat→(El.fn (Rv.elemOf I4 (lgL (↑((1:Int)+belowV (tideK b b.length) (4:Int)).toNat:Int) (belowA d ((20:Int)+(1:Int))) (belowV d ((20:Int)+(1:Int))).toNat))).at g=Rv.elemOf I4 k g)∧Ob (F_Book.named.pre [Dat.l e,Dat.l k])∧(¬¬(↑h.length:Int)=(↑((1:Int)+belowV (tideK b b.length) (4:Int)).toNat:Int)→(¬(↑e.length:Int)=(↑((1:Int)+belowV (tideK b b.length) (4:Int)).toNat:Int)→False)∧(¬¬(↑e.length:Int)=(↑((1:Int)+belowV (tideK b b.length) (4:Int)).toNat:Int)→(∃(a:TnS),Ob (TnOk a∧a.i≤a.R.length)∧Ob (((1:Int)+belowV (tideK b b.length) (4:Int)).toNat=a.R.length)∧Ob (List.length (lgL (↑((1:Int)+belowV (tideK b b.length) (4:Int)).toNat:Int) (belowA d ((20:Int)+(1:Int))) (belowV d ((20:Int)+(1:Int))).toNat)=a.L.length)∧Ob (h.length=a.R.length)∧Ob (e.length=a.R.length)∧Ob ((0:Int)=(↑a.i:Int))∧EqA e.length a.R.length (El.fn (bkF k k.length)) (El.fn (bkF a.Q (a.Q.length)))∧EqA h.length a.R.length (El.fn (bkF l l.length)) (El.fn (bkF a.L (a.L.length)))∧EqR I4 (lgL (↑((1:Int)+belowV (tideK b b.length) (4:Int)).toNat:Int) (belowA d ((20:Int)+(1:Int))) (belowV d ((20:Int)+(1:Int))).toNat) a.L∧EqA (((1:Int)+belowV (tideK b b.length) (4:Int)).toNat) a.R.length (El.fn (Rv.elemOf [IntKind.u16,.i64,.i64,IntKind.i8,IntKind.i8,.i64] (mkR (belowA (tideK b b.length) (4:Int)) ((1:Int)+belowV (tideK b b.length) (4:Int)).toNat))) (El.fn (Rv.elemOf [IntKind.u16,.i64,.i64,IntKind.i8,IntKind.i8,.i64] a.R))∧Ob (n=a.q)∧Ob (PlainE (a.R.length) (El.fn (bkF a.Q (a.Q.length))))∧Ob (PlainE (a.R.length) (El.fn (bkF a.L (a.L.length))))∧PlA I4 a.L∧Ob (PlainE (a.R.length) (El.fn (Rv.elemOf [IntKind.u16,.i64,.i64,IntKind.i8,IntKind.i8,.i64] a.R)))∧True)∧∀(a:TnS),TnOk a∧a.i≤a.R.length→∀(_ _ _ _ _ _ _ _ _ _ _ _ _ _ _ _ _ _ _ _ _ _ _ _ _ _ _ _ _ _ _ _ _ _ _ _ _ _ _ _ _ _ _ _ _ _ _ _ _ _ _ _ _ _ _ _ _ _ _ _ _ _ _ _ _ _ _ _ _ _ _ _ _ _ _ _ _ _ _ _ _ _ _ _ _ _ _ _ _ _ _ _ _ _ _ _ _ _ _ _ _ _ _ _ _ _ _ _ _ _ _ _ _ _ _ _ _ _ _ _ _ _ _ _ _ _ _ _ _ _ _ _ _ _ _ _ _ _ _ _ _ _ _ _ _ _ _ _ _ _ _ _ _ _ _ _ _ _ _ _:Value),((↑a.i:Int) < (↑(a.R.length):Int)→Ob ((0:Int)≤(↑a.i:Int)∧a.i < a.R.length)∧Ob (a.i < a.R.length)∧Ob ((0:Int)≤(↑a.i:Int)∧a.i < a.R.length)∧Ob (a.i < a.R.length)∧Ob (InR .i64 (dn a.L (↑a.i:Int) (2:Int) 0 (a.L.length)+dn a.L (↑a.i:Int) (3:Int) 0 (a.L.length)))∧Ob (InR .i64 (dn a.L (↑a.i:Int) (2:Int) 0 (a.L.length)+dn a.L (↑a.i:Int) (3:Int) 0 (a.L.length)+dn a.L (↑a.i:Int) (4:Int) 0 (a.L.length)))∧Ob (InR .i64 (dn a.L (↑a.i:Int) (2:Int) 0 (a.L.length)+dn a.L (↑a.i:Int) (3:Int) 0 (a.L.length)+dn a.L (↑a.i:Int) (4:Int) 0 (a.L.length)+lf a.L (↑a.i:Int) 0 (a.L.length)))∧Ob (InR .i64 ((0:Int)*dn a.L (↑a.i:Int) (5:Int) 1 (a.L.length)))∧Ob (InR .i64 (dn a.L (↑a.i:Int) (2:Int) 0 (a.L.length)+dn a.L (↑a.i:Int) (3:Int) 0 (a.L.length)+dn a.L (↑a.i:Int) (4:Int) 0 (a.L.length)+lf a.L (↑a.i:Int) 0 (a.L.length)+(0:Int)*dn a.L (↑a.i:Int) (5:Int) 1 (a.L.length)))∧(¬¬dn a.L (↑a.i:Int) (1:Int) 0 (a.L.length)=dn a.L (↑a.i:Int) (2:Int) 0 (a.L.length)+dn a.L (↑a.i:Int) (3:Int) 0 (a.L.length)+dn a.L (↑a.i:Int) (4:Int) 0 (a.L.length)+lf a.L (↑a.i:Int) 0 (a.L.length)+(0:Int)*dn a.L (↑a.i:Int) (5:Int) 1 (a.L.length)→(¬lf a.L (↑a.i:Int) 0 (a.L.length) < (0:Int)→(¬dn a.L (↑a.i:Int) (2:Int) 0 (a.L.length) < dn a.Q (↑a.i:Int) (2:Int) 0 (a.Q.length)→(¬dn a.L (↑a.i:Int) (3:Int) 0 (a.L.length) < dn a.Q (↑a.i:Int) (3:Int) 0 (a.Q.length)→(¬dn a.L (↑a.i:Int) (4:Int) 0 (a.L.length) < dn a.Q (↑a.i:Int) (4:Int) 0 (a.Q.length)→(¬dn a.L (↑a.i:Int) (1:Int) 0 (a.L.length) < dn a.Q (↑a.i:Int) (1:Int) 0 (a.Q.length)→(dn a.L (↑a.i:Int) (5:Int) 1 (a.L.length) < dn a.Q (↑a.i:Int) (5:Int) 1 (a.Q.length)→False)∧(¬dn a.L (↑a.i:Int) (5:Int) 1 (a.L.length) < dn a.Q (↑a.i:Int) (5:Int) 1 (a.Q.length)→Ob (InR .i64 (dn a.L (↑a.i:Int) (2:Int) 1 (a.L.length)+dn a.L (↑a.i:Int) (3:Int) 1 (a.L.length)))∧Ob (InR .i64 (dn a.L (↑a.i:Int) (2:Int) 1 (a.L.length)+dn a.L (↑a.i:Int) (3:Int) 1 (a.L.length)+dn a.L (↑a.i:Int) (4:Int) 1 (a.L.length)))∧Ob (InR .i64 (dn a.L (↑a.i:Int) (2:Int) 1 (a.L.length)+dn a.L (↑a.i:Int) (3:Int) 1 (a.L.length)+dn a.L (↑a.i:Int) (4:Int) 1 (a.L.length)+lf a.L (↑a.i:Int) 1 (a.L.length)))∧Ob (InR .i64 (Int.ofNat 1*dn a.L (↑a.i:Int) (5:Int) 1 (a.L.length)))∧Ob (InR .i64 (dn a.L (↑a.i:Int) (2:Int) 1 (a.L.length)+dn a.L (↑a.i:Int) (3:Int) 1 (a.L.length)+dn a.L (↑a.i:Int) (4:Int) 1 (a.L.length)+lf a.L (↑a.i:Int) 1 (a.L.length)+Int.ofNat 1*dn a.L (↑a.i:Int) (5:Int) 1 (a.L.length)))∧(¬¬dn a.L (↑a.i:Int) (1:Int) 1 (a.L.length)=dn a.L (↑a.i:Int) (2:Int) 1 (a.L.length)+dn a.L (↑a.i:Int) (3:Int) 1 (a.L.length)+dn a.L (↑a.i:Int) (4:Int) 1 (a.L.length)+lf a.L (↑a.i:Int) 1 (a.L.length)+Int.ofNat 1*dn a.L (↑a.i:Int) (5:Int) 1 (a.L.length)→(¬lf a.L (↑a.i:Int) 1 (a.L.length) < (0:Int)→(¬dn a.L (↑a.i:Int) (2:Int) 1 (a.L.length) < dn a.Q (↑a.i:Int) (2:Int) 1 (a.Q.length)→(¬dn a.L (↑a.i:Int) (3:Int) 1 (a.L.length) < dn a.Q (↑a.i:Int) (3:Int) 1 (a.Q.length)→(¬dn a.L (↑a.i:Int) (4:Int) 1 (a.L.length) < dn a.Q (↑a.i:Int) (4:Int) 1 (a.Q.length)→(¬dn a.L (↑a.i:Int) (1:Int) 1 (a.L.length) < dn a.Q (↑a.i:Int) (1:Int) 1 (a.Q.length)→(dn a.L (↑a.i:Int) (5:Int) 1 (a.L.length) < dn a.Q (↑a.i:Int) (5:Int) 1 (a.Q.length)→False)∧(¬dn a.L (↑a.i:Int) (5:Int) 1 (a.L.length) < dn a.Q (↑a.i:Int) (5:Int) 1 (a.Q.length)→Ob (InR .i64 ((↑a.i:Int)+(1:Int)))∧∃(c:TnS),Ob ((TnOk c∧c.i≤List.length c.R)∧List.length c.R-c.i < a.R.length-a.i)∧Ob (a.R.length=List.length c.R)∧Ob (a.L.length=List.length c.L)∧Ob (a.R.length=List.length c.R)∧Ob (a.R.length=List.length c.R)∧Ob ((↑a.i:Int)+(1:Int)=(↑c.i:Int))∧EqA a.R.length (List.length c.R) (El.fn (bkF a.Q (a.Q.length))) (El.fn (bkF c.Q (List.length c.Q)))∧EqA a.R.length (List.length c.R) (El.fn (bkF a.L (a.L.length))) (El.fn (bkF c.L (List.length c.L)))∧EqR I4 a.L c.L∧EqA a.R.length (List.length c.R) (El.fn (Rv.elemOf [IntKind.u16,.i64,.i64,IntKind.i8,IntKind.i8,.i64] a.R)) (El.fn (Rv.elemOf [IntKind.u16,.i64,.i64,IntKind.i8,IntKind.i8,.i64] c.R))∧Ob (a.q=c.q)∧Ob (PlainE (List.length c.R) (El.fn (bkF c.Q (List.length c.Q))))∧Ob (PlainE (List.length c.R) (El.fn (bkF c.L (List.length c.L))))∧PlA I4 c.L∧Ob (PlainE (List.length c.R) (El.fn (Rv.elemOf [IntKind.u16,.i64,.i64,IntKind.i8,IntKind.i8,.i64] c.R)))∧True))∧(dn a.L (↑a.i:Int) (1:Int) 1 (a.L.length) < dn a.Q (↑a.i:Int) (1:Int) 1 (a.Q.length)→False))∧(dn a.L (↑a.i:Int) (4:Int) 1 (a.L.length) < dn a.Q (↑a.i:Int) (4:Int) 1 (a.Q.length)→False))∧(dn a.L (↑a.i:Int) (3:Int) 1 (a.L.length) < dn a.Q (↑a.i:Int) (3:Int) 1 (a.Q.length)→False))∧(dn a.L (↑a.i:Int) (2:Int) 1 (a.L.length) < dn a.Q (↑a.i:Int) (2:Int) 1 (a.Q.length)→False))∧(lf a.L (↑a.i:Int) 1 (a.L.length) < (0:Int)→False))∧(¬dn a.L (↑a.i:Int) (1:Int) 1 (a.L.length)=dn a.L (↑a.i:Int) (2:Int) 1 (a.L.length)+dn a.L (↑a.i:Int) (3:Int) 1 (a.L.length)+dn a.L (↑a.i:Int) (4:Int) 1 (a.L.length)+lf a.L (↑a.i:Int) 1 (a.L.length)+Int.ofNat 1*dn a.L (↑a.i:Int) (5:Int) 1 (a.L.length)→False)))∧(dn a.L (↑a.i:Int) (1:Int) 0 (a.L.length) < dn a.Q (↑a.i:Int) (1:Int) 0 (a.Q.length)→False))∧(dn a.L (↑a.i:Int) (4:Int) 0 (a.L.length) < dn a.Q (↑a.i:Int) (4:Int) 0 (a.Q.length)→False))∧(dn a.L (↑a.i:Int) (3:Int) 0 (a.L.length) < dn a.Q (↑a.i:Int) (3:Int) 0 (a.Q.length)→False))∧(dn a.L (↑a.i:Int) (2:Int) 0 (a.L.length) < dn a.Q (↑a.i:Int) (2:Int) 0 (a.Q.length)→False))∧(lf a.L (↑a.i:Int) 0 (a.L.length) < (0:Int)→False))∧(¬dn a.L (↑a.i:Int) (1:Int) 0 (a.L.length)=dn a.L (↑a.i:Int) (2:Int) 0 (a.L.length)+dn a.L (↑a.i:Int) (3:Int) 0 (a.L.length)+dn a.L (↑a.i:Int) (4:Int) 0 (a.L.length)+lf a.L (↑a.i:Int) 0 (a.L.length)+(0:Int)*dn a.L (↑a.i:Int) (5:Int) 1 (a.L.length)→False))∧(¬(↑a.i:Int) < (↑(a.R.length):Int)→Ob (hasTabs [] B)∧True)))∧(¬(↑h.length:Int)=(↑((1:Int)+belowV (tideK b b.length) (4:Int)).toNat:Int)→False))
set_option linter.unusedSimpArgs false in
set_option maxRecDepth 4000 in
set_option maxHeartbeats 4000000 in
theorem v_law:V_law:=by
 unfold V_law EqA EqR I4 PlA RwB RwE
 intro B htab xz N hz hoz hrz hN
 simp only [F_Below,F_TideOf,F_MarketOf,F_LedgerOf,F_Book,FnE.named,List.cons_append,List.nil_append,Ob_iff,and_true,true_and,Classical.not_not]at ⊢
 refine⟨N,⟨hz,rfl,hrz,fun _ _=>rfl⟩,hN,?_⟩
 obtain⟨a0,ha0⟩:∃a0,tideK N N.length=a0:=⟨_,rfl⟩
 rw [ha0]
 clear ha0
 have hN4:=belowV_in a0 4
 obtain⟨n,hn⟩:∃n,(1+belowV a0 4).toNat=n:=⟨_,rfl⟩
 have hn4:1≤n∧n≤4:=by omega
 rw [hn]
 clear hN4 hn
 intro v hv
 clear hv
 refine⟨⟨⟨by omega,by omega⟩,by omega,by omega⟩,?_⟩
 intro v1 hv1
 clear hv1
 have hM:MkOk (mkR (belowA a0 4) n):=mk_ok _ hn4
 have hRl:=mk_len (belowA a0 4) n
 obtain⟨R,hR⟩:∃R,mkR (belowA a0 4) n=R:=⟨_,rfl⟩
 rw [hR]at hM hRl ⊢
 clear hR
 have h21:=belowV_in v (20+1)
 have inv:=lg_inv hn4.1 (belowA v (20+1)) (k:=(belowV v (20+1)).toNat) (by omega)
 obtain⟨L,hL⟩:∃L,lgL (n:Int) (belowA v (20+1)) (belowV v (20+1)).toNat=L:=⟨_,rfl⟩
 rw [hL]at inv ⊢
 have hl20:L.length≤20:=by have:=inv.l; clear hL; omega
 clear hL h21
 subst hRl
 have hok:=inv.ok
 have hw:=inv.w
 clear inv
 have hcan:=hM.c
 have hrw:=hM.w
 refine⟨R,?_,hcan,L,?_,⟨hM,hok⟩,?_⟩
 ·repeat' (with_reducible apply And.intro)
  all_goals first | exact hrw | rfl | exact fun _ _=>rfl
 ·repeat' (with_reducible apply And.intro)
  all_goals first | exact hw | rfl | exact fun _ _=>rfl
 refine⟨by simp only [InR]; omega,by omega,?_⟩
 intro v2 hv2 v3 hv3
 clear hv2
 have h3:=belowV_in v1 ((L.length:Int)+1)
 rw [← hv3]at h3
 clear hv3
 have h3:0≤v3∧v3≤L.length:=by omega
 refine⟨fun e0=>?_,fun e0=>?_⟩
 ·have hok0:LgOk R.length []:=⟨by simp,fun k h=>by simp at h⟩
  refine⟨by omega,R,?_,hcan,⟨hM,hok0⟩,?_⟩
  ·repeat' (with_reducible apply And.intro)
   all_goals first | exact hrw | rfl | exact fun _ _=>rfl
  refine⟨fun _=>⟨fun h=>(h rfl).elim,fun _=>?_⟩,fun h=>(h rfl).elim⟩
  refine⟨⟨⟨R,L,[],v2,0⟩,?_⟩,?_⟩
  ·dsimp only
   repeat' (with_reducible apply And.intro)
   all_goals first | exact⟨hM.l.2,hok,0,by omega,rfl⟩ | exact bk_plain _ _ _ | exact plain_elemOf _ _ _ | exact fun _ _=>rfl | rfl | omega
  clear hok hM hcan hrw hw hn4 h3 hl20 e0
  rintro⟨R,L,Q,q,i⟩ ⟨⟨r4,hok,ht⟩,hi⟩
  dsimp only at r4 hok ht hi ⊢
  intros
  refine⟨fun hlt=>?_,fun _=>htab⟩
  have i0:=lf_inv (i:Int) hok.a (k:=L.length)
  have z5:=dn_five hok (i:Int) (Nat.le_refl _)
  have l0:=hok.lf (Nat.le_refl _) (i:Int) (c:=0) (by omega)
  have l1:=hok.lf (Nat.le_refl _) (i:Int) (c:=1) (by omega)
  have b10:=hok.dn (Nat.le_refl _) (i:Int) 1 (c:=0) (by omega)
  have m10:=dn_le hok ht (i:Int) 1 (c:=0) (by omega)
  have b11:=hok.dn (Nat.le_refl _) (i:Int) 1 (c:=1) (by omega)
  have m11:=dn_le hok ht (i:Int) 1 (c:=1) (by omega)
  have b20:=hok.dn (Nat.le_refl _) (i:Int) 2 (c:=0) (by omega)
  have m20:=dn_le hok ht (i:Int) 2 (c:=0) (by omega)
  have b21:=hok.dn (Nat.le_refl _) (i:Int) 2 (c:=1) (by omega)
  have m21:=dn_le hok ht (i:Int) 2 (c:=1) (by omega)
  have b30:=hok.dn (Nat.le_refl _) (i:Int) 3 (c:=0) (by omega)
  have m30:=dn_le hok ht (i:Int) 3 (c:=0) (by omega)
  have b31:=hok.dn (Nat.le_refl _) (i:Int) 3 (c:=1) (by omega)
  have m31:=dn_le hok ht (i:Int) 3 (c:=1) (by omega)
  have b40:=hok.dn (Nat.le_refl _) (i:Int) 4 (c:=0) (by omega)
  have m40:=dn_le hok ht (i:Int) 4 (c:=0) (by omega)
  have b41:=hok.dn (Nat.le_refl _) (i:Int) 4 (c:=1) (by omega)
  have m41:=dn_le hok ht (i:Int) 4 (c:=1) (by omega)
  have b50:=hok.dn (Nat.le_refl _) (i:Int) 5 (c:=0) (by omega)
  have m50:=dn_le hok ht (i:Int) 5 (c:=0) (by omega)
  have b51:=hok.dn (Nat.le_refl _) (i:Int) 5 (c:=1) (by omega)
  have m51:=dn_le hok ht (i:Int) 5 (c:=1) (by omega)
  have e0:dn L i 1 0 L.length=dn L i 2 0 L.length+dn L i 3 0 L.length+dn L i 4 0 L.length+lf L i 0 L.length+0*dn L i 5 1 L.length:=by unfold lf; omega
  have e1:dn L i 1 1 L.length=dn L i 2 1 L.length+dn L i 3 1 L.length+dn L i 4 1 L.length+lf L i 1 L.length+1*dn L i 5 1 L.length:=by unfold lf; omega
  have o1:Int.ofNat 1=1:=rfl
  simp only [o1]
  have hlt':i < R.length:=by omega
  have fin:∃v:TnS,(TnOk v∧v.i≤v.R.length)∧v.R=R∧v.L=L∧v.Q=Q∧v.q=q∧v.i=i+1:=⟨⟨R,L,Q,q,i+1⟩,⟨⟨r4,hok,ht⟩,hlt'⟩,rfl,rfl,rfl,rfl,rfl⟩
  repeat' (with_reducible first | apply And.intro | intro _)
  all_goals first | omega | (simp only [InR]; omega) | (exfalso; omega) | skip
  all_goals refine⟨⟨R,L,Q,q,i+1⟩,?_⟩
  all_goals dsimp only
  all_goals repeat' (with_reducible apply And.intro)
  all_goals first | exact⟨r4,hok,ht⟩ | exact bk_plain _ _ _ | exact plain_elemOf _ _ _ | exact fun _ _=>rfl | rfl | omega
 ·have lt:(L.take v3.toNat).length=v3.toNat:=by rw [List.length_take]; omega
  have hokT:LgOk R.length (L.take v3.toNat):=lg_take hok (by omega)
  refine⟨by omega,R,?_,hcan,L.take v3.toNat,?_,⟨hM,hokT⟩,?_⟩
  ·repeat' (with_reducible apply And.intro)
   all_goals first | exact hrw | rfl | exact fun _ _=>rfl
  ·refine⟨by omega,by omega,lt,fun r hr=>hw r (List.mem_of_mem_take hr),fun i hi=>?_⟩
   show Rv.elemOf _ L i=_
   rw [elemOf_eq,elemOf_eq,List.getD_eq_getElem?_getD,List.getD_eq_getElem?_getD,List.getElem?_take_of_lt hi]
  refine⟨fun _=>⟨fun h=>(h rfl).elim,fun _=>?_⟩,fun h=>(h rfl).elim⟩
  refine⟨⟨⟨R,L,(L.take v3.toNat),v2,0⟩,?_⟩,?_⟩
  ·dsimp only
   repeat' (with_reducible apply And.intro)
   all_goals first | exact⟨hM.l.2,hok,v3.toNat,(by show v3.toNat≤L.length; omega),rfl⟩ | exact bk_plain _ _ _ | exact plain_elemOf _ _ _ | exact fun _ _=>rfl | rfl | omega
  clear hok hM hcan hrw hw hn4 h3 hl20 e0
  rintro⟨R,L,Q,q,i⟩ ⟨⟨r4,hok,ht⟩,hi⟩
  dsimp only at r4 hok ht hi ⊢
  intros
  refine⟨fun hlt=>?_,fun _=>htab⟩
  have i0:=lf_inv (i:Int) hok.a (k:=L.length)
  have z5:=dn_five hok (i:Int) (Nat.le_refl _)
  have l0:=hok.lf (Nat.le_refl _) (i:Int) (c:=0) (by omega)
  have l1:=hok.lf (Nat.le_refl _) (i:Int) (c:=1) (by omega)
  have b10:=hok.dn (Nat.le_refl _) (i:Int) 1 (c:=0) (by omega)
  have m10:=dn_le hok ht (i:Int) 1 (c:=0) (by omega)
  have b11:=hok.dn (Nat.le_refl _) (i:Int) 1 (c:=1) (by omega)
  have m11:=dn_le hok ht (i:Int) 1 (c:=1) (by omega)
  have b20:=hok.dn (Nat.le_refl _) (i:Int) 2 (c:=0) (by omega)
  have m20:=dn_le hok ht (i:Int) 2 (c:=0) (by omega)
  have b21:=hok.dn (Nat.le_refl _) (i:Int) 2 (c:=1) (by omega)
  have m21:=dn_le hok ht (i:Int) 2 (c:=1) (by omega)
  have b30:=hok.dn (Nat.le_refl _) (i:Int) 3 (c:=0) (by omega)
  have m30:=dn_le hok ht (i:Int) 3 (c:=0) (by omega)
  have b31:=hok.dn (Nat.le_refl _) (i:Int) 3 (c:=1) (by omega)
  have m31:=dn_le hok ht (i:Int) 3 (c:=1) (by omega)
  have b40:=hok.dn (Nat.le_refl _) (i:Int) 4 (c:=0) (by omega)
  have m40:=dn_le hok ht (i:Int) 4 (c:=0) (by omega)
  have b41:=hok.dn (Nat.le_refl _) (i:Int) 4 (c:=1) (by omega)
  have m41:=dn_le hok ht (i:Int) 4 (c:=1) (by omega)
  have b50:=hok.dn (Nat.le_refl _) (i:Int) 5 (c:=0) (by omega)
  have m50:=dn_le hok ht (i:Int) 5 (c:=0) (by omega)
  have b51:=hok.dn (Nat.le_refl _) (i:Int) 5 (c:=1) (by omega)
  have m51:=dn_le hok ht (i:Int) 5 (c:=1) (by omega)
  have e0:dn L i 1 0 L.length=dn L i 2 0 L.length+dn L i 3 0 L.length+dn L i 4 0 L.length+lf L i 0 L.length+0*dn L i 5 1 L.length:=by unfold lf; omega
  have e1:dn L i 1 1 L.length=dn L i 2 1 L.length+dn L i 3 1 L.length+dn L i 4 1 L.length+lf L i 1 L.length+1*dn L i 5 1 L.length:=by unfold lf; omega
  have o1:Int.ofNat 1=1:=rfl
  simp only [o1]
  have hlt':i < R.length:=by omega
  have fin:∃v:TnS,(TnOk v∧v.i≤v.R.length)∧v.R=R∧v.L=L∧v.Q=Q∧v.q=q∧v.i=i+1:=⟨⟨R,L,Q,q,i+1⟩,⟨⟨r4,hok,ht⟩,hlt'⟩,rfl,rfl,rfl,rfl,rfl⟩
  repeat' (with_reducible first | apply And.intro | intro _)
  all_goals first | omega | (simp only [InR]; omega) | (exfalso; omega) | skip
  all_goals refine⟨⟨R,L,Q,q,i+1⟩,?_⟩
  all_goals dsimp only
  all_goals repeat' (with_reducible apply And.intro)
  all_goals first | exact⟨r4,hok,ht⟩ | exact bk_plain _ _ _ | exact plain_elemOf _ _ _ | exact fun _ _=>rfl | rfl | omega
theorem e_law:V_law=needL P [] [F_TideOf.named,F_MarketOf.named,F_LedgerOf.named,F_Below.named,F_Book.named] 10 ([]:Tabs) A_law F_law:=by kernel_rfl
theorem n_law:Ob (needL P [] [F_TideOf.named,F_MarketOf.named,F_LedgerOf.named,F_Below.named,F_Book.named] 10 ([]:Tabs) A_law F_law):=by
 rw [← e_law]
 exact⟨v_law⟩
theorem l_law:(([]:List Fn0).all fun G=>!Nat.beq G.g 10)=true:=rfl
theorem le_law:([F_TideOf.named,F_MarketOf.named,F_LedgerOf.named,F_Below.named,F_Book.named].all fun G=>!Nat.beq G.g 10)=true:=rfl
theorem c_law:∀F∈([]:List Fn0),F.Ok P:=by
 intro F h; simp at h
theorem ce_law:∀F∈[F_TideOf.named,F_MarketOf.named,F_LedgerOf.named,F_Below.named,F_Book.named],F.Ok P:=by
 intro F h
 simp only [List.mem_cons,List.not_mem_nil,or_false]at h
 rcases h with rfl | rfl | rfl | rfl | rfl
 ·exact TideOf_ok.named
 ·exact MarketOf_ok.named
 ·exact LedgerOf_ok.named
 ·exact Below_ok.named
 ·exact Book_ok.named
end Go.Proofs.Ytdnphbnnhfpphaa.Sy
