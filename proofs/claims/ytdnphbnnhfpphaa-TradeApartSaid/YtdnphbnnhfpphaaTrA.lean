import Derived.Test.YtdnphbnnhfpphaaSyP2
import Derived.Test.YtdnphbnnhfpphaaGrM
import Derived.Test.YtdnphbnnhfpphaaKtT
import Derived.Test.YtdnphbnnhfpphaaSyP2
import Derived.KernelRfl
import Derived.Test.YtdnphbnnhfpphaaProg
namespace Go.Proofs.Ytdnphbnnhfpphaa.Sy
open Go Go.Rv
set_option linter.unusedVariables false
def gnm (k:Nat):ByteArray:=match k with
 | 0=>⟨#[99,104,105,99,107]⟩
 | 1=>⟨#[115,101,108,101,99,116]⟩
 | 2=>⟨#[99,117,108,108]⟩
 | _=>⟨#[106,117,109,98,111]⟩
theorem gnm_at {k:Nat} (j:Nat) (h:k=j):gnm k=gnm j:=by rw [h]
theorem ofV_two' (a x y:Int):ofV a [[x],[y]]=x∨ofV a [[x],[y]]=y:=by
 have h:=belowV_in a 2
 have e:ofV a [[x],[y]]=cell [[x],[y]] (belowV a 2).toNat 0:=by simp [ofV]
 rw [e]
 have:(belowV a 2).toNat=0∨(belowV a 2).toNat=1:=by
  generalize belowV a 2=q at *
  omega
 rcases this with h0 | h0<;>rw [h0]
 ·exact .inl rfl
 ·exact .inr rfl
open Classical in
noncomputable def p01 (p:Prop):Int:=if p then 1 else 0
theorem p01_iff (p:Prop):(p01 p=1↔p)∧(p01 p=0∨p01 p=1):=by
 unfold p01
 split<;>simp_all
structure EqZ (a b:Int):Prop where
 h:a=b
def mrLo (b:Int):Int:=440+belowV b (620-440+1)
def mrA1 (b:Int):Int:=belowA b (620-440+1)
def mrO (b:Int):Int:=ofV (mrA1 b) [[mrLo b+20],[900]]
def mrA2 (b:Int):Int:=ofA (mrA1 b) [[mrLo b+20],[900]]
def mrHi (b:Int):Int:=mrLo b+belowV (mrA2 b) (mrO b-mrLo b+1)
def mrA3 (b:Int):Int:=belowA (mrA2 b) (mrO b-mrLo b+1)
noncomputable def mrS (b:Int):Int:=p01 (belowV (mrA3 b) 2=0)
def mrA4 (b:Int):Int:=belowA (mrA3 b) 2
noncomputable def mrW (b:Int):Int:=p01 (belowV (mrA4 b) 2=0)
def mrA5 (b:Int):Int:=belowA (mrA4 b) 2
def mrX (b:Int):Int:=belowV (mrA5 b) 2500
def mrA6 (b:Int):Int:=belowA (mrA5 b) 2500
def mrY (b:Int):Int:=belowV (mrA6 b) 100001
def mrA7 (b:Int):Int:=belowA (mrA6 b) 100001
def mrP (b:Int):Int:=ofV (mrA7 b) [[0],[mrX b],[mrY b]]
def mrA8 (b:Int):Int:=ofA (mrA7 b) [[0],[mrX b],[mrY b]]
def mkQ (a:Int):Nat→Int
 | 0=>a
 | k+1=>mrA8 (mkQ a k)
noncomputable def mkR (a:Int):Nat→Rows
 | 0=>[]
 | k+1=>mkR a k++[[codeOf (gnm k),mrLo (mkQ a k),mrHi (mkQ a k),mrS (mkQ a k),mrW (mkQ a k),mrP (mkQ a k)]]
theorem p01_eq (p:Prop):(p01 p=1)=p:=propext (p01_iff p).1
theorem snocM {R:Rows} {k:Nat} {s:ByteArray} {x y z:Int} {c d:Prop} (hl:R.length=k):∀i,i < k+1→(behind k (.fn (Rv.elemOf [.u16,.i64,.i64,.i8,.i8,.i64] R)) 1 (litEl (symL [SV.v (.string s),SV.i .i64 x,SV.i .i64 y,SV.p c,SV.p d,SV.i .i64 z]) 6 1)).at i=(El.fn (Rv.elemOf [.u16,.i64,.i64,.i8,.i8,.i64] (R++[[codeOf s,x,y,p01 c,p01 d,z]]))).at i:=fun i hi=>by
 have:=snoc_at (R:=R) (ks:=[.u16,.i64,.i64,.i8,.i8,.i64]) (r:=[codeOf s,x,y,p01 c,p01 d,z]) (cs:=[SV.v (.string s),SV.i .i64 x,SV.i .i64 y,SV.p c,SV.p d,SV.i .i64 z]) (by
  simp only [rowS_cons,cellS,strOf_code,p01_eq]
  rfl) (i:=i) (by omega)
 rw [hl]at this
 exact this
theorem mk_len (a:Int):∀k,(mkR a k).length=k
 | 0=>rfl
 | k+1=>by simp [mkR,mk_len a k]
noncomputable def F_gradeNames:FnE:=⟨13,none,[],fun _=>True,fun l=>match l with | []=>[.sl 0 0 4 1] | _=>[],fun l=>match l with | []=>[.cells [.v (.string ⟨#[99,104,105,99,107]⟩),.v (.string ⟨#[115,101,108,101,99,116]⟩),.v (.string ⟨#[99,117,108,108]⟩),.v (.string ⟨#[106,117,109,98,111]⟩)] .ex] | _=>[],fun l=>match l with | []=>[] | _=>[],false,none,none⟩
noncomputable def A_gradeNames:List SV→List Dat→Nat→List SV→Ann:=fun _ _ _ _=>noAnn
def V_gradeNames:Prop:=
 ∀(B:RW),F_gradeNames.pre []→Ob (SV.v (Value.string { data:=#[(99:UInt8),(104:UInt8),(105:UInt8),(99:UInt8),(107:UInt8)] })=SV.v (Value.string { data:=#[(99:UInt8),(104:UInt8),(105:UInt8),(99:UInt8),(107:UInt8)] }))∧Ob (SV.v (Value.string { data:=#[(115:UInt8),(101:UInt8),(108:UInt8),(101:UInt8),(99:UInt8),(116:UInt8)] })=SV.v (Value.string { data:=#[(115:UInt8),(101:UInt8),(108:UInt8),(101:UInt8),(99:UInt8),(116:UInt8)] }))∧Ob (SV.v (Value.string { data:=#[(99:UInt8),(117:UInt8),(108:UInt8),(108:UInt8)] })=SV.v (Value.string { data:=#[(99:UInt8),(117:UInt8),(108:UInt8),(108:UInt8)] }))∧Ob (SV.v (Value.string { data:=#[(106:UInt8),(117:UInt8),(109:UInt8),(98:UInt8),(111:UInt8)] })=SV.v (Value.string { data:=#[(106:UInt8),(117:UInt8),(109:UInt8),(98:UInt8),(111:UInt8)] }))∧True
set_option linter.unusedSimpArgs false in
set_option maxRecDepth 4000 in
set_option maxHeartbeats 400000 in
theorem v_gradeNames:V_gradeNames:=by
 unfold V_gradeNames
 intro B _
 repeat' (with_reducible apply And.intro)
 all_goals first | trivial | (intro; exact⟨rfl⟩) | exact⟨rfl⟩
theorem e_gradeNames:V_gradeNames=needE P [] [] A_gradeNames F_gradeNames:=by kernel_rfl
theorem n_gradeNames:Ob (needE P [] [] A_gradeNames F_gradeNames):=by
 rw [← e_gradeNames]
 exact⟨v_gradeNames⟩
theorem b_gradeNames:((P.funcs[13]?).any fun fn=>fn.body.isSome)=true:=by kernel_rfl
theorem gradeNames_ok:FnE.Ok P F_gradeNames:=FnE.ok named (l:=[]) (es:=[]) (A:=A_gradeNames) (by rfl) (by rfl) (by rfl) (by
 intro F h; simp at h) (by
 intro F h; simp at h) b_gradeNames (by
 rintro ds h o ho n sz e k z rfl
 simp only [F_gradeNames]at ho
 split at ho<;>simp at ho) n_gradeNames
noncomputable def F_MarketOf:FnE:=⟨6,(some [.i .u64]),[],fun _=>True,fun l=>match l with | [.z a]=>[.gsl 0 (1+belowV a 4).toNat 6 true] | _=>[],fun l=>match l with | [.z a]=>[.gr (1+belowV a 4).toNat 6 (.fn (Rv.elemOf [.u16,.i64,.i64,.i8,.i8,.i64] (mkR (belowA a 4) (1+belowV a 4).toNat))) .gr true] | _=>[],fun l=>match l with | [.z a]=>[.i .u64 (mkQ (belowA a 4) (1+belowV a 4).toNat)] | _=>[],false,none,none⟩
noncomputable def A_MarketOf:List SV→List Dat→Nat→List SV→Ann:=fun xs ds n ts=>match xs with
 | [.agg _]=>match ds with
  | [.z a]=>match n with
   | 3=>⟨Nat,fun k=>([some (SV.ptr ((0:Nat)) ((0:Nat))),none,some (SV.v (Value.slice none ((0:Nat)) ((0:Nat)))),some (.gsl 1 k 6 true),some (.i .i64 (1+belowV a 4-k))]++nN 39),fun k=>[.gr k 6 (.fn (Rv.elemOf [.u16,.i64,.i64,.i8,.i8,.i64] (mkR (belowA a 4) k))) .gr true,.cells [.i .u64 (mkQ (belowA a 4) k)] .ex],fun k=>(k:Int)≤1+belowV a 4,fun k=>(1+belowV a 4-k).toNat,0⟩
   | _=>noAnn
  | _=>noAnn
 | _=>noAnn
def V_MarketOf:Prop:=
 ∀(B:RW) (b:Int),F_MarketOf.pre ([Dat.z b]++[])→Ob (F_From.named.pre ([Dat.z b]++[Dat.z (1:Int),Dat.z (4:Int)]))∧∀(s:Int),s=belowA b ((4:Int)-(1:Int)+(1:Int))→∀(t:Int),t=(1:Int)+belowV b ((4:Int)-(1:Int)+(1:Int))→(∃(a:Nat),Ob ((↑a:Int)≤(1:Int)+belowV b (4:Int))∧Ob (SV.v (Value.slice none 0 0)=SV.v (Value.slice none 0 0))∧Ob (a=(0:Nat))∧Ob (t=(1:Int)+belowV b (4:Int)-(↑a:Int))∧Ob (a=(0:Nat))∧Ob (s=mkQ (belowA b (4:Int)) a)∧Ob (PlainE a (El.fn (Rv.elemOf [IntKind.u16,.i64,.i64,IntKind.i8,IntKind.i8,.i64] (mkR (belowA b (4:Int)) a))))∧True)∧∀(a:Nat),(↑a:Int)≤(1:Int)+belowV b (4:Int)→∀(_ _ _ _ _ _ _ _ _ _ _ _ _ _ _ _ _ _ _ _ _ _ _ _ _ _ _ _ _ _ _ _ _ _ _ _ _ _ _ _:Value),((0:Int) < (1:Int)+belowV b (4:Int)-(↑a:Int)→Ob (F_From.named.pre ([Dat.z (mkQ (belowA b (4:Int)) a)]++[Dat.z (440:Int),Dat.z (620:Int)]))∧∀(n:Int),n=belowA (mkQ (belowA b (4:Int)) a) ((620:Int)-(440:Int)+(1:Int))→∀(d:Int),d=(440:Int)+belowV (mkQ (belowA b (4:Int)) a) ((620:Int)-(440:Int)+(1:Int))→Ob (F_gradeNames.named.pre [])∧Ob ((0:Int)≤(↑a:Int)∧a < 4)∧(((True∧((↑a:Int)=(↑0:Int)→Ob (InR .i64 (d+(20:Int)))∧Ob (F_Of.named.pre ([Dat.z n]++[Dat.l [[d+(20:Int)],[(900:Int)]]]))∧∀(e:Int),e=ofA n [[d+(20:Int)],[(900:Int)]]→∀(k:Int),k=ofV n [[d+(20:Int)],[(900:Int)]]→Ob (F_From.named.pre ([Dat.z e]++[Dat.z d,Dat.z k]))∧∀(h:Int),h=belowA e (k-d+(1:Int))→∀(r:Int),r=d+belowV e (k-d+(1:Int))→Ob (F_Once.named.pre ([Dat.z h]++[Dat.z (2:Int)]))∧∀(l:Int),l=belowA h (2:Int)→Ob (F_Once.named.pre ([Dat.z l]++[Dat.z (2:Int)]))∧∀(g:Int),g=belowA l (2:Int)→Ob (F_Below.named.pre ([Dat.z g]++[Dat.z (2500:Int)]))∧∀(i:Int),i=belowA g (2500:Int)→∀(m:Int),m=belowV g (2500:Int)→Ob (F_Below.named.pre ([Dat.z i]++[Dat.z (100001:Int)]))∧∀(j:Int),j=belowA i (100001:Int)→∀(f:Int),f=belowV i (100001:Int)→Ob (F_Of.named.pre ([Dat.z j]++[Dat.l [[(0:Int)],[m],[f]]]))∧∀(p:Int),p=ofA j [[(0:Int)],[m],[f]]→∀(q:Int),q=ofV j [[(0:Int)],[m],[f]]→Ob (a=a∧∀(o:Nat),o < a→((El.fn (Rv.elemOf [IntKind.u16,.i64,.i64,IntKind.i8,IntKind.i8,.i64] (mkR (belowA b (4:Int)) a))).at o).length=(6:Nat))∧Ob ((a+(1:Nat))*(2:Nat)*(49:Nat)≤1099511627776)∧Ob (a=a)∧Ob (InR .i64 ((1:Int)+belowV b (4:Int)-(↑a:Int)-(1:Int)))∧∃(c:Nat),Ob ((↑c:Int)≤(1:Int)+belowV b (4:Int)∧((1:Int)+belowV b (4:Int)-(↑c:Int)).toNat < ((1:Int)+belowV b (4:Int)-(↑a:Int)).toNat)∧Ob (SV.v (Value.slice none 0 0)=SV.v (Value.slice none 0 0))∧Ob (a+(1:Nat)=c)∧Ob ((1:Int)+belowV b (4:Int)-(↑a:Int)-(1:Int)=(1:Int)+belowV b (4:Int)-(↑c:Int))∧EqA (a+(1:Nat)) c (behind a (El.fn (Rv.elemOf [IntKind.u16,.i64,.i64,IntKind.i8,IntKind.i8,.i64] (mkR (belowA b (4:Int)) a))) 1 (litEl (symL [SV.v (Value.string { data:=#[(99:UInt8),(104:UInt8),(105:UInt8),(99:UInt8),(107:UInt8)] }),SV.i .i64 d,SV.i .i64 r,SV.p (belowV h (2:Int)=(0:Int)),SV.p (belowV l (2:Int)=(0:Int)),SV.i .i64 q]) 6 1)) (El.fn (Rv.elemOf [IntKind.u16,.i64,.i64,IntKind.i8,IntKind.i8,.i64] (mkR (belowA b (4:Int)) c)))∧Ob (p=mkQ (belowA b (4:Int)) c)∧Ob (PlainE c (El.fn (Rv.elemOf [IntKind.u16,.i64,.i64,IntKind.i8,IntKind.i8,.i64] (mkR (belowA b (4:Int)) c))))∧True))∧((↑a:Int)=(↑1:Int)→Ob (InR .i64 (d+(20:Int)))∧Ob (F_Of.named.pre ([Dat.z n]++[Dat.l [[d+(20:Int)],[(900:Int)]]]))∧∀(e:Int),e=ofA n [[d+(20:Int)],[(900:Int)]]→∀(k:Int),k=ofV n [[d+(20:Int)],[(900:Int)]]→Ob (F_From.named.pre ([Dat.z e]++[Dat.z d,Dat.z k]))∧∀(h:Int),h=belowA e (k-d+(1:Int))→∀(r:Int),r=d+belowV e (k-d+(1:Int))→Ob (F_Once.named.pre ([Dat.z h]++[Dat.z (2:Int)]))∧∀(l:Int),l=belowA h (2:Int)→Ob (F_Once.named.pre ([Dat.z l]++[Dat.z (2:Int)]))∧∀(g:Int),g=belowA l (2:Int)→Ob (F_Below.named.pre ([Dat.z g]++[Dat.z (2500:Int)]))∧∀(i:Int),i=belowA g (2500:Int)→∀(m:Int),m=belowV g (2500:Int)→Ob (F_Below.named.pre ([Dat.z i]++[Dat.z (100001:Int)]))∧∀(j:Int),j=belowA i (100001:Int)→∀(f:Int),f=belowV i (100001:Int)→Ob (F_Of.named.pre ([Dat.z j]++[Dat.l [[(0:Int)],[m],[f]]]))∧∀(p:Int),p=ofA j [[(0:Int)],[m],[f]]→∀(q:Int),q=ofV j [[(0:Int)],[m],[f]]→Ob (a=a∧∀(o:Nat),o < a→((El.fn (Rv.elemOf [IntKind.u16,.i64,.i64,IntKind.i8,IntKind.i8,.i64] (mkR (belowA b (4:Int)) a))).at o).length=(6:Nat))∧Ob ((a+(1:Nat))*(2:Nat)*(49:Nat)≤1099511627776)∧Ob (a=a)∧Ob (InR .i64 ((1:Int)+belowV b (4:Int)-(↑a:Int)-(1:Int)))∧∃(c:Nat),Ob ((↑c:Int)≤(1:Int)+belowV b (4:Int)∧((1:Int)+belowV b (4:Int)-(↑c:Int)).toNat < ((1:Int)+belowV b (4:Int)-(↑a:Int)).toNat)∧Ob (SV.v (Value.slice none 0 0)=SV.v (Value.slice none 0 0))∧Ob (a+(1:Nat)=c)∧Ob ((1:Int)+belowV b (4:Int)-(↑a:Int)-(1:Int)=(1:Int)+belowV b (4:Int)-(↑c:Int))∧EqA (a+(1:Nat)) c (behind a (El.fn (Rv.elemOf [IntKind.u16,.i64,.i64,IntKind.i8,IntKind.i8,.i64] (mkR (belowA b (4:Int)) a))) 1 (litEl (symL [SV.v (Value.string { data:=#[(115:UInt8),(101:UInt8),(108:UInt8),(101:UInt8),(99:UInt8),(116:UInt8)] }),SV.i .i64 d,SV.i .i64 r,SV.p (belowV h (2:Int)=(0:Int)),SV.p (belowV l (2:Int)=(0:Int)),SV.i .i64 q]) 6 1)) (El.fn (Rv.elemOf [IntKind.u16,.i64,.i64,IntKind.i8,IntKind.i8,.i64] (mkR (belowA b (4:Int)) c)))∧Ob (p=mkQ (belowA b (4:Int)) c)∧Ob (PlainE c (El.fn (Rv.elemOf [IntKind.u16,.i64,.i64,IntKind.i8,IntKind.i8,.i64] (mkR (belowA b (4:Int)) c))))∧True))∧((↑a:Int)=(↑2:Int)→Ob (InR .i64 (d+(20:Int)))∧Ob (F_Of.named.pre ([Dat.z n]++[Dat.l [[d+(20:Int)],[(900:Int)]]]))∧∀(e:Int),e=ofA n [[d+(20:Int)],[(900:Int)]]→∀(k:Int),k=ofV n [[d+(20:Int)],[(900:Int)]]→Ob (F_From.named.pre ([Dat.z e]++[Dat.z d,Dat.z k]))∧∀(h:Int),h=belowA e (k-d+(1:Int))→∀(r:Int),r=d+belowV e (k-d+(1:Int))→Ob (F_Once.named.pre ([Dat.z h]++[Dat.z (2:Int)]))∧∀(l:Int),l=belowA h (2:Int)→Ob (F_Once.named.pre ([Dat.z l]++[Dat.z (2:Int)]))∧∀(g:Int),g=belowA l (2:Int)→Ob (F_Below.named.pre ([Dat.z g]++[Dat.z (2500:Int)]))∧∀(i:Int),i=belowA g (2500:Int)→∀(m:Int),m=belowV g (2500:Int)→Ob (F_Below.named.pre ([Dat.z i]++[Dat.z (100001:Int)]))∧∀(j:Int),j=belowA i (100001:Int)→∀(f:Int),f=belowV i (100001:Int)→Ob (F_Of.named.pre ([Dat.z j]++[Dat.l [[(0:Int)],[m],[f]]]))∧∀(p:Int),p=ofA j [[(0:Int)],[m],[f]]→∀(q:Int),q=ofV j [[(0:Int)],[m],[f]]→Ob (a=a∧∀(o:Nat),o < a→((El.fn (Rv.elemOf [IntKind.u16,.i64,.i64,IntKind.i8,IntKind.i8,.i64] (mkR (belowA b (4:Int)) a))).at o).length=(6:Nat))∧Ob ((a+(1:Nat))*(2:Nat)*(49:Nat)≤1099511627776)∧Ob (a=a)∧Ob (InR .i64 ((1:Int)+belowV b (4:Int)-(↑a:Int)-(1:Int)))∧∃(c:Nat),Ob ((↑c:Int)≤(1:Int)+belowV b (4:Int)∧((1:Int)+belowV b (4:Int)-(↑c:Int)).toNat < ((1:Int)+belowV b (4:Int)-(↑a:Int)).toNat)∧Ob (SV.v (Value.slice none 0 0)=SV.v (Value.slice none 0 0))∧Ob (a+(1:Nat)=c)∧Ob ((1:Int)+belowV b (4:Int)-(↑a:Int)-(1:Int)=(1:Int)+belowV b (4:Int)-(↑c:Int))∧EqA (a+(1:Nat)) c (behind a (El.fn (Rv.elemOf [IntKind.u16,.i64,.i64,IntKind.i8,IntKind.i8,.i64] (mkR (belowA b (4:Int)) a))) 1 (litEl (symL [SV.v (Value.string { data:=#[(99:UInt8),(117:UInt8),(108:UInt8),(108:UInt8)] }),SV.i .i64 d,SV.i .i64 r,SV.p (belowV h (2:Int)=(0:Int)),SV.p (belowV l (2:Int)=(0:Int)),SV.i .i64 q]) 6 1)) (El.fn (Rv.elemOf [IntKind.u16,.i64,.i64,IntKind.i8,IntKind.i8,.i64] (mkR (belowA b (4:Int)) c)))∧Ob (p=mkQ (belowA b (4:Int)) c)∧Ob (PlainE c (El.fn (Rv.elemOf [IntKind.u16,.i64,.i64,IntKind.i8,IntKind.i8,.i64] (mkR (belowA b (4:Int)) c))))∧True))∧((↑a:Int)=(↑3:Int)→Ob (InR .i64 (d+(20:Int)))∧Ob (F_Of.named.pre ([Dat.z n]++[Dat.l [[d+(20:Int)],[(900:Int)]]]))∧∀(e:Int),e=ofA n [[d+(20:Int)],[(900:Int)]]→∀(k:Int),k=ofV n [[d+(20:Int)],[(900:Int)]]→Ob (F_From.named.pre ([Dat.z e]++[Dat.z d,Dat.z k]))∧∀(h:Int),h=belowA e (k-d+(1:Int))→∀(r:Int),r=d+belowV e (k-d+(1:Int))→Ob (F_Once.named.pre ([Dat.z h]++[Dat.z (2:Int)]))∧∀(l:Int),l=belowA h (2:Int)→Ob (F_Once.named.pre ([Dat.z l]++[Dat.z (2:Int)]))∧∀(g:Int),g=belowA l (2:Int)→Ob (F_Below.named.pre ([Dat.z g]++[Dat.z (2500:Int)]))∧∀(i:Int),i=belowA g (2500:Int)→∀(m:Int),m=belowV g (2500:Int)→Ob (F_Below.named.pre ([Dat.z i]++[Dat.z (100001:Int)]))∧∀(j:Int),j=belowA i (100001:Int)→∀(f:Int),f=belowV i (100001:Int)→Ob (F_Of.named.pre ([Dat.z j]++[Dat.l [[(0:Int)],[m],[f]]]))∧∀(p:Int),p=ofA j [[(0:Int)],[m],[f]]→∀(q:Int),q=ofV j [[(0:Int)],[m],[f]]→Ob (a=a∧∀(o:Nat),o < a→((El.fn (Rv.elemOf [IntKind.u16,.i64,.i64,IntKind.i8,IntKind.i8,.i64] (mkR (belowA b (4:Int)) a))).at o).length=(6:Nat))∧Ob ((a+(1:Nat))*(2:Nat)*(49:Nat)≤1099511627776)∧Ob (a=a)∧Ob (InR .i64 ((1:Int)+belowV b (4:Int)-(↑a:Int)-(1:Int)))∧∃(c:Nat),Ob ((↑c:Int)≤(1:Int)+belowV b (4:Int)∧((1:Int)+belowV b (4:Int)-(↑c:Int)).toNat < ((1:Int)+belowV b (4:Int)-(↑a:Int)).toNat)∧Ob (SV.v (Value.slice none 0 0)=SV.v (Value.slice none 0 0))∧Ob (a+(1:Nat)=c)∧Ob ((1:Int)+belowV b (4:Int)-(↑a:Int)-(1:Int)=(1:Int)+belowV b (4:Int)-(↑c:Int))∧EqA (a+(1:Nat)) c (behind a (El.fn (Rv.elemOf [IntKind.u16,.i64,.i64,IntKind.i8,IntKind.i8,.i64] (mkR (belowA b (4:Int)) a))) 1 (litEl (symL [SV.v (Value.string { data:=#[(106:UInt8),(117:UInt8),(109:UInt8),(98:UInt8),(111:UInt8)] }),SV.i .i64 d,SV.i .i64 r,SV.p (belowV h (2:Int)=(0:Int)),SV.p (belowV l (2:Int)=(0:Int)),SV.i .i64 q]) 6 1)) (El.fn (Rv.elemOf [IntKind.u16,.i64,.i64,IntKind.i8,IntKind.i8,.i64] (mkR (belowA b (4:Int)) c)))∧Ob (p=mkQ (belowA b (4:Int)) c)∧Ob (PlainE c (El.fn (Rv.elemOf [IntKind.u16,.i64,.i64,IntKind.i8,IntKind.i8,.i64] (mkR (belowA b (4:Int)) c))))∧True))∧(¬(0:Int) < (1:Int)+belowV b (4:Int)-(↑a:Int)→Ob (a=((1:Int)+belowV b (4:Int)).toNat)∧EqA a (((1:Int)+belowV b (4:Int)).toNat) (El.fn (Rv.elemOf [IntKind.u16,.i64,.i64,IntKind.i8,IntKind.i8,.i64] (mkR (belowA b (4:Int)) a))) (El.fn (Rv.elemOf [IntKind.u16,.i64,.i64,IntKind.i8,IntKind.i8,.i64] (mkR (belowA b (4:Int)) ((1:Int)+belowV b (4:Int)).toNat)))∧Ob (mkQ (belowA b (4:Int)) a=mkQ (belowA b (4:Int)) ((1:Int)+belowV b (4:Int)).toNat)∧Ob (PlainE ((1:Int)+belowV b (4:Int)).toNat (El.fn (Rv.elemOf [IntKind.u16,.i64,.i64,IntKind.i8,IntKind.i8,.i64] (mkR (belowA b (4:Int)) ((1:Int)+belowV b (4:Int)).toNat))))∧True)
set_option linter.unusedSimpArgs false in
set_option maxRecDepth 4000 in
set_option maxHeartbeats 400000 in
theorem v_MarketOf:V_MarketOf:=by
 unfold V_MarketOf EqA
 intro B a _
 simp only [F_Below,F_From,F_Of,F_Once,F_gradeNames,FnE.named,List.cons_append,List.nil_append,Ob_iff,and_true,true_and]at ⊢
 refine⟨by omega,?_⟩
 intro v hv v1 hv1
 have hN:=belowV_in a 4
 have e4:(4:Int)-1+1=4:=rfl
 rw [e4]at hv hv1
 obtain⟨M,hM⟩:∃M,M=belowV a 4:=⟨_,rfl⟩
 rw [← hM]at hN hv1 ⊢
 obtain⟨q,hq⟩:∃q,belowA a 4=q:=⟨_,rfl⟩
 rw [hq]at hv ⊢
 subst hv
 subst hv1
 clear hq hM e4
 have hN:0≤M∧M≤3:=by omega
 refine⟨⟨0,by omega,rfl,by omega,rfl,rfl,plain_elemOf _ _ _⟩,?_⟩
 intro k hk
 intros
 refine⟨fun h1=>?_,fun h1=>?_⟩
 ·obtain⟨b,hb⟩:∃b,mkQ v k=b:=⟨_,rfl⟩
  rw [hb]
  refine⟨by omega,?_⟩
  intro v2 hv2 v3 hv3
  have hlo:=belowV_in b (620-440+1)
  have hlo:440≤v3∧v3≤620:=by rw [hv3]; clear hv2 hv3; omega
  replace hv2:EqZ _ _:=⟨hv2⟩
  replace hv3:EqZ _ _:=⟨hv3⟩
  have hl:=mk_len v k
  have body:∀(s:ByteArray),s=gnm k→∀(v4:Int),v4=ofA v2 [[v3+20],[900]]→∀(v5:Int),v5=ofV v2 [[v3+20],[900]]→∀(v6:Int),v6=belowA v4 (v5-v3+1)→∀(v7:Int),v7=v3+belowV v4 (v5-v3+1)→∀(v8:Int),v8=belowA v6 2→∀(v9:Int),v9=belowA v8 2→∀(v10:Int),v10=belowA v9 2500→∀(v11:Int),v11=belowV v9 2500→∀(v12:Int),v12=belowA v10 100001→∀(v13:Int),v13=belowV v10 100001→∀(v14:Int),v14=ofA v12 [[0],[v11],[v13]]→∀(v15:Int),v15=ofV v12 [[0],[v11],[v13]]→v14=mkQ v (k+1)∧∀i,i < k+1→(behind k (.fn (Rv.elemOf [.u16,.i64,.i64,.i8,.i8,.i64] (mkR v k))) 1 (litEl (symL [SV.v (.string s),SV.i .i64 v3,SV.i .i64 v7,SV.p (belowV v6 2=0),SV.p (belowV v8 2=0),SV.i .i64 v15]) 6 1)).at i=(El.fn (Rv.elemOf [.u16,.i64,.i64,.i8,.i8,.i64] (mkR v (k+1)))).at i:=by
   intro s hs v4 hv4 v5 hv5 v6 hv6 v7 hv7 v8 hv8 v9 hv9 v10 hv10 v11 hv11 v12 hv12 v13 hv13 v14 hv14 v15 hv15
   have g2:v2=mrA1 b:=hv2.h
   have g3:v3=mrLo b:=hv3.h
   have g4:v4=mrA2 b:=by rw [hv4,g2,g3]; rfl
   have g5:v5=mrO b:=by rw [hv5,g2,g3]; rfl
   have g6:v6=mrA3 b:=by rw [hv6,g4,g5,g3]; rfl
   have g7:v7=mrHi b:=by rw [hv7,g4,g5,g3]; rfl
   have g8:v8=mrA4 b:=by rw [hv8,g6]; rfl
   have g9:v9=mrA5 b:=by rw [hv9,g8]; rfl
   have g10:v10=mrA6 b:=by rw [hv10,g9]; rfl
   have g11:v11=mrX b:=by rw [hv11,g9]; rfl
   have g12:v12=mrA7 b:=by rw [hv12,g10]; rfl
   have g13:v13=mrY b:=by rw [hv13,g10]; rfl
   have g14:v14=mrA8 b:=by rw [hv14,g12,g11,g13]; rfl
   have g15:v15=mrP b:=by rw [hv15,g12,g11,g13]; rfl
   have eR:mkR v (k+1)=mkR v k++[[codeOf s,v3,v7,p01 (belowV v6 2=0),p01 (belowV v8 2=0),v15]]:=by
    rw [hs,g3,g7,g6,g8,g15,← hb]
    rfl
   refine⟨?_,?_⟩
   ·rw [g14,← hb]
    rfl
   ·rw [eR]
    exact snocM hl
  have fin:∀(s:ByteArray),s=gnm k→_:=body
  clear hb
  have hk4:k < 4:=by omega
  refine⟨⟨by omega,hk4⟩,?_⟩
  refine⟨⟨⟨fun h2=>?_,fun h2=>?_⟩,fun h2=>?_⟩,fun h2=>?_⟩
  ·replace fin:=fin _ (by rw [gnm_at 0 (by omega)])
   refine⟨by simp only [InR]; omega,by simp,?_⟩
   intro v4 hv4 v5 hv5
   have h5:v5=v3+20∨v5=900:=by rw [hv5]; exact ofV_two' _ _ _
   replace hv4:EqZ _ _:=⟨hv4⟩
   replace hv5:EqZ _ _:=⟨hv5⟩
   refine⟨by omega,?_⟩
   intro v6 hv6 v7 hv7
   replace hv6:EqZ _ _:=⟨hv6⟩
   replace hv7:EqZ _ _:=⟨hv7⟩
   refine⟨by omega,?_⟩
   intro v8 hv8
   replace hv8:EqZ _ _:=⟨hv8⟩
   refine⟨by omega,?_⟩
   intro v9 hv9
   replace hv9:EqZ _ _:=⟨hv9⟩
   refine⟨by omega,?_⟩
   intro v10 hv10 v11 hv11
   replace hv10:EqZ _ _:=⟨hv10⟩
   replace hv11:EqZ _ _:=⟨hv11⟩
   refine⟨by omega,?_⟩
   intro v12 hv12 v13 hv13
   replace hv12:EqZ _ _:=⟨hv12⟩
   replace hv13:EqZ _ _:=⟨hv13⟩
   refine⟨by simp,?_⟩
   intro v14 hv14 v15 hv15
   obtain⟨f1,f2⟩:=fin v4 hv4.h v5 hv5.h v6 hv6.h v7 hv7.h v8 hv8.h v9 hv9.h v10 hv10.h v11 hv11.h v12 hv12.h v13 hv13.h v14 hv14 v15 hv15
   replace hv14:EqZ _ _:=⟨hv14⟩
   replace hv15:EqZ _ _:=⟨hv15⟩
   clear fin body hv2 hv3 hv4 hv5 hv6 hv7 hv8 hv9 hv10 hv11 hv12 hv13 hv14 hv15
   replace f1:EqZ _ _:=⟨f1⟩
   have e3:(1+M-((k+1:Nat):Int)).toNat < (1+M-(k:Int)).toNat:=by clear f1 f2; omega
   refine⟨fun i hi=>rfl,by clear f1 f2; omega,by clear f1 f2; simp only [InR]; omega,k+1,⟨by clear f1 f2; omega,e3⟩,rfl,by clear f1 f2; omega,⟨rfl,f2⟩,f1.h,plain_elemOf _ _ _⟩
  ·replace fin:=fin _ (by rw [gnm_at 1 (by omega)])
   refine⟨by simp only [InR]; omega,by simp,?_⟩
   intro v4 hv4 v5 hv5
   have h5:v5=v3+20∨v5=900:=by rw [hv5]; exact ofV_two' _ _ _
   replace hv4:EqZ _ _:=⟨hv4⟩
   replace hv5:EqZ _ _:=⟨hv5⟩
   refine⟨by omega,?_⟩
   intro v6 hv6 v7 hv7
   replace hv6:EqZ _ _:=⟨hv6⟩
   replace hv7:EqZ _ _:=⟨hv7⟩
   refine⟨by omega,?_⟩
   intro v8 hv8
   replace hv8:EqZ _ _:=⟨hv8⟩
   refine⟨by omega,?_⟩
   intro v9 hv9
   replace hv9:EqZ _ _:=⟨hv9⟩
   refine⟨by omega,?_⟩
   intro v10 hv10 v11 hv11
   replace hv10:EqZ _ _:=⟨hv10⟩
   replace hv11:EqZ _ _:=⟨hv11⟩
   refine⟨by omega,?_⟩
   intro v12 hv12 v13 hv13
   replace hv12:EqZ _ _:=⟨hv12⟩
   replace hv13:EqZ _ _:=⟨hv13⟩
   refine⟨by simp,?_⟩
   intro v14 hv14 v15 hv15
   obtain⟨f1,f2⟩:=fin v4 hv4.h v5 hv5.h v6 hv6.h v7 hv7.h v8 hv8.h v9 hv9.h v10 hv10.h v11 hv11.h v12 hv12.h v13 hv13.h v14 hv14 v15 hv15
   replace hv14:EqZ _ _:=⟨hv14⟩
   replace hv15:EqZ _ _:=⟨hv15⟩
   clear fin body hv2 hv3 hv4 hv5 hv6 hv7 hv8 hv9 hv10 hv11 hv12 hv13 hv14 hv15
   replace f1:EqZ _ _:=⟨f1⟩
   have e3:(1+M-((k+1:Nat):Int)).toNat < (1+M-(k:Int)).toNat:=by clear f1 f2; omega
   refine⟨fun i hi=>rfl,by clear f1 f2; omega,by clear f1 f2; simp only [InR]; omega,k+1,⟨by clear f1 f2; omega,e3⟩,rfl,by clear f1 f2; omega,⟨rfl,f2⟩,f1.h,plain_elemOf _ _ _⟩
  ·replace fin:=fin _ (by rw [gnm_at 2 (by omega)])
   refine⟨by simp only [InR]; omega,by simp,?_⟩
   intro v4 hv4 v5 hv5
   have h5:v5=v3+20∨v5=900:=by rw [hv5]; exact ofV_two' _ _ _
   replace hv4:EqZ _ _:=⟨hv4⟩
   replace hv5:EqZ _ _:=⟨hv5⟩
   refine⟨by omega,?_⟩
   intro v6 hv6 v7 hv7
   replace hv6:EqZ _ _:=⟨hv6⟩
   replace hv7:EqZ _ _:=⟨hv7⟩
   refine⟨by omega,?_⟩
   intro v8 hv8
   replace hv8:EqZ _ _:=⟨hv8⟩
   refine⟨by omega,?_⟩
   intro v9 hv9
   replace hv9:EqZ _ _:=⟨hv9⟩
   refine⟨by omega,?_⟩
   intro v10 hv10 v11 hv11
   replace hv10:EqZ _ _:=⟨hv10⟩
   replace hv11:EqZ _ _:=⟨hv11⟩
   refine⟨by omega,?_⟩
   intro v12 hv12 v13 hv13
   replace hv12:EqZ _ _:=⟨hv12⟩
   replace hv13:EqZ _ _:=⟨hv13⟩
   refine⟨by simp,?_⟩
   intro v14 hv14 v15 hv15
   obtain⟨f1,f2⟩:=fin v4 hv4.h v5 hv5.h v6 hv6.h v7 hv7.h v8 hv8.h v9 hv9.h v10 hv10.h v11 hv11.h v12 hv12.h v13 hv13.h v14 hv14 v15 hv15
   replace hv14:EqZ _ _:=⟨hv14⟩
   replace hv15:EqZ _ _:=⟨hv15⟩
   clear fin body hv2 hv3 hv4 hv5 hv6 hv7 hv8 hv9 hv10 hv11 hv12 hv13 hv14 hv15
   replace f1:EqZ _ _:=⟨f1⟩
   have e3:(1+M-((k+1:Nat):Int)).toNat < (1+M-(k:Int)).toNat:=by clear f1 f2; omega
   refine⟨fun i hi=>rfl,by clear f1 f2; omega,by clear f1 f2; simp only [InR]; omega,k+1,⟨by clear f1 f2; omega,e3⟩,rfl,by clear f1 f2; omega,⟨rfl,f2⟩,f1.h,plain_elemOf _ _ _⟩
  ·replace fin:=fin _ (by rw [gnm_at 3 (by omega)])
   refine⟨by simp only [InR]; omega,by simp,?_⟩
   intro v4 hv4 v5 hv5
   have h5:v5=v3+20∨v5=900:=by rw [hv5]; exact ofV_two' _ _ _
   replace hv4:EqZ _ _:=⟨hv4⟩
   replace hv5:EqZ _ _:=⟨hv5⟩
   refine⟨by omega,?_⟩
   intro v6 hv6 v7 hv7
   replace hv6:EqZ _ _:=⟨hv6⟩
   replace hv7:EqZ _ _:=⟨hv7⟩
   refine⟨by omega,?_⟩
   intro v8 hv8
   replace hv8:EqZ _ _:=⟨hv8⟩
   refine⟨by omega,?_⟩
   intro v9 hv9
   replace hv9:EqZ _ _:=⟨hv9⟩
   refine⟨by omega,?_⟩
   intro v10 hv10 v11 hv11
   replace hv10:EqZ _ _:=⟨hv10⟩
   replace hv11:EqZ _ _:=⟨hv11⟩
   refine⟨by omega,?_⟩
   intro v12 hv12 v13 hv13
   replace hv12:EqZ _ _:=⟨hv12⟩
   replace hv13:EqZ _ _:=⟨hv13⟩
   refine⟨by simp,?_⟩
   intro v14 hv14 v15 hv15
   obtain⟨f1,f2⟩:=fin v4 hv4.h v5 hv5.h v6 hv6.h v7 hv7.h v8 hv8.h v9 hv9.h v10 hv10.h v11 hv11.h v12 hv12.h v13 hv13.h v14 hv14 v15 hv15
   replace hv14:EqZ _ _:=⟨hv14⟩
   replace hv15:EqZ _ _:=⟨hv15⟩
   clear fin body hv2 hv3 hv4 hv5 hv6 hv7 hv8 hv9 hv10 hv11 hv12 hv13 hv14 hv15
   replace f1:EqZ _ _:=⟨f1⟩
   have e3:(1+M-((k+1:Nat):Int)).toNat < (1+M-(k:Int)).toNat:=by clear f1 f2; omega
   refine⟨fun i hi=>rfl,by clear f1 f2; omega,by clear f1 f2; simp only [InR]; omega,k+1,⟨by clear f1 f2; omega,e3⟩,rfl,by clear f1 f2; omega,⟨rfl,f2⟩,f1.h,plain_elemOf _ _ _⟩
 ·have e:k=(1+M).toNat:=by omega
  subst e
  repeat' (with_reducible apply And.intro)
  all_goals first | exact plain_elemOf _ _ _ | trivial | rfl | exact fun _ _=>rfl
theorem e_MarketOf:V_MarketOf=needE P [] [F_Below.named,F_From.named,F_Of.named,F_Once.named,F_gradeNames.named] A_MarketOf F_MarketOf:=by kernel_rfl
theorem n_MarketOf:Ob (needE P [] [F_Below.named,F_From.named,F_Of.named,F_Once.named,F_gradeNames.named] A_MarketOf F_MarketOf):=by
 rw [← e_MarketOf]
 exact⟨v_MarketOf⟩
theorem b_MarketOf:((P.funcs[6]?).any fun fn=>fn.body.isSome)=true:=by kernel_rfl
theorem MarketOf_ok:FnE.Ok P F_MarketOf:=FnE.ok named (l:=[]) (es:=[F_Below.named,F_From.named,F_Of.named,F_Once.named,F_gradeNames.named]) (A:=A_MarketOf) (by rfl) (by rfl) (by rfl) (by
 intro F h; simp at h) (by
 intro F h
 simp only [List.mem_cons,List.not_mem_nil,or_false]at h
 rcases h with rfl | rfl | rfl | rfl | rfl
 ·exact Below_ok.named
 ·exact From_ok.named
 ·exact Of_ok.named
 ·exact Once_ok.named
 ·exact gradeNames_ok.named
) b_MarketOf (by
 intro ds h o ho n sz e k z he
 subst he
 simp only [F_MarketOf]at ho
 split at ho
 ·simp only [List.mem_cons,List.not_mem_nil,or_false,SObj.gr.injEq]at ho
  obtain⟨rfl,rfl,rfl,rfl,rfl⟩:=ho
  exact plain_elemOf _ _ _
 ·simp at ho) n_MarketOf
end Go.Proofs.Ytdnphbnnhfpphaa.Sy
