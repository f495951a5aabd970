import Derived.Test.YtdnphbnnhfpphaaRvP3
namespace Go.Rv
open Go
inductive SV where
 | v (x:Value)
 | i (k:IntKind) (z:Int)
 | p (c:Prop)
 | raw (x:Value)
 | ptr (k o:Nat)
 | sl (k o n e:Nat)
 | lst (x:RV) (n sz:Nat) (elem:Nat→List SV)
 | elm (x:RV) (n sz:Nat) (elem:Nat→List SV) (i f:Nat)
 | agg (cs:List SV)
 | tup (cs:List SV)
 | rv (x:RV)
 | gsl (k n sz:Nat) (z:Bool)
 | gel (k sz i f:Nat)
 | fv (g:FuncId) (ks:List Nat)
 | yl (k:Nat)
 | bf (g:FuncId) (s:SV)
 | mp (k:Nat)
inductive El where
 | fn (e:Nat→List SV)
 | nf (e:Nat→List SV)
 | snoc (r:El) (n:Nat) (cs:List SV)
 | cat (r:El) (n:Nat) (s:El)
 | upd (r:El) (i f:Nat) (x:SV)
 | row (r:El) (i:Nat) (cs:List SV)
def El.at:El→Nat→List SV
 | .fn e,i=>e i
 | .nf e,i=>e i
 | .snoc r n cs,i=>if i < n then r.at i else cs
 | .cat r n s,i=>if i < n then r.at i else s.at (i-n)
 | .upd r j f x,i=>if i=j then (r.at i).set f x else r.at i
 | .row r j cs,i=>if i=j then cs else r.at i
instance:Inhabited SV:=⟨.v undef⟩
structure Ob (p:Prop):Prop where
 h:p
structure LR where
 fn:FuncId
 T:RT
 params:Array Tmp
 assign:Code
 body:Code
 d:Nat
 b:Nat
 hT:tlt b T
 hd:d < b
inductive SObj where
 | dead
 | cells (c:List SV) (k:Kd)
 | gr (n sz:Nat) (e:El) (k:Kd) (z:Bool)
 | lp (st:LoopState) (p:Option Code) (R:LR)
 | mp (ks:List Int) (c:List SV) (ro:Bool)
structure SMem where
 B:RW
 n:Nat
 L:List SObj
noncomputable section
def blkOf:RV→Nat
 | .sl b _ _ _=>b
 | _=>0
def offOf:RV→Nat
 | .sl _ o _ _=>o
 | _=>0
mutual
def den (N:Nat):SV→RV
 | .v x=>.v x
 | .i k z=>.v (.int k z)
 | .p c=>.v (.bool (@decide c (Classical.propDecidable c)))
 | .raw x=>ofValue x
 | .ptr k o=>.ptr (N+k) o
 | .sl k o n e=>.sl (N+k) o n e
 | .lst x _ _ _=>x
 | .elm x _ sz _ i f=>.ptr (blkOf x) (offOf x+i*sz+f)
 | .agg cs=>.agg (denL N cs)
 | .tup cs=>.tup (denL N cs)
 | .rv x=>x
 | .gsl k n sz z=>if z=true∧n=0 then .v (.slice none 0 0)else .sl (N+k) 0 n sz
 | .gel k sz i f=>.ptr (N+k) (i*sz+f)
 | .fv g ks=>.fn (.func g) [] (ks.map fun k=>.ptr (N+k) 0)
 | .yl k=>.yld (N+k)
 | .bf g s=>.fn (.func g) [den N s] []
 | .mp k=>.mp (N+k)
def denL (N:Nat):List SV→List RV
 | []=>[]
 | x :: r=>den N x :: denL N r
end
def gcells (N n sz:Nat) (e:El):List RV:=(List.range (n*sz)).map fun j=>den N (((e.at (j / sz))[j % sz]?).getD (.v (.bool false)))
def mapEs (N:Nat):Nat→List Int→List SV→List (RV×RV×Nat)
 | i,k :: ks,x :: c=>(.v (.int .i64 k),den N x,i) :: mapEs N (i+1) ks c
 | _,_,_=>[]
def denO (N:Nat):SObj→RObj
 | .dead=>.dead
 | .cells c k=>.cells (denL N c) k
 | .gr n sz e k z=>if z=true∧n=0 then .dead else .cells (gcells N n sz e) k
 | .lp st p R=>.loop st p R.fn R.T R.params R.assign R.body R.d
 | .mp ks c ro=>.map (mapEs N 0 ks c) c.length ro
def SMem.den (σ:SMem):RW:=⟨σ.B.n+σ.n,σ.L.map (denO σ.B.n)++σ.B.l⟩
def SMem.get (σ:SMem) (k:Nat):Option SObj:=if Nat.blt k σ.n then lget σ.L (σ.n-1-k)else none
def IsLst (B:RW) (x:RV) (n sz:Nat) (elem:Nat→List SV):Prop:=
 (x=.v (.slice none 0 0)∧n=0)∨∃b o c,x=.sl b o n sz∧cellsAt B b=some c∧o≤c.length∧∀i,i < n→(elem i).length=sz∧lcut c (o+i*sz) sz=some (denL B.n (elem i))
def fsv (x:SV) (K:SV→Prop):Prop:=match x with
 | .v y=>K (.v y)
 | .i k z=>K (.i k z)
 | .p c=>K (.p c)
 | .raw y=>K (.raw y)
 | .ptr k o=>K (.ptr k o)
 | .sl k o n e=>K (.sl k o n e)
 | .lst y n sz e=>K (.lst y n sz e)
 | .elm y n sz e i f=>K (.elm y n sz e i f)
 | .agg cs=>K (.agg cs)
 | .tup cs=>K (.tup cs)
 | .rv y=>K (.rv y)
 | .gsl k n sz z=>K (.gsl k n sz z)
 | .gel k sz i f=>K (.gel k sz i f)
 | .fv g ks=>K (.fv g ks)
 | .yl k=>K (.yl k)
 | .bf g s=>K (.bf g s)
 | .mp k=>K (.mp k)
def gRow:El→Nat→(List SV→Prop)→Prop
 | .fn e,i,K=>K (e i)
 | .nf e,i,K=>K (e i)
 | .snoc r n cs,i,K=>(i < n→gRow r i K)∧(¬ i < n→K cs)
 | .cat r n s,i,K=>(i < n→gRow r i K)∧(¬ i < n→gRow s (i-n) K)
 | .upd r j f x,i,K=>(i=j→gRow r i fun cs=>K (cs.set f x))∧(¬ i=j→gRow r i K)
 | .row _ j cs,i,K=>Ob (i=j)∧K cs
def litEl (c:List SV) (sz:Nat):Nat→El
 | 0=>.fn fun _=>[]
 | m+1=>.snoc (litEl c sz m) m (match lcut c (m*sz) sz with
  | some l=>l
  | none=>[])
def litOk (c:List SV) (sz:Nat):Nat→Bool
 | 0=>true
 | m+1=>match lcut c (m*sz) sz with
  | some _=>litOk c sz m
  | none=>false
def fsl (l:List SV) (K:List SV→Prop):Prop:=match l with
 | []=>K []
 | x :: r=>fsv x fun x=>fsl r fun r=>K (x :: r)
def ofValueS:Value→SV
 | .agg cs=>.agg (cs.toList.map .v)
 | x=>.v x
def InR (k:IntKind) (n:Int):Prop:=match k with
 | .i64=>-9223372036854775808≤n∧n≤9223372036854775807
 | .u64=>0≤n∧n≤18446744073709551615
 | .u8=>0≤n∧n≤255
 | .i32=>-2147483648≤n∧n≤2147483647
 | _=>False
section
variable [Env] (P:Program)
def opS (x:Operand) (t:List SV):SV:=match x with
 | .tmp i=>match lget t i with
  | some y=>y
  | none=>.v undef
 | .const v=>ofValueS v
 | .global g=>match Env.ids.idxOf? g with
  | some i=>.rv (.ptr i 0)
  | none=>.v (.pointer (some ⟨g,0,none⟩))
 | .func f=>.v (.func (.func f) #[] #[])
def op1 (x:Operand) (t:List SV) (K:SV→Prop):Prop:=match okO x with
 | true=>fsv (opS x t) K
 | false=>False
def opsK (xs:List Operand) (t:List SV) (K:List SV→Prop):Prop:=match xs with
 | []=>K []
 | x :: r=>op1 x t fun y=>opsK r t fun ys=>K (y :: ys)
def wrapped (k:IntKind):Bool:=match k with
 | .u64=>true
 | _=>false
def wArith (k:IntKind) (n:Int) (K:SV→Prop):Prop:=match wrapped k with
 | true=>K (.i k (k.wrap n))
 | false=>Ob (InR k n)∧K (.i k n)
def xorI (a b:Int):Int:=(a.toNat ^^^ b.toNat:Nat)
def andI (a b:Int):Int:=(a.toNat &&& b.toNat:Nat)
def orI (a b:Int):Int:=(a.toNat ||| b.toNat:Nat)
def andNotI (a b:Int):Int:=(a.toNat ^^^ (a.toNat &&& b.toNat):Nat)
def wInt2 (op:BinOp) (k:IntKind) (a b:Int) (K:SV→Prop):Prop:=match op with
 | .add=>wArith k (a+b) K
 | .sub=>wArith k (a-b) K
 | .mul=>wArith k (a*b) K
 | .lss=>K (.p (a < b))
 | .leq=>K (.p (a≤b))
 | .gtr=>K (.p (b < a))
 | .geq=>K (.p (b≤a))
 | .eql=>K (.p (a=b))
 | .neq=>K (.p (¬ a=b))
 | .quo=>match k with
  | .i64=>Ob (0 < b∧InR .i64 (a.tdiv b))∧K (.i .i64 (a.tdiv b))
  | k=>Ob (0≤a∧0 < b∧InR k (a / b))∧K (.i k (a / b))
 | .rem=>match k with
  | .i64=>Ob (0 < b∧InR .i64 (a.tmod b))∧K (.i .i64 (a.tmod b))
  | k=>Ob (0≤a∧0 < b∧InR k (a % b))∧K (.i k (a % b))
 | .xor=>Ob (0≤a∧0≤b∧InR k (xorI a b))∧K (.i k (xorI a b))
 | .shr=>Ob (0≤a∧0≤b∧b≤k.bits∧InR k (a / 2 ^ b.toNat))∧K (.i k (a / 2 ^ b.toNat))
 | .shl=>Ob (0≤a∧0≤b∧b≤k.bits∧InR k (a*2 ^ b.toNat))∧K (.i k (a*2 ^ b.toNat))
 | .and=>Ob (0≤a∧0≤b∧InR k (andI a b))∧K (.i k (andI a b))
 | .or=>Ob (0≤a∧0≤b∧InR k (orI a b))∧K (.i k (orI a b))
 | .andNot=>Ob (0≤a∧0≤b∧InR k (andNotI a b))∧K (.i k (andNotI a b))
def isShift:BinOp→Bool
 | .shl=>true
 | .shr=>true
 | _=>false
def wKinds (op:BinOp) (j k:IntKind) (p:Prop):Prop:=match isShift op with
 | true=>p
 | false=>match decEq j k with
  | .isTrue _=>p
  | .isFalse _=>False
def asInt (x:SV) (K:IntKind→Int→Prop):Prop:=match x with
 | .i k z=>K k z
 | .v (.int k z)=>K k z
 | _=>False
def asTru (x:SV) (K:Prop→Prop):Prop:=match x with
 | .p c=>K c
 | .v (.bool b)=>K (b=true)
 | _=>False
def eqK:List Nat→List SV→List SV→(Prop→Prop)→Prop
 | [],[],[],K=>K True
 | k :: ks,x :: xs,y :: ys,K=>match k with
  | 0=>asInt x fun j a=>asInt y fun j' b=>match decEq j j' with
   | .isTrue _=>eqK ks xs ys fun c=>K (a=b∧c)
   | .isFalse _=>False
  | 2=>asTru x fun a=>asTru y fun b=>eqK ks xs ys fun c=>K ((a↔b)∧c)
  | _=>False
 | _,_,_,_=>False
def wAgg (op:BinOp) (ty:TypeId) (xs ys:List SV) (K:SV→Prop):Prop:=match P.eqGuardType P.depth ty with
 | true=>False
 | false=>match aggKinds P ty with
  | some (true,ks)=>match op with
   | .eql=>eqK ks xs ys fun c=>K (.p c)
   | .neq=>eqK ks xs ys fun c=>K (.p (¬ c))
   | _=>False
  | _=>False
def isB (op:BinOp) (ty:TypeId) (a b r:Bool):Bool:=match xBin P op ty (.v (.bool a)) (.v (.bool b))with
 | some (.val (.v (.bool s)))=>s == r
 | _=>false
def wBool (op:BinOp) (ty:TypeId) (c d:Prop) (K:SV→Prop):Prop:=match op with
 | .eql=>match isB P .eql ty true true true && isB P .eql ty true false false && isB P .eql ty false true false && isB P .eql ty false false true with
  | true=>K (.p (c↔d))
  | false=>False
 | .neq=>match isB P .neq ty true true false && isB P .neq ty true false true && isB P .neq ty false true true && isB P .neq ty false false false with
  | true=>K (.p (¬ (c↔d)))
  | false=>False
 | _=>False
def wStr (op:BinOp) (ty:TypeId) (s:ByteArray) (b:Value) (K:SV→Prop):Prop:=match op with
 | .eql=>match b with
  | .string u=>K (.p (s=u))
  | _=>False
 | .neq=>match b with
  | .string u=>K (.p (¬ s=u))
  | _=>False
 | op=>match xBin P op ty (.v (.string s)) (.v b)with
  | some (.val (.v r))=>K (.v r)
  | _=>False
def wBin (op:BinOp) (ty:TypeId) (x y:SV) (K:SV→Prop):Prop:=match x with
 | .v a=>match y with
  | .v b=>match a with
   | .string s=>wStr P op ty s b K
   | a=>match xBin P op ty (.v a) (.v b)with
    | some (.val (.v r))=>K (.v r)
    | _=>False
  | .i k b=>match a with
   | .int j a=>wKinds op j k (wInt2 op j a b K)
   | _=>False
  | .p d=>match a with
   | .bool b=>wBool P op ty (b=true) d K
   | _=>False
  | _=>False
 | .p c=>match y with
  | .p d=>wBool P op ty c d K
  | .v (.bool b)=>wBool P op ty c (b=true) K
  | _=>False
 | .i j a=>match y with
  | .i k b=>wKinds op j k (wInt2 op j a b K)
  | .v (.int k b)=>wKinds op j k (wInt2 op j a b K)
  | _=>False
 | .agg xs=>match y with
  | .agg ys=>wAgg P op ty xs ys K
  | _=>False
 | _=>False
def wNil (op:BinOp) (c:Prop) (K:SV→Prop):Prop:=match op with
 | .eql=>K (.p c)
 | .neq=>K (.p (¬ c))
 | _=>False
def isNilS (x:SV):Bool:=match x with
 | .v (.slice none 0 0)=>true
 | _=>false
def isSliceT (ty:TypeId):Bool:=match P.underlying ty with
 | some (.slice _)=>true
 | _=>false
def wBinS (op:BinOp) (ty:TypeId) (σ:SMem) (x y:SV) (K:SV→Prop):Prop:=match x with
 | .lst r n sz e=>match isNilS y && isSliceT P ty with
  | true=>Ob (IsLst σ.B r n sz e)∧wNil op (r=.v (.slice none 0 0)) K
  | false=>False
 | .gsl _ n _ z=>match isNilS y && isSliceT P ty with
  | true=>match z with
   | true=>wNil op (n=0) K
   | false=>wNil op False K
  | false=>False
 | x=>wBin P op ty x y K
def gelOf (σ:SMem) (a:SV) (K:SV→Prop):Prop:=match a with
 | .ptr k o=>match σ.get k with
  | some (.gr _ sz _ _ _)=>match Nat.blt 0 sz with
   | true=>fnat (o / sz) fun i=>fnat (o % sz) fun f=>K (.gel k sz i f)
   | false=>K (.ptr k o)
  | _=>K (.ptr k o)
 | a=>K a
def wLd1 (σ:SMem) (a:SV) (K:SV→Prop):Prop:=match a with
 | .ptr k o=>match σ.get k with
  | some (.cells c _)=>match lget c o with
   | some x=>fsv x K
   | none=>False
  | _=>False
 | .elm x n sz elem i f=>Ob (IsLst σ.B x n sz elem∧i < n)∧match Nat.blt f sz with
  | true=>match lget (elem i) f with
   | some y=>fsv y K
   | none=>False
  | false=>False
 | .gel k sz i f=>match σ.get k with
  | some (.gr n sz' e _ _)=>match Nat.beq sz sz' && Nat.blt f sz with
   | true=>Ob (i < n)∧gRow e i fun cs=>match lget cs f with
    | some x=>fsv x K
    | none=>False
   | false=>False
  | _=>False
 | _=>False
def wLdn (σ:SMem) (n:Nat) (a:SV) (K:SV→Prop):Prop:=match a with
 | .ptr k o=>match σ.get k with
  | some (.cells c _)=>match lcut c o n with
   | some l=>K (.agg l)
   | none=>False
  | _=>False
 | .elm x m sz elem i f=>Ob (IsLst σ.B x m sz elem∧i < m)∧match Nat.ble (f+n) sz with
  | true=>match lcut (elem i) f n with
   | some l=>K (.agg l)
   | none=>False
  | false=>False
 | .gel k sz i f=>match σ.get k with
  | some (.gr m sz' e _ _)=>match Nat.beq sz sz' && (Nat.ble (f+n) sz && Nat.blt f sz)with
   | true=>Ob (i < m)∧gRow e i fun cs=>match lcut cs f n with
    | some l=>K (.agg l)
    | none=>False
   | false=>False
  | _=>False
 | _=>False
def wLoad (ty:TypeId) (σ:SMem) (a:SV) (K:SV→Prop):Prop:=match isAggB P ty,P.info? ty with
 | some true,some i=>gelOf σ a fun a=>wLdn σ i.size a K
 | some false,some _=>gelOf σ a fun a=>wLd1 σ a K
 | _,_=>False
def wFa (off:Nat) (x:SV) (K:SV→Prop):Prop:=match x with
 | .ptr k o=>fnat (o+off) fun o=>K (.ptr k o)
 | .elm x n sz e i f=>fnat (f+off) fun f=>K (.elm x n sz e i f)
 | .gel k sz i f=>fnat (f+off) fun f=>K (.gel k sz i f)
 | _=>False
def wFieldAddr (s:TypeId) (f:Nat) (x:SV) (K:SV→Prop):Prop:=match P.underlying s with
 | some (.struct fields)=>match fields[f]? with
  | some fd=>match P.info? fd.type with
   | some i=>if i.size=0 then False else wFa fd.offset x K
   | none=>False
  | none=>False
 | _=>False
def splN (z:Int) (K:Nat→Prop):Nat→Prop
 | 0=>True
 | n+1=>splN z K n∧(z=(n:Nat)→K n)
def splK (z:Int) (n:Nat) (K:Nat→Prop):Prop:=match Nat.ble n 16 with
 | true=>Ob (0≤z∧z.toNat < n)∧splN z K n
 | false=>False
def wIxs (σ:SMem) (size:Nat) (x i:SV) (K:SV→Prop):Prop:=match x with
 | .lst y n sz e=>match Nat.beq sz size with
  | true=>match i with
   | .i _ z=>Ob (0≤z∧z.toNat < n∧IsLst σ.B y n sz e)∧K (.elm y n sz e z.toNat 0)
   | .v (.int _ (.ofNat j))=>Ob (j < n∧IsLst σ.B y n sz e)∧K (.elm y n sz e j 0)
   | _=>False
  | false=>False
 | .sl k o n _=>match i with
  | .v (.int _ (.ofNat j))=>match Nat.blt j n with
   | true=>fnat (o+j*size) fun o=>K (.ptr k o)
   | false=>False
  | .i _ z=>splK z n fun j=>fnat (o+j*size) fun o=>K (.ptr k o)
  | _=>False
 | .gsl k n sz _=>match Nat.beq sz size with
  | true=>match i with
   | .i _ z=>Ob (0≤z∧z.toNat < n)∧K (.gel k sz z.toNat 0)
   | .v (.int _ (.ofNat j))=>Ob (j < n)∧K (.gel k sz j 0)
   | _=>False
  | false=>False
 | _=>False
def isCells (σ:SMem) (k:Nat):Bool:=match σ.get k with
 | some (.cells _ _)=>true
 | _=>false
def wIxa (σ:SMem) (len size:Nat) (x i:SV) (K:SV→Prop):Prop:=match x with
 | .ptr k o=>match i with
  | .i _ z=>match isCells σ k with
   | true=>splK z len fun j=>fnat (o+j*size) fun o=>K (.ptr k o)
   | false=>match o with
    | 0=>Ob (0≤z∧z.toNat < len)∧K (.gel k size z.toNat 0)
    | _=>False
  | .v (.int _ (.ofNat j))=>match Nat.blt j len with
   | true=>fnat (o+j*size) fun o=>K (.ptr k o)
   | false=>False
  | _=>False
 | .elm y n sz e r f=>match i with
  | .v (.int _ (.ofNat j))=>match Nat.blt j len with
   | true=>fnat (f+j*size) fun f=>K (.elm y n sz e r f)
   | false=>False
  | .i _ z=>splK z len fun j=>fnat (f+j*size) fun f=>K (.elm y n sz e r f)
  | _=>False
 | .gel k sz r f=>match i with
  | .v (.int _ (.ofNat j))=>match Nat.blt j len with
   | true=>fnat (f+j*size) fun f=>K (.gel k sz r f)
   | false=>False
  | .i _ z=>splK z len fun j=>fnat (f+j*size) fun f=>K (.gel k sz r f)
  | _=>False
 | _=>False
def wIndexAddr (ty:TypeId) (σ:SMem) (x i:SV) (K:SV→Prop):Prop:=match P.underlying ty with
 | some (.array len e)=>match P.info? e with
  | some inf=>wIxa σ len inf.size x i K
  | none=>False
 | some (.slice e)=>match P.info? e with
  | some inf=>wIxs σ inf.size x i K
  | none=>False
 | _=>False
def wPart (ty:TypeId) (off:Nat) (x:SV) (K:SV→Prop):Prop:=match x with
 | .agg cs=>match isAggB P ty,P.info? ty with
  | some true,some i=>match lcut cs off i.size with
   | some l=>K (.agg l)
   | none=>False
  | some false,some _=>match lget cs off with
   | some y=>fsv y K
   | none=>False
  | _,_=>False
 | _=>False
def wField (s:TypeId) (f:Nat) (x:SV) (K:SV→Prop):Prop:=match P.underlying s with
 | some (.struct fields)=>match fields[f]? with
  | some fd=>wPart P fd.type fd.offset x K
  | none=>False
 | _=>False
def wIndex (ty:TypeId) (x i:SV) (K:SV→Prop):Prop:=match P.underlying ty with
 | some (.array len e)=>match P.info? e with
  | some inf=>match i with
   | .v (.int _ (.ofNat j))=>match Nat.blt j len with
    | true=>fnat (j*inf.size) fun o=>wPart P e o x K
    | false=>False
   | .i _ z=>splK z len fun j=>fnat (j*inf.size) fun o=>wPart P e o x K
   | _=>False
  | none=>False
 | _=>False
def wExt (i:Nat) (x:SV) (K:SV→Prop):Prop:=match x with
 | .tup cs=>match lget cs i with
  | some y=>fsv y K
  | none=>False
 | _=>False
def wUn (op:UnOp) (x:SV) (K:SV→Prop):Prop:=match x with
 | .v a=>match xF1 P (Op.unary op) (.v a)with
  | some (.val (.v r))=>K (.v r)
  | _=>False
 | .p c=>match op with
  | .not=>K (.p (¬ c))
  | _=>False
 | .i k z=>match op with
  | .neg=>Ob (InR k (0-z))∧K (.i k (0-z))
  | _=>False
 | _=>False
def wConv (s d:TypeId) (x:SV) (K:SV→Prop):Prop:=match P.underlying s,P.underlying d with
 | some (.int _),some (.int k)=>match x with
  | .v a=>match xF1 P (convert s d) (.v a)with
   | some (.val (.v r))=>K (.v r)
   | _=>False
  | .i _ z=>match wrapped k with
   | true=>K (.i k (k.wrap z))
   | false=>Ob (InR k z)∧K (.i k z)
  | _=>False
 | _,_=>False
def wLenS (σ:SMem) (x:SV) (K:SV→Prop):Prop:=match x with
 | .lst y n sz e=>Ob (IsLst σ.B y n sz e)∧K (.i .i64 (n:Int))
 | .sl _ _ n _=>K (.v (.int .i64 (Int.ofNat n)))
 | .v (.slice none 0 0)=>K (.v (.int .i64 0))
 | .gsl _ n _ _=>K (.i .i64 (n:Int))
 | _=>False
def wLen (ty:TypeId) (σ:SMem) (x:SV) (K:SV→Prop):Prop:=match P.underlying ty with
 | some (.slice _)=>wLenS σ x K
 | _=>False
def wCap (ty:TypeId) (x:SV) (K:SV→Prop):Prop:=match P.underlying ty with
 | some (.slice _)=>match x with
  | .v (.slice none 0 0)=>K (.v (.int .i64 0))
  | _=>False
 | _=>False
def foldMM (mx:Bool) (k:IntKind):List SV→Int→(SV→Prop)→Prop
 | [],a,K=>K (.i k a)
 | x :: r,a,K=>asInt x fun j b=>match decEq j k with
  | .isTrue _=>foldMM mx k r (match mx with
   | true=>max a b
   | false=>min a b) K
  | .isFalse _=>False
def wMM (mx:Bool) (xs:List SV) (K:SV→Prop):Prop:=match xs with
 | x :: r=>asInt x fun k a=>foldMM mx k r a K
 | []=>False
structure Con where
 g:FuncId
 w:List SV→SMem→(SV→Prop)→Prop
structure ConE where
 g:FuncId
 w:List SV→SMem→(SV→SMem→Prop)→Prop
structure Yd where
 on:Bool
 B:RW
 l:Nat
 run:List SV→SMem→(SV→SMem→Prop)→Prop
def Yd.no:Yd:=⟨false,⟨0,[]⟩,0,fun _ _ _=>False⟩
structure Ora where
 on:Bool
 has:FuncId→Bool
 run:Yd→FuncId→List SV→SMem→(SV→SMem→Prop)→Prop
 y:Yd
def Ora.no:Ora:=⟨false,fun _=>false,fun _ _ _ _ _=>False,Yd.no⟩
structure Know where
 C:List Con
 E:List ConE
 V:Ora
def conOfE:List ConE→FuncId→Option ConE
 | [],_=>none
 | c :: r,g=>match Nat.beq c.g g with
  | true=>some c
  | false=>conOfE r g
def conOf:List Con→FuncId→Option Con
 | [],_=>none
 | c :: r,g=>match Nat.beq c.g g with
  | true=>some c
  | false=>conOf r g
def wCall (C:List Con) (σ:SMem) (f:SV) (args:List SV) (K:SV→Prop):Prop:=match f with
 | .v (.func (.func g) a c)=>match a.toList,c.toList with
  | [],[]=>match conOf C g with
   | some con=>con.w args σ fun x=>fsv x K
   | none=>False
  | _,_=>False
 | .fv g ks=>match conOf C g with
  | some con=>con.w (args++ks.map fun k=>.ptr k 0) σ fun x=>fsv x K
  | none=>False
 | _=>False
def wCallee (C:List Con) (σ:SMem) (c:Call) (t:List SV) (K:SV→Prop):Prop:=match c.callee with
 | .value f=>opsK (f :: c.args.toList) t fun xs=>match xs with
  | f :: args=>wCall C σ f args K
  | []=>False
 | .builtin b=>match b,c.args.toList,c.argTypes.toList with
  | .len,[x],[ty]=>op1 x t fun x=>wLen P ty σ x K
  | .min,xs,_=>opsK xs t fun xs=>wMM false xs K
  | .max,xs,_=>opsK xs t fun xs=>wMM true xs K
  | .cap,[x],[ty]=>op1 x t fun x=>wCap P ty x K
  | _,_,_=>False
 | .invoke _ _=>False
def zerosS (i:TypeInfo):Option (List SV):=match i.zero with
 | some z=>if z.cells.toList.all oneV then some (z.cells.toList.map .v)else none
 | none=>none
def cellsS (x:SV):Option (List SV):=match x with
 | .agg cs=>some cs
 | .v y=>if oneV y then some [.v y]else none
 | .i k z=>some [.i k z]
 | .p c=>some [.p c]
 | .ptr k o=>some [.ptr k o]
 | .sl k o n e=>some [.sl k o n e]
 | .lst _ _ _ _=>none
 | .elm y n sz e i f=>some [.elm y n sz e i f]
 | .gsl k n sz z=>some [.gsl k n sz z]
 | .gel k sz i f=>some [.gel k sz i f]
 | .fv g ks=>some [.fv g ks]
 | .bf g s=>some [.bf g s]
 | .mp k=>some [.mp k]
 | _=>none
def flatS:List SV→Bool
 | []=>true
 | x :: r=>(match x with
  | .agg _=>false
  | .tup _=>false
  | .raw _=>false
  | .rv _=>false
  | .v y=>oneV y
  | _=>true) && flatS r
def wCells (x:SV) (K:List SV→Prop):Prop:=match x with
 | .lst y n sz e=>Ob (oneB y=true)∧K [.lst y n sz e]
 | .agg cs=>K cs
 | x=>match cellsS x with
  | some l=>K l
  | none=>False
def fillS:List SV→List (Nat×Nat×SV)→(List SV→Prop)→Prop
 | cells,[],K=>K cells
 | cells,(off,size,x) :: rest,K=>wCells x fun cs=>match Nat.beq cs.length size with
  | true=>match lput cells off cs with
   | some cells'=>fillS cells' rest K
   | none=>False
  | false=>False
def replS (n:Nat) (l:List SV):List SV:=match n with
 | 0=>[]
 | n+1=>l++replS n l
def wBuild (ty:TypeId) (parts:List (Nat×Operand)) (t:List SV) (K:SV→Prop):Prop:=match P.info? ty with
 | some ti=>match zerosS ti with
  | some z=>match P.underlying ty with
   | some (.struct fields)=>match fields.toList.mapM (fun f=>(P.info? f.type).map fun i=>(f.offset,i.size))with
    | some places=>match omap (fun k:Nat=>lget places k) (parts.map (·.1))with
     | some ps=>opsK (parts.map (·.2)) t fun xs=>fillS z (ps.zipWith (fun p x=>(p.1,p.2,x)) xs) fun cs=>K (.agg cs)
     | none=>False
    | none=>False
   | some (.array _ e)=>match P.info? e with
    | some i=>opsK (parts.map (·.2)) t fun xs=>fillS z ((parts.map (·.1)).zipWith (fun k x=>(k*i.size,i.size,x)) xs) fun cs=>K (.agg cs)
    | none=>False
   | _=>False
  | none=>False
 | none=>False
def cutR (y:RV) (l h sz:Nat):RV:=match y with
 | .sl b o _ e=>.sl b (o+l*sz) (h-l) e
 | y=>y
def isZ (x:SV):Bool:=match x with
 | .v (.int _ (.ofNat 0))=>true
 | _=>false
def wSlS (ty:TypeId) (σ:SMem) (x:SV) (lo hi:Option SV) (K:SV→Prop):Prop:=match P.underlying ty with
 | some (.slice e)=>match P.info? e with
  | some inf=>match Nat.blt 0 inf.size with
   | true=>match x with
    | .gsl k n sz z=>match lo with
     | none=>match hi with
      | some h=>match σ.get k with
       | some (.gr n' sz' _ _ z')=>match Nat.beq sz inf.size && (Nat.beq sz' sz && (z || !z'))with
        | true=>match z || !isZ h with
         | false=>match z' with
          | false=>Ob (n=n')∧K (.sl k 0 0 sz)
          | true=>False
         | true=>asInt h fun _ j=>match z with
          | false=>Ob (n=n'∧0≤j∧j.toNat≤n)∧K (.gsl k j.toNat sz false)
          | true=>(n=0→Ob (j=0)∧K (.v (.slice none 0 0)))∧(¬ n=0→Ob (n=n'∧0≤j∧j.toNat≤n)∧K (.gsl k j.toNat sz false))
        | false=>False
       | _=>False
      | none=>False
     | some _=>False
    | .lst y n sz e=>match Nat.beq sz inf.size with
     | true=>match lo with
      | none=>match hi with
       | some h=>asInt h fun _ j=>Ob (IsLst σ.B y n sz e∧0≤j∧j.toNat≤n)∧K (.lst (cutR y 0 j.toNat sz) j.toNat sz e)
       | none=>False
      | some l=>asInt l fun _ i=>match hi with
       | some h=>asInt h fun _ j=>Ob (IsLst σ.B y n sz e∧0≤i∧i.toNat≤j.toNat∧0≤j∧j.toNat≤n∧(i.toNat < n∨i=0))∧K (.lst (cutR y i.toNat j.toNat sz) (j.toNat-i.toNat) sz fun q=>e (i.toNat+q))
       | none=>Ob (IsLst σ.B y n sz e∧0≤i∧i.toNat≤n∧(i.toNat < n∨i=0))∧K (.lst (cutR y i.toNat n sz) (n-i.toNat) sz fun q=>e (i.toNat+q))
     | false=>False
    | .v (.slice none 0 0)=>match lo with
     | none=>match hi with
      | some h=>match isZ h with
       | true=>K (.v (.slice none 0 0))
       | false=>False
      | none=>False
     | some _=>False
    | _=>False
   | false=>False
  | none=>False
 | _=>False
def opO (x:Option Operand) (t:List SV) (K:Option SV→Prop):Prop:=match x with
 | none=>K none
 | some x=>op1 x t fun y=>K (some y)
def ptrsK:List SV→(List Nat→Prop)→Prop
 | [],K=>K []
 | .ptr k 0 :: r,K=>ptrsK r fun ks=>K (k :: ks)
 | _ :: _,_=>False
def selK (z:Int) (K:SV→Prop):List Int→List SV→Prop
 | k :: ks,x :: c=>(z=k→fsv x K)∧(¬ z=k→selK z K ks c)
 | _,_=>False
def isIntMap (ty:TypeId):Bool:=match P.underlying ty with
 | some (.map kt e)=>match P.info? e,keyKinds P kt with
  | some i,some (false,[0])=>match i.zero with
   | some z=>flatV z
   | none=>false
  | _,_=>false
 | _=>false
def wLook (ty:TypeId) (σ:SMem) (m k:SV) (K:SV→Prop):Prop:=match isIntMap P ty with
 | true=>match m with
  | .mp b=>match σ.get b with
   | some (.mp ks c _)=>asInt k fun j z=>match decEq j .i64 with
    | .isTrue _=>selK z K ks c
    | .isFalse _=>False
   | _=>False
  | _=>False
 | false=>False
def wVal (C:List Con) (o:Op) (t:List SV) (σ:SMem) (K:SV→Prop):Prop:=match o with
 | .move x=>op1 x t K
 | .assign x=>op1 x t K
 | .pick c a b=>op1 c t fun c=>op1 a t fun a=>op1 b t fun b=>match c with
  | .v (.bool true)=>K a
  | .v (.bool false)=>K b
  | .p c=>(c→K a)∧(¬ c→K b)
  | _=>False
 | .load ty a=>op1 a t fun a=>wLoad P ty σ a K
 | .nilCheck x=>op1 x t fun x=>match x with
  | .ptr k o=>K (.ptr k o)
  | .elm x n sz e i f=>K (.elm x n sz e i f)
  | .gel k sz i f=>K (.gel k sz i f)
  | _=>False
 | .fieldAddr s x f=>op1 x t fun x=>wFieldAddr P s f x K
 | .indexAddr ty x i=>op1 x t fun x=>op1 i t fun i=>wIndexAddr P ty σ x i K
 | .index ty x i=>op1 x t fun x=>op1 i t fun i=>wIndex P ty x i K
 | .field s x f=>op1 x t fun x=>wField P s f x K
 | .extract x i=>op1 x t fun x=>wExt i x K
 | .binOp op ty x y _=>op1 x t fun x=>op1 y t fun y=>wBinS P op ty σ x y K
 | .unOp op _ x=>op1 x t fun x=>wUn P op x K
 | .convert s d x=>op1 x t fun x=>wConv P s d x K
 | .build ty parts=>wBuild P ty parts.toList t K
 | .makeFunc f first caps=>match f,first.toList with
  | .func g,[]=>opsK caps.toList t fun xs=>ptrsK xs fun ks=>K (.fv g ks)
  | .func g,[x]=>match caps.toList with
   | []=>op1 x t fun x=>K (.bf g x)
   | _=>False
  | _,_=>False
 | .lookup ty m k false=>op1 m t fun m=>op1 k t fun k=>wLook P ty σ m k K
 | .call c=>wCallee P C σ c t K
 | .slice ty x lo hi none=>op1 x t fun x=>opO lo t fun lo=>opO hi t fun hi=>wSlS P ty σ x lo hi K
 | _=>False
def isVal:Op→Bool
 | .alloc _ | .box _ _ | .buildSlice _ _ _ | .store _ _ _ | .makeSlice _ _ _ | .makeMap _ _ | .insert _ _ _ _ | .slice _ _ _ _ (some _)=>false
 | _=>true
def pushK (σ:SMem) (o:SObj) (K:Nat→SMem→Prop):Prop:=match σ with
 | ⟨B,n,L⟩=>fnat n fun n=>K n ⟨B,n+1,o :: L⟩
def setK (σ:SMem) (k:Nat) (o:SObj) (K:SMem→Prop):Prop:=match σ with
 | ⟨B,n,L⟩=>match Nat.blt k n with
  | true=>match lset L (n-1-k) o with
   | some L=>K ⟨B,n,L⟩
   | none=>False
  | false=>False
def symI (x:SV):SV:=match x with
 | .v (.int k z)=>.i k z
 | .v (.bool b)=>.p (b=true)
 | x=>x
def symL:List SV→List SV
 | []=>[]
 | x :: r=>symI x :: symL r
def symK:List SV→(List SV→Prop)→Prop
 | [],K=>K []
 | x :: r,K=>match x with
  | .v y=>match y with
   | .int k z=>symK r fun r=>K (.i k z :: r)
   | .bool b=>symK r fun r=>K (.p (b=true) :: r)
   | y=>symK r fun r=>K (.v y :: r)
  | x=>symK r fun r=>K (x :: r)
def updL (e:El) (j f:Nat):List SV→El
 | []=>e
 | x :: r=>updL (.upd e j f x) j (f+1) r
def updK (e:El) (j f:Nat) (cs:List SV) (K:El→Prop):Prop:=match e with
 | .row r i c=>match lput c f cs with
  | some c=>Ob (j=i)∧K (.row r i c)
  | none=>False
 | e=>K (updL e j f cs)
def plainZ:List SV→Bool
 | []=>true
 | x :: r=>match x with
  | .v (.int _ _)=>plainZ r
  | .v (.bool _)=>plainZ r
  | _=>false
def forceL:List SV→(List SV→Prop)→Prop
 | [],K=>K []
 | x :: r,K=>forceL r fun r=>K (x :: r)
def mkLit (size:Nat) (z:List SV) (n:Int) (σ:SMem) (K:SV→SMem→Prop):Nat→Prop
 | 0=>n=Int.ofNat 0→pushK σ (.cells [] .ex) fun k σ=>K (.sl k 0 0 size) σ
 | q+1=>mkLit size z n σ K q∧(n=Int.ofNat (q+1)→forceL (replS (q+1) z) fun cs=>pushK σ (.cells cs .ex) fun k σ=>fnat (q+1) fun m=>K (.sl k 0 m size) σ)
def wClp (σ:SMem) (size:Nat) (x:SV) (h m:Int) (K:SV→SMem→Prop):Prop:=match x with
 | .v (.slice none 0 0)=>Ob (h=0∧m=0)∧K (.v (.slice none 0 0)) σ
 | .gsl k n sz z=>match Nat.beq sz size with
  | true=>match σ.get k with
   | some (.gr n' sz' e _ z')=>match Nat.beq sz' size with
    | true=>match z,z' with
     | true,true=>(n=0→Ob (h=0∧m=0)∧K (.v (.slice none 0 0)) σ)∧(¬ n=0→Ob (n'=n∧h=n∧m=n)∧setK σ k (.gr n sz e .ro true) fun σ=>pushK σ (.gr n sz e .rx true) fun j σ=>K (.gsl j n sz true) σ)
     | false,false=>Ob (¬ n=0∧n'=n∧h=n∧m=n)∧setK σ k (.gr n sz e .ro false) fun σ=>pushK σ (.gr n sz e .rx false) fun j σ=>K (.gsl j n sz false) σ
     | _,_=>False
    | false=>False
   | _=>False
  | false=>False
 | _=>False
def wEff (o:Op) (t:List SV) (σ:SMem) (K:SV→SMem→Prop):Prop:=match o with
 | .alloc e=>match P.info? e with
  | some i=>match zerosS i with
   | some z=>pushK σ (.cells z .ex) fun k σ=>K (.ptr k 0) σ
   | none=>False
  | none=>False
 | .box _ x=>op1 x t fun x=>wCells x fun cs=>pushK σ (.cells cs .ex) fun k σ=>K (.ptr k 0) σ
 | .buildSlice ty len parts=>match P.underlying ty with
  | some (.slice e)=>match P.info? e with
   | some i=>match zerosS i with
    | some z =>
     if len*i.size≤16777216∧0 < i.size∧(0 < len∨parts.size=0)∧z.length=i.size then
      opsK (parts.toList.map (·.2)) t fun xs=>fillS (replS len z) ((parts.toList.map (·.1)).zipWith (fun k x=>(k*i.size,i.size,x)) xs) fun cs =>
       pushK σ (.cells cs .ex) fun k σ=>K (.sl k 0 len i.size) σ
     else False
    | none=>False
   | none=>False
  | _=>False
 | .makeSlice ty l c=>match P.underlying ty with
  | some (.slice e)=>match P.info? e with
   | some i=>match zerosS i with
    | some z =>
     if 0 < i.size∧z.length=i.size then
      op1 l t fun l=>op1 c t fun c=>asInt l fun j n=>asInt c fun k m=>match decEq j .i64,decEq k .i64 with
       | .isTrue _,.isTrue _=>match plainZ z with
        | true=>Ob (n=m∧0≤n∧n.toNat*(i.bytes+1)≤1099511627776)∧pushK σ (.gr n.toNat i.size (.fn fun _=>symL z) .ex false) fun k σ=>K (.gsl k n.toNat i.size false) σ
        | false=>Ob (n=m∧(0≤n∧n≤4)∧n.toNat*(i.bytes+1)≤1099511627776)∧mkLit i.size z n σ K 4
       | _,_=>False
     else False
    | none=>False
   | none=>False
  | _=>False
 | .store ty a x=>match P.info? ty with
  | some i=>op1 a t fun a=>op1 x t fun x=>gelOf σ a fun a=>match a with
   | .ptr k o=>wCells x fun cs=>match Nat.beq cs.length i.size with
    | true=>match σ.get k with
     | some (.cells c kd)=>match kd with
      | .ro=>False
      | .rx=>False
      | kd=>match lput c o cs with
       | some c'=>setK σ k (.cells c' kd) fun σ=>K (.v undef) σ
       | none=>False
     | _=>False
    | false=>False
   | .gel k sz j f=>wCells x fun cs=>symK cs fun cs=>match Nat.beq cs.length i.size && (Nat.ble (f+cs.length) sz && Nat.blt f sz)with
    | true=>match σ.get k with
     | some (.gr n sz' e kd z)=>match Nat.beq sz sz' with
      | true=>match kd with
       | .ro=>False
       | .rx=>False
       | kd=>Ob (j < n∧(e.at j).length=sz)∧updK e j f cs fun e=>setK σ k (.gr n sz e kd z) fun σ=>K (.v undef) σ
      | false=>False
     | _=>False
    | false=>False
   | _=>False
  | none=>False
 | .slice ty x none (some hi) (some mx)=>match P.underlying ty with
  | some (.slice e)=>match P.info? e with
   | some i=>match Nat.blt 0 i.size with
    | true=>op1 x t fun x=>op1 hi t fun hi=>op1 mx t fun mx=>asInt hi fun _ h=>asInt mx fun _ m=>wClp σ i.size x h m K
    | false=>False
   | none=>False
  | _=>False
 | .makeMap _ none=>pushK σ (.mp [] [] false) fun k σ=>K (.mp k) σ
 | .insert ty m k x=>match isIntMap P ty with
  | true=>op1 m t fun m=>op1 k t fun k=>op1 x t fun x=>match m with
   | .mp b=>match k with
    | .v (.int .i64 z)=>match σ.get b with
     | some (.mp ks c false)=>match ks.all (fun y=>!(leB z y && leB y z)) && Nat.beq ks.length c.length with
      | true=>setK σ b (.mp (ks++[z]) (c++[x]) false) fun σ=>K (.v undef) σ
      | false=>False
     | _=>False
    | _=>False
   | _=>False
  | false=>False
 | _=>False
def asEl (σ:SMem) (size:Nat) (x:SV) (K:Bool→Nat→El→Prop):Prop:=match x with
 | .v (.slice none 0 0)=>K true 0 (.fn fun _=>[])
 | .lst y n sz e=>match Nat.beq sz size with
  | true=>Ob (IsLst σ.B y n sz e)∧K false n (.fn e)
  | false=>False
 | .sl k 0 n sz=>match Nat.beq sz size with
  | true=>match σ.get k with
   | some (.cells c _)=>match Nat.ble (n*sz) c.length && litOk (symL c) sz n with
    | true=>fnat n fun n=>K true n (litEl (symL c) sz n)
    | false=>False
   | some (.gr _ _ _ _ false)=>match n with
    | 0=>K true 0 (.fn fun _=>[])
    | _=>False
   | _=>False
  | false=>False
 | .gsl k n sz z=>match Nat.beq sz size with
  | true=>match σ.get k with
   | some (.gr n' sz' e _ z')=>match Nat.beq sz' size && (z || !z')with
    | true=>Ob (n'=n∧∀i,i < n→(e.at i).length=sz)∧K false n e
    | false=>False
   | _=>False
  | false=>False
 | _=>False
def spentS (σ:SMem) (n size:Nat) (x:SV) (K:SMem→Prop):Prop:=match x with
 | .v _=>K σ
 | .sl k o _ _=>match σ.get k with
  | some (.cells c kd)=>match kd with
   | .gr=>setK σ k .dead K
   | .ex=>Ob (c.length < o+n*size)∧K σ
   | .ro=>False
   | .rx=>False
  | some (.gr _ _ _ .gr false)=>setK σ k .dead K
  | _=>False
 | .gsl k m _ z=>match σ.get k with
  | some (.gr m' sz _ kd z')=>match kd with
   | .gr=>Ob (m'=m)∧match z,z' with
    | true,true=>setK σ k .dead K
    | false,false=>setK σ k .dead K
    | _,_=>False
   | .ex=>match z,z' with
    | false,false=>Ob (m'=m∧m'*sz < n*size)∧K σ
    | _,_=>False
   | .ro=>False
   | .rx=>match z,z' with
    | true,true=>Ob (m'=m∧m'*sz < n*size)∧K σ
    | false,false=>Ob (m'=m∧m'*sz < n*size)∧K σ
    | _,_=>False
  | _=>False
 | _=>False
def nilable (x:SV):Bool:=match x with
 | .v _=>true
 | .gsl _ _ _ z=>z
 | _=>false
def behind (n:Nat) (a:El) (m:Nat) (b:El):El:=match b with
 | .snoc (.fn _) 0 cs=>match m with
  | 1=>.snoc a n cs
  | _=>.cat a n b
 | _=>.cat a n b
def wApp2 (σ:SMem) (size bytes:Nat) (s:SV) (n:Nat) (a:El) (m:Nat) (b:El) (q:Nat) (K:SV→SMem→Prop):Prop:=
 Ob (q*2*(bytes+1)≤1099511627776)∧spentS σ q size s fun σ=>pushK σ (.gr q size (behind n a m b) .gr (nilable s)) fun k σ=>K (.gsl k q size (nilable s)) σ
def wApp (σ:SMem) (size bytes:Nat) (s x:SV) (K:SV→SMem→Prop):Prop:=
 asEl σ size s fun ln n a=>asEl σ size x fun lm m b=>match lm with
  | true=>match Nat.beq m 0 with
   | true=>K s σ
   | false=>match ln with
    | true=>fnat (n+m) fun q=>wApp2 σ size bytes s n a m b q K
    | false=>wApp2 σ size bytes s n a m b (n+m) K
  | false=>(m=0→K s σ)∧(¬ m=0→wApp2 σ size bytes s n a m b (n+m) K)
def appOf (o:Op):Option (TypeId×TypeId×Operand×Operand):=match o with
 | .call c=>match c.callee with
  | .builtin .append=>match c.args.toList,c.argTypes.toList with
   | [s,x],[t,tx]=>some (t,tx,s,x)
   | _,_=>none
  | _=>none
 | _=>none
def isNilL (x:SV):Bool:=match x with
 | .v (.slice none 0 0)=>true
 | _=>false
def wApz (σ:SMem) (size bytes:Nat) (z:List SV) (s x:SV) (K:SV→SMem→Prop):Prop:=match isNilL s with
 | true=>asInt x fun j n=>match decEq j .i64 with
  | .isTrue _=>Ob (0 < n∧n.toNat*2*(bytes+1)≤1099511627776)∧pushK σ (.gr n.toNat size (.fn fun _=>symL z) .gr false) fun k σ=>K (.gsl k n.toNat size false) σ
  | .isFalse _=>False
 | false=>False
def wAppend (t tx:TypeId) (s x:SV) (σ:SMem) (K:SV→SMem→Prop):Prop:=match P.underlying t,P.underlying tx with
 | some (.slice e),some (.int _)=>match P.info? e with
  | some inf=>match zerosS inf with
   | some z=>match Nat.blt 0 inf.size && Nat.beq z.length inf.size with
    | true=>wApz σ inf.size inf.bytes z s x K
    | false=>False
   | none=>False
  | none=>False
 | some (.slice e),some (.slice _)=>match P.info? e with
  | some inf=>match zerosS inf with
   | some z=>match Nat.blt 0 inf.size && Nat.beq z.length inf.size with
    | true=>fnat inf.size fun size=>wApp σ size inf.bytes s x K
    | false=>False
   | none=>False
  | none=>False
 | _,_=>False
def lsetK:List SV→Nat→SV→(List SV→Prop)→Prop
 | [],_,_,_=>False
 | _ :: r,0,x,K=>K (x :: r)
 | y :: r,i+1,x,K=>lsetK r i x fun r'=>K (y :: r')
def putK' (d:Option Nat) (t:List SV) (x:SV) (K:List SV→Prop):Prop:=match d with
 | none=>K t
 | some i=>lsetK t i x K
def putS (d:Option Nat) (t:List SV) (x:SV) (K:List SV→Prop):Prop:=putK' d t x K
def guardS (ops:Array Oper) (o:Oper) (t:List SV) (go skip:List SV→Prop):Prop:=match o.guard with
 | none=>go t
 | some (j,b)=>match (ops[j]?).bind (·.dst)with
  | some d=>match opS (.tmp d) t with
   | .v (.bool c)=>match c == b with
    | true=>go t
    | false=>skip t
   | .p c=>match b with
    | true=>(c→lsetK t d (.v (.bool true)) go)∧(¬ c→lsetK t d (.v (.bool false)) skip)
    | false=>(¬ c→lsetK t d (.v (.bool false)) go)∧(c→lsetK t d (.v (.bool true)) skip)
   | .v (.tuple _)=>skip t
   | _=>False
  | none=>False
abbrev Kt:=List SV→SMem→Prop
def effCall (E:List ConE) (o:Op):Option (ConE×List Operand):=match o with
 | .call c=>match c.callee with
  | .value (.func g)=>match conOfE E g with
   | some con=>some (con,c.args.toList)
   | none=>none
  | _=>none
 | _=>none
def wOne (C:Know) (ops:Array Oper) (o:Oper) (t:List SV) (σ:SMem) (K:Kt):Prop:=
 guardS ops o t
  (fun t=>match effCall C.E o.op with
   | some (con,xs)=>opsK xs t fun args=>con.w args σ fun x σ=>fsv x fun x=>putS o.dst t x fun t=>K t σ
   | none=>match appOf o.op with
   | some (ty,tx,s,x)=>op1 s t fun s=>op1 x t fun x=>wAppend P ty tx s x σ fun x σ=>fsv x fun x=>putS o.dst t x fun t=>K t σ
   | none=>match isVal o.op with
   | true=>wVal P C.C o.op t σ fun x=>putS o.dst t x fun t=>K t σ
   | false=>wEff P o.op t σ fun x σ=>putS o.dst t x fun t=>K t σ)
  (fun t=>putS o.dst t (.v undef) fun t=>K t σ)
def wSeq (C:Know) (ops:Array Oper):List Oper→List SV→SMem→Kt→Prop
 | [],t,σ,K=>K t σ
 | o :: r,t,σ,K=>wOne P C ops o t σ fun t σ=>wSeq C ops r t σ K
def visS (σ:SMem) (x:SV) (p:Prop):Prop:=match x with
 | .v y=>match y with
  | .agg _=>False
  | _=>p
 | .i _ _=>p
 | .p _=>p
 | .ptr k _=>match Nat.blt k σ.n with
  | true=>p
  | false=>False
 | .sl k _ _ _=>match Nat.blt k σ.n with
  | true=>p
  | false=>False
 | .gsl k _ _ _=>match Nat.blt k σ.n with
  | true=>p
  | false=>False
 | .gel k _ _ _=>match Nat.blt k σ.n with
  | true=>p
  | false=>False
 | .fv _ ks=>match ks.all (fun k=>Nat.blt k σ.n)with
  | true=>p
  | false=>False
 | .yl k=>match Nat.blt k σ.n with
  | true=>p
  | false=>False
 | .mp k=>match Nat.blt k σ.n with
  | true=>p
  | false=>False
 | .bf _ s=>match s with
  | .ptr k _=>match Nat.blt k σ.n with
   | true=>p
   | false=>False
  | _=>False
 | .lst y n sz e=>Ob (IsLst σ.B y n sz e)∧p
 | .elm y n sz e i _=>Ob (IsLst σ.B y n sz e∧i < n)∧p
 | _=>False
def visC (σ:SMem):List SV→Prop→Prop
 | [],p=>p
 | x :: r,p=>match flatS [x]with
  | true=>visS σ x (visC σ r p)
  | false=>False
def visT (σ:SMem):List SV→Prop→Prop
 | [],p=>p
 | x :: r,p=>match x with
  | .agg cs=>visC σ cs (visT σ r p)
  | x=>visS σ x (visT σ r p)
def visK (σ:SMem) (x:SV) (p:Prop):Prop:=match x with
 | .agg cs=>visC σ cs p
 | .tup cs=>visT σ cs p
 | x=>visS σ x p
def wPre (C:Know) (ops:Array Oper):List Oper→List SV→SMem→Kt→Prop
 | [],t,σ,K=>K t σ
 | o :: r,t,σ,K =>
  guardS ops o t
   (fun t=>match isVal o.op with
    | true=>wVal P C.C o.op t σ fun x=>visK σ x (putS o.dst t x fun t=>wPre C ops r t σ K)
    | false=>False)
   (fun t=>putS o.dst t (.v undef) fun t=>wPre C ops r t σ K)
def wReg (C:Know) (ops:Array Oper) (draw:Bool) (t:List SV) (σ:SMem) (K:Kt):Prop:=match decReg P ops draw with
 | some (.seq _)=>wSeq P C ops ops.toList t σ K
 | some (.draw _ _ false)=>fnat (planTail (Region.before ops).toList ops.size) fun k =>
   wPre P C ops (ops.toList.take k) t σ fun t σ=>wSeq P C ops (ops.toList.drop k) t σ K
 | _=>False
end
end
end Go.Rv
namespace Go.Rv
open Go
theorem denL_eq (N:Nat) (l:List SV):denL N l=l.map (den N):=by
 induction l with
 | nil=>rfl
 | cons x r ih=>simp [denL,ih]
@[simp] theorem fsv_eq (x:SV) (K:SV→Prop):fsv x K=K x:=by cases x<;>rfl
theorem lget_denL (N:Nat) (l:List SV) (o:Nat):lget (denL N l) o=(lget l o).map (den N):=by
 rw [lget_eq,lget_eq,denL_eq,List.getElem?_map]
theorem lcut_some {α:Type} {l:List α} {o n:Nat} (h:o+n≤l.length):lcut l o n=some ((l.drop o).take n):=by
 have hd:∀(n:Nat) (l:List α),n≤l.length→ldrop n l=some (l.drop n):=by
  intro n
  induction n with
  | zero=>intro l _; rfl
  | succ n ih =>
   intro l hl
   cases l with
   | nil=>simp at hl
   | cons x r=>exact ih r (by simpa using hl)
 have ht:∀(n:Nat) (l:List α),n≤l.length→ltake n l=some (l.take n):=by
  intro n
  induction n with
  | zero=>intro l _; rfl
  | succ n ih =>
   intro l hl
   cases l with
   | nil=>simp at hl
   | cons x r =>
    have h2:=ih r (by simpa using hl)
    show Option.rec (motive:=fun _=>Option (List α)) none (fun r'=>some (x :: r')) (ltake n r)=_
    rw [h2]; rfl
 unfold lcut
 rw [hd o l (by omega)]
 exact ht n _ (by simp; omega)
theorem lcut_denL (N:Nat) {l l':List SV} {o n:Nat} (h:lcut l o n=some l'):lcut (denL N l) o n=some (denL N l'):=by
 obtain⟨h1,h2⟩:=lcut_spec h
 subst h2
 rw [lcut_some (by rw [denL_eq]; simpa using h1)]
 simp [denL_eq,List.map_drop,List.map_take]
theorem lput_some {α:Type} {l:List α} {o:Nat} {ys:List α} (h:o+ys.length≤l.length):lput l o ys=some (l.take o++ys++l.drop (o+ys.length)):=by
 have hov:∀(l ys:List α),ys.length≤l.length→lover l ys=some (ys++l.drop ys.length):=by
  intro l
  induction l with
  | nil =>
   intro ys hy
   cases ys with
   | nil=>rfl
   | cons y r=>simp at hy
  | cons x r ih =>
   intro ys hy
   cases ys with
   | nil=>rfl
   | cons y s =>
    have h2:=ih s (by simpa using hy)
    show Option.rec (motive:=fun _=>Option (List α)) none (fun r'=>some (y :: r')) (lover r s)=_
    rw [h2]; rfl
 induction o generalizing l with
 | zero =>
  have:=hov l ys (by omega)
  show lover l ys=_
  simpa using this
 | succ o ih =>
  cases l with
  | nil=>simp at h
  | cons x r =>
   have h2:=ih (l:=r) (by simp at h; omega)
   show Option.rec (motive:=fun _=>Option (List α)) none (fun r'=>some (x :: r')) (lput r o ys)=_
   rw [h2]
   have:o+1+ys.length=(o+ys.length)+1:=by omega
   simp [this]
theorem lput_denL (N:Nat) {l l' ys:List SV} {o:Nat} (h:lput l o ys=some l'):lput (denL N l) o (denL N ys)=some (denL N l'):=by
 have h1:o+ys.length≤l.length∧l'=l.take o++ys++l.drop (o+ys.length):=by
  obtain⟨h2,h3⟩:=lput_spec l o ys h
  have h4:=lput_some h2
  rw [h]at h4
  exact⟨h2,Option.some.inj h4⟩
 obtain⟨h2,rfl⟩:=h1
 rw [lput_some (by simpa [denL_eq] using h2)]
 simp [denL_eq,List.map_drop,List.map_take]
structure TT (N:Nat) (t:List SV) (T:RT):Prop where
 n:T.n=t.length
 rows:(T.n+7) / 8≤T.rows.length
 get:∀i,T.get i=den N ((t[i]?).getD (.v undef))
structure Sees (W:RW) (σ:SMem):Prop where
 n:W.n=σ.B.n+σ.n
 loc:∀k c kd,σ.get k=some (.cells c kd)→cellsAt W (σ.B.n+k)=some (denL σ.B.n c)
 base:∀b c,cellsAt σ.B b=some c→cellsAt W b=some c
 alive:∀k n sz e kd z,σ.get k=some (.gr n sz e kd z)→(z=true→0 < n)→cellsAt W (σ.B.n+k)=some (gcells σ.B.n n sz e)
 maps:∀k ks c ro,σ.get k=some (.mp ks c ro)→∃ro',W.get (σ.B.n+k)=some (.map (mapEs σ.B.n 0 ks c) c.length ro')
theorem Sees.rows {W:RW} {σ:SMem} (h:Sees W σ):∀k n sz e kd z,σ.get k=some (.gr n sz e kd z)→0 < n→cellsAt W (σ.B.n+k)=some (gcells σ.B.n n sz e):=
 fun k n sz e kd z hk hn=>h.alive k n sz e kd z hk fun _=>hn
theorem lcut_full {α:Type} {l:List α} {n:Nat} (h:l.length=n):lcut l 0 n=some l:=by
 rw [lcut_some (by omega)]
 simp [← h]
theorem gRow_ok:∀ {e:El} {i:Nat} {K:List SV→Prop},gRow e i K→K (e.at i)
 | .fn e,i,K,h=>h
 | .nf e,i,K,h=>h
 | .snoc r n cs,i,K,h=>by
  unfold El.at
  by_cases hi:i < n
  ·rw [if_pos hi]; exact gRow_ok (h.1 hi)
  ·rw [if_neg hi]; exact h.2 hi
 | .cat r n s,i,K,h=>by
  unfold El.at
  by_cases hi:i < n
  ·rw [if_pos hi]; exact gRow_ok (h.1 hi)
  ·rw [if_neg hi]; exact gRow_ok (h.2 hi)
 | .upd r j f x,i,K,h=>by
  unfold El.at
  by_cases hi:i=j
  ·rw [if_pos hi]; exact gRow_ok (K:=fun cs=>K (cs.set f x)) (h.1 hi)
  ·rw [if_neg hi]; exact gRow_ok (h.2 hi)
 | .row r j cs,i,K,h=>by
  unfold El.at
  rw [if_pos h.1.h]
  exact h.2
theorem gcells_len (N n sz:Nat) (e:El):(gcells N n sz e).length=n*sz:=by simp [gcells]
theorem row_lt {i n sz f:Nat} (hi:i < n) (hf:f < sz):i*sz+f < n*sz:=by
 have h:(i+1)*sz≤n*sz:=Nat.mul_le_mul_right sz hi
 rw [Nat.add_mul,Nat.one_mul]at h
 omega
theorem gcells_get {N n sz i f:Nat} {e:El} (hi:i < n) (hf:f < sz):(gcells N n sz e)[i*sz+f]?=some (den N (((e.at i)[f]?).getD (.v (.bool false)))):=by
 unfold gcells
 rw [List.getElem?_map,List.getElem?_range (row_lt hi hf)]
 have h1:(i*sz+f) / sz=i:=by
  rw [Nat.mul_comm,Nat.mul_add_div (by omega),Nat.div_eq_of_lt hf]
  omega
 have h2:(i*sz+f) % sz=f:=by
  rw [Nat.mul_comm,Nat.mul_add_mod,Nat.mod_eq_of_lt hf]
 simp only [Option.map_some,h1,h2]
theorem gcells_cut {N n sz i f m:Nat} {e:El} {l:List SV} (hi:i < n) (hf:f+m≤sz) (hl:lcut (e.at i) f m=some l):lcut (gcells N n sz e) (i*sz+f) m=some (denL N l):=by
 have hlen:i*sz+f+m≤n*sz:=by
  have h:(i+1)*sz≤n*sz:=Nat.mul_le_mul_right sz hi
  rw [Nat.add_mul,Nat.one_mul]at h
  omega
 obtain⟨h1,rfl⟩:=lcut_spec hl
 rw [lcut_some (by rw [gcells_len]; omega)]
 congr 1
 apply List.ext_getElem?
 intro j
 rw [denL_eq,List.getElem?_map,List.getElem?_take,List.getElem?_take]
 by_cases hj:j < m
 ·rw [if_pos hj,if_pos hj,List.getElem?_drop,List.getElem?_drop,Nat.add_assoc,gcells_get hi (by omega),List.getElem?_eq_getElem (by omega)]
  rfl
 ·rw [if_neg hj,if_neg hj]
  rfl
theorem cellsAt_lt {B:RW} {b:Nat} {c:List RV} (h:cellsAt B b=some c):b < B.n:=by
 unfold cellsAt at h
 split at h
 ·rename_i hb
  exact get_lt hb
 ·simp at h
section
variable [Env] {P:Program} {ev:Ev}
theorem opd_S {N:Nat} {t:List SV} {T:RT} (hT:TT N t T) (x:Operand):opd x T=den N (opS x t):=by
 cases x with
 | tmp i =>
  simp only [opd,opdB,tmpB_eq,opS,lget_eq]
  rw [hT.get i]
  cases t[i]?<;>rfl
 | const v =>
  simp only [opd,opdB,opS]
  cases v with
  | agg cs =>
   simp only [ofValue,ofValueS,den,denL_eq,List.map_map]
   congr 1
  | _=>rfl
 | global g =>
  simp only [opd,opdB,opS]
  cases Env.ids.idxOf? g<;>rfl
 | func f=>rfl
theorem op1_ok {x:Operand} {t:List SV} {K:SV→Prop} (h:op1 x t K):okO x=true∧K (opS x t):=by
 unfold op1 at h
 split at h
 ·exact⟨by assumption,by simpa using h⟩
 ·exact h.elim
theorem opsK_ok {t:List SV}:∀ {xs:List Operand} {K:List SV→Prop},opsK xs t K→xs.all okO=true∧K (xs.map fun x=>opS x t)
 | [],K,h=>⟨rfl,h⟩
 | x :: r,K,h=>by
  obtain⟨h1,h2⟩:=op1_ok h
  obtain⟨h3,h4⟩:=opsK_ok h2
  exact⟨by simp [h1,h3],h4⟩
theorem opds_S {N:Nat} {t:List SV} {T:RT} (hT:TT N t T) (xs:List Operand):(xs.map fun x=>opd x T)=denL N (xs.map fun x=>opS x t):=by
 rw [denL_eq,List.map_map]
 exact List.map_congr_left fun x _=>opd_S hT x
theorem with1_of {x:Operand} {k:Opd→ROp} (h:okO x=true):with1 x k=some (k (opd x)):=by
 unfold with1 opd
 rw [if_pos h]
theorem with2_of {x y:Operand} {k:Opd→Opd→ROp} (h:okO x=true) (h2:okO y=true):with2 x y k=some (k (opd x) (opd y)):=by
 unfold with2 opd
 rw [if_pos (by simp [h,h2])]
theorem with3_of {x y z:Operand} {k:Opd→Opd→Opd→ROp} (h:okO x=true) (h2:okO y=true) (h3:okO z=true):with3 x y z k=some (k (opd x) (opd y) (opd z)):=by
 unfold with3 opd
 rw [if_pos (by simp [h,h2,h3])]
theorem withL_of {xs:List Operand} {k:(RT→List RV)→ROp} (h:xs.all okO=true):withL xs k=some (k fun t=>xs.map fun x=>opd x t):=by
 unfold withL
 rw [if_pos h]
def Gives (P:Program) (ev:Ev) (W:RW) (e:Option Eff) (x:RV):Prop:=
 e=some (.val x)∨∃f args,e=some (.call f args)∧callV P ev f args W=some (x,W)
def ConsOk (P:Program) (ev:Ev) (C:List Con):Prop:=∀con∈C,∀(args:List SV) (σ:SMem) (W:RW) (K:SV→Prop),Sees W σ→con.w args σ K →
 ∃x,callF P ev con.g (denL σ.B.n args) W=some (den σ.B.n x,W)∧K x
omit [Env] in
theorem conOf_mem:∀ {C:List Con} {g:FuncId} {con:Con},conOf C g=some con→con∈C∧con.g=g
 | [],g,con,h=>by simp [conOf]at h
 | c :: r,g,con,h=>by
  unfold conOf at h
  split at h
  ·rename_i hg
   simp only [Option.some.injEq]at h
   subst h
   exact⟨List.mem_cons_self,Nat.eq_of_beq_eq_true hg⟩
  ·obtain⟨h1,h2⟩:=conOf_mem h
   exact⟨List.mem_cons_of_mem _ h1,h2⟩
omit [Env] in
theorem inK_of {k:IntKind} {n:Int} (h:InR k n):inK k n=true:=by
 cases k<;>simp_all [InR,inK,leB_eq]
omit [Env] in
theorem putK_of {k:IntKind} {n:Int} (h:InR k n):putK k n=some (.int k n):=by
 unfold putK
 rw [fint_eq,if_pos (inK_of h)]
omit [Env] in
theorem psem_intArith (P:Program) (op:BinOp) (ty:TypeId) (k:IntKind) (a b n:Int) (h:op=.add∧n=a+b∨op=.sub∧n=a-b∨op=.mul∧n=a*b) :
  psem P (binOp op ty (.int k a) (.int k b))=some (.int k (k.wrap n)):=by
 rcases h with ⟨rfl,rfl⟩ | ⟨rfl,rfl⟩ | ⟨rfl,rfl⟩<;>simp [binOp,Op.intArith]<;>rfl
omit [Env] in
theorem eqGuard_int (P:Program) (op:BinOp) (ty:TypeId) (k:IntKind) (a b:Int):psem P (eqGuard op ty (.tmp 0) (.tmp 0) (.int k a) (.int k b))=some ():=by
 cases op<;>rfl
omit [Env] in
theorem wArith_ok {op:BinOp} {ty:TypeId} {k:IntKind} {a b n:Int} {K:SV→Prop} (hop:op=.add∧n=a+b∨op=.sub∧n=a-b∨op=.mul∧n=a*b) (h:wArith k n K) (N:Nat) :
  ∃x,xBin P op ty (.v (.int k a)) (.v (.int k b))=some (.val (den N x))∧K x:=by
 have hf:fastB op k a b=putK k n:=by
  rcases hop with ⟨rfl,rfl⟩ | ⟨rfl,rfl⟩ | ⟨rfl,rfl⟩<;>rfl
 have hfv:fastV op (.v (.int k a)) (.v (.int k b))=putK k n:=by
  rw [← hf]
  rcases hop with ⟨rfl,rfl⟩ | ⟨rfl,rfl⟩ | ⟨rfl,rfl⟩<;>simp [fastV]
 unfold wArith at h
 unfold xBin
 rw [hfv]
 split at h
 ·refine⟨_,?_,h⟩
  cases hp:putK k n with
  | some v =>
   obtain⟨rfl,h2⟩:=putK_spec hp
   simp [den,h2]
  | none =>
   simp only [xBinSlow,plain,eqGuard_int,psem_intArith P op ty k a b n hop,ovalue,oneV,if_true,fvalue_eq,den]
 ·obtain⟨⟨h1⟩,h2⟩:=h
  exact⟨_,by rw [putK_of h1]; rfl,h2⟩
omit [Env] in
theorem valb {x y:Bool} (h:x=y):some (Eff.val (RV.v (.bool x)))=some (Eff.val (.v (.bool y))):=by rw [h]
omit [Env] in
theorem wInt2_ok {op:BinOp} {ty:TypeId} {j k:IntKind} {a b:Int} {K:SV→Prop} (hk:isShift op=true∨j=k) (h:wInt2 op j a b K) (N:Nat) :
  ∃x,xBin P op ty (.v (.int j a)) (.v (.int k b))=some (.val (den N x))∧K x:=by
 cases op<;>simp only [wInt2]at h<;>simp only [isShift,Bool.false_eq_true,false_or,true_or]at hk
 case add=>subst hk; exact wArith_ok (.inl ⟨rfl,rfl⟩) h N
 case sub=>subst hk; exact wArith_ok (.inr (.inl ⟨rfl,rfl⟩)) h N
 case mul=>subst hk; exact wArith_ok (.inr (.inr ⟨rfl,rfl⟩)) h N
 case lss =>
  subst hk
  refine⟨_,?_,h⟩
  simp only [xBin,fastV,if_true,fastB,fbool_eq,leB_eq,den]
  exact valb (by rw [Bool.eq_iff_iff]; simp)
 case leq =>
  subst hk
  refine⟨_,?_,h⟩
  simp only [xBin,fastV,if_true,fastB,fbool_eq,leB_eq,den]
  exact valb (by rw [Bool.eq_iff_iff]; simp)
 case gtr =>
  subst hk
  refine⟨_,?_,h⟩
  simp only [xBin,fastV,if_true,fastB,fbool_eq,leB_eq,den]
  exact valb (by rw [Bool.eq_iff_iff]; simp)
 case geq =>
  subst hk
  refine⟨_,?_,h⟩
  simp only [xBin,fastV,if_true,fastB,fbool_eq,leB_eq,den]
  exact valb (by rw [Bool.eq_iff_iff]; simp)
 case eql =>
  subst hk
  refine⟨_,?_,h⟩
  simp only [xBin,fastV,if_true,fastB,fbool_eq,leB_eq,den]
  exact valb (by rw [Bool.eq_iff_iff]; simp; omega)
 case neq =>
  subst hk
  refine⟨_,?_,h⟩
  simp only [xBin,fastV,if_true,fastB,fbool_eq,leB_eq,den]
  exact valb (by rw [Bool.eq_iff_iff]; simp; omega)
 case quo =>
  subst hk
  have pos:(0≤a∧0 < b∧InR j (a / b))→xBin P .quo ty (.v (.int j a)) (.v (.int j b))=some (.val (.v (.int j (a / b)))):=by
   rintro⟨h1,h2,h3⟩
   obtain⟨m,rfl⟩:=Int.eq_ofNat_of_zero_le h1
   obtain⟨n,rfl⟩:∃n:Nat,b=((n+1:Nat):Int):=⟨b.toNat-1,by omega⟩
   have:fastB .quo j (m:Int) ((n+1:Nat):Int)=putK j ((m / (n+1):Nat):Int):=rfl
   simp only [xBin,fastV,if_true,this]
   rw [putK_of (by simpa using h3)]
   simp
  split at h
  ·obtain⟨⟨h2,h3⟩,h4⟩:=h
   refine⟨_,?_,h4⟩
   by_cases h1:0≤a
   ·rw [Int.tdiv_eq_ediv_of_nonneg h1]at h3 ⊢
    exact pos ⟨h1,h2,h3⟩
   ·obtain⟨m,rfl⟩:∃m:Nat,a=.negSucc m:=⟨(-a-1).toNat,by omega⟩
    have:fastB .quo .i64 (.negSucc m) b=none:=rfl
    simp only [xBin,fastV,if_true,this]
    have hb:¬ b=0:=by omega
    have hw:IntKind.i64.wrap (Int.tdiv (.negSucc m) b)=Int.tdiv (.negSucc m) b:=inK_wrap (inK_of h3)
    have e1:psem P (eqGuard .quo ty (.tmp 0) (.tmp 0) (.int .i64 (.negSucc m)) (.int .i64 b))=some ():=eqGuard_int P .quo ty .i64 _ _
    have e2:psem P (binOp .quo ty (.int .i64 (.negSucc m)) (.int .i64 b))=some (.int .i64 (Int.tdiv (.negSucc m) b)):=by
     simp [binOp,Op.intDiv,hb,hw]
     rfl
    simp only [xBinSlow,plain,e1,e2,ovalue,oneV,if_true,fvalue_eq,den]
  ·obtain⟨h1,h4⟩:=h
   exact⟨.i _ (a / b),pos h1.h,h4⟩
 case rem =>
  subst hk
  have pos:(0≤a∧0 < b∧InR j (a % b))→xBin P .rem ty (.v (.int j a)) (.v (.int j b))=some (.val (.v (.int j (a % b)))):=by
   rintro⟨h1,h2,h3⟩
   obtain⟨m,rfl⟩:=Int.eq_ofNat_of_zero_le h1
   obtain⟨n,rfl⟩:∃n:Nat,b=((n+1:Nat):Int):=⟨b.toNat-1,by omega⟩
   have:fastB .rem j (m:Int) ((n+1:Nat):Int)=putK j ((m % (n+1):Nat):Int):=rfl
   simp only [xBin,fastV,if_true,this]
   rw [putK_of (by simpa using h3)]
   simp
  split at h
  ·obtain⟨⟨h2,h3⟩,h4⟩:=h
   refine⟨_,?_,h4⟩
   by_cases h1:0≤a
   ·rw [Int.tmod_eq_emod_of_nonneg h1]at h3 ⊢
    exact pos ⟨h1,h2,h3⟩
   ·obtain⟨m,rfl⟩:∃m:Nat,a=.negSucc m:=⟨(-a-1).toNat,by omega⟩
    have:fastB .rem .i64 (.negSucc m) b=none:=rfl
    simp only [xBin,fastV,if_true,this]
    have hb:¬ b=0:=by omega
    have e1:psem P (eqGuard .rem ty (.tmp 0) (.tmp 0) (.int .i64 (.negSucc m)) (.int .i64 b))=some ():=eqGuard_int P .rem ty .i64 _ _
    have e2:psem P (binOp .rem ty (.int .i64 (.negSucc m)) (.int .i64 b))=some (.int .i64 (Int.tmod (.negSucc m) b)):=by
     simp [binOp,Op.intDiv,hb]
     rfl
    simp only [xBinSlow,plain,e1,e2,ovalue,oneV,if_true,fvalue_eq,den]
  ·obtain⟨h1,h4⟩:=h
   exact⟨.i _ (a % b),pos h1.h,h4⟩
 case xor =>
  subst hk
  obtain⟨⟨h1,h2,h3⟩,h4⟩:=h
  refine⟨_,?_,h4⟩
  obtain⟨m,rfl⟩:=Int.eq_ofNat_of_zero_le h1
  obtain⟨n,rfl⟩:=Int.eq_ofNat_of_zero_le h2
  have:fastB .xor j (m:Int) (n:Int)=putK j ((m ^^^ n:Nat):Int):=rfl
  simp only [xBin,fastV,if_true,this]
  have h3':InR j ((m ^^^ n:Nat):Int):=by simpa [xorI] using h3
  rw [putK_of h3']
  simp [den,xorI]
 case shr =>
  obtain⟨⟨h1,h2,h3,h5⟩,h4⟩:=h
  refine⟨_,?_,h4⟩
  obtain⟨m,rfl⟩:=Int.eq_ofNat_of_zero_le h1
  obtain⟨n,rfl⟩:=Int.eq_ofNat_of_zero_le h2
  have hn:Nat.ble n j.bits=true:=by rw [Nat.ble_eq]; omega
  have:fastB .shr j (m:Int) (n:Int)=if Nat.ble n j.bits then putK j ((m / 2 ^ n:Nat):Int)else none:=rfl
  simp only [xBin,fastV,this,hn,if_true]
  rw [putK_of (by simpa using h5)]
  simp [den]
 case and =>
  subst hk
  obtain⟨⟨h1,h2,h3⟩,h4⟩:=h
  refine⟨_,?_,h4⟩
  obtain⟨m,rfl⟩:=Int.eq_ofNat_of_zero_le h1
  obtain⟨n,rfl⟩:=Int.eq_ofNat_of_zero_le h2
  have:fastB .and j (m:Int) (n:Int)=putK j ((m &&& n:Nat):Int):=rfl
  simp only [xBin,fastV,if_true,this]
  have h3':InR j ((m &&& n:Nat):Int):=by simpa [andI] using h3
  rw [putK_of h3']
  simp [den,andI]
 case or =>
  subst hk
  obtain⟨⟨h1,h2,h3⟩,h4⟩:=h
  refine⟨_,?_,h4⟩
  obtain⟨m,rfl⟩:=Int.eq_ofNat_of_zero_le h1
  obtain⟨n,rfl⟩:=Int.eq_ofNat_of_zero_le h2
  have:fastB .or j (m:Int) (n:Int)=putK j ((m ||| n:Nat):Int):=rfl
  simp only [xBin,fastV,if_true,this]
  have h3':InR j ((m ||| n:Nat):Int):=by simpa [orI] using h3
  rw [putK_of h3']
  simp [den,orI]
 case andNot =>
  subst hk
  obtain⟨⟨h1,h2,h3⟩,h4⟩:=h
  refine⟨_,?_,h4⟩
  obtain⟨m,rfl⟩:=Int.eq_ofNat_of_zero_le h1
  obtain⟨n,rfl⟩:=Int.eq_ofNat_of_zero_le h2
  have:fastB .andNot j (m:Int) (n:Int)=putK j ((m ^^^ (m &&& n):Nat):Int):=rfl
  simp only [xBin,fastV,if_true,this]
  have h3':InR j ((m ^^^ (m &&& n):Nat):Int):=by simpa [andNotI] using h3
  rw [putK_of h3']
  simp [den,andNotI]
 case shl =>
  obtain⟨⟨h1,h2,h3,h5⟩,h4⟩:=h
  refine⟨_,?_,h4⟩
  obtain⟨m,rfl⟩:=Int.eq_ofNat_of_zero_le h1
  obtain⟨n,rfl⟩:=Int.eq_ofNat_of_zero_le h2
  have h6:InR j ((m*2 ^ n:Nat):Int):=by simpa using h5
  have hw:=inK_wrap (inK_of h6)
  by_cases hj:j=.u64
  ·subst hj
   have hn:Nat.ble n 64=true:=by
    rw [Nat.ble_eq]
    have:((IntKind.u64.bits:Nat):Int)=64:=rfl
    omega
   have hf:fastB .shl .u64 (m:Int) (n:Int)=if Nat.ble n 64 then putK .u64 ((m*2 ^ n % 18446744073709551616:Nat):Int)else none:=rfl
   have hm:m*2 ^ n % 18446744073709551616=m*2 ^ n:=Nat.mod_eq_of_lt (by simp only [InR]at h6; omega)
   simp only [xBin,fastV,hf,hn,if_true,hm]
   rw [putK_of h6]
   simp [den]
  ·have hf:fastV .shl (.v (.int j (m:Int))) (.v (.int k (n:Int)))=none:=by
    cases j<;>first | rfl | exact absurd rfl hj
   have e1:psem P (eqGuard .shl ty (.tmp 0) (.tmp 0) (.int j (m:Int)) (.int k (n:Int)))=some ():=rfl
   have e2:psem P (binOp .shl ty (.int j (m:Int)) (.int k (n:Int)))=some (.int j ((m*2 ^ n:Nat):Int)):=by
    have q1:min ((n:Int)).toNat j.bits=n:=by
     show min n j.bits=n
     omega
    have q2:¬ ((n:Int) < 0):=by omega
    have q3:((m:Int)*2 ^ n)=((m*2 ^ n:Nat):Int):=by simp
    simp only [binOp,Op.shift,q2,if_false,q1,q3,hw]
    rfl
   simp only [xBin,hf,xBinSlow,plain,e1,e2,ovalue,oneV,if_true,fvalue_eq,den]
   simp
omit [Env] in
theorem wKinds_ok {op:BinOp} {j k:IntKind} {p:Prop} (h:wKinds op j k p):(isShift op=true∨j=k)∧p:=by
 unfold wKinds at h
 split at h
 ·exact⟨.inl (by assumption),h⟩
 ·split at h
  ·exact⟨.inr (by assumption),h⟩
  ·exact h.elim
omit [Env] in
omit [Env] in
theorem asInt_ok {x:SV} {K:IntKind→Int→Prop} (h:asInt x K):∃k z,(∀N,den N x=.v (.int k z))∧K k z:=by
 unfold asInt at h
 split at h
 ·exact⟨_,_,fun _=>rfl,h⟩
 ·exact⟨_,_,fun _=>rfl,h⟩
 ·exact h.elim
omit [Env] in
theorem asTru_ok {x:SV} {K:Prop→Prop} (h:asTru x K):∃c:Prop,(∀N,den N x=.v (.bool (@decide c (Classical.propDecidable c))))∧K c:=by
 unfold asTru at h
 split at h
 ·exact⟨_,fun _=>rfl,h⟩
 ·rename_i b
  exact⟨_,fun _=>by cases b<;>simp [den],h⟩
 ·exact h.elim
omit [Env] in
theorem eqK_ok (N:Nat):∀ {ks:List Nat} {xs ys:List SV} {K:Prop→Prop},eqK ks xs ys K→∃c:Prop,sameKey ks (denL N xs) (denL N ys)=some (@decide c (Classical.propDecidable c))∧K c
 | [],[],[],K,h=>⟨True,by simp [denL,sameKey],h⟩
 | k :: ks,x :: xs,y :: ys,K,h=>by
  unfold eqK at h
  split at h
  ·obtain⟨j,a,h1,h2⟩:=asInt_ok h
   obtain⟨j',b,h3,h4⟩:=asInt_ok h2
   split at h4
   ·rename_i hj _
    subst hj
    obtain⟨c,h5,h6⟩:=eqK_ok N h4
    refine⟨_,?_,h6⟩
    simp only [denL,h1 N,h3 N,sameKey,sameC,if_true,h5]
    congr 1
    rw [Bool.eq_iff_iff]
    simp only [leB_eq,Bool.and_eq_true,decide_eq_true_eq]
    constructor
    ·rintro⟨⟨q1,q2⟩,q3⟩
     exact⟨by omega,q3⟩
    ·rintro⟨q1,q3⟩
     exact⟨⟨by omega,by omega⟩,q3⟩
   ·exact h4.elim
  ·obtain⟨a,h1,h2⟩:=asTru_ok h
   obtain⟨b,h3,h4⟩:=asTru_ok h2
   obtain⟨c,h5,h6⟩:=eqK_ok N h4
   refine⟨_,?_,h6⟩
   simp only [denL,h1 N,h3 N,sameKey,sameC,h5]
   congr 1
   by_cases ha:a<;>by_cases hb:b<;>by_cases hc:c<;>simp [ha,hb,hc]
  ·exact h.elim
 | [],[],_ :: _,K,h=>h.elim
 | [],_ :: _,_,K,h=>h.elim
 | _ :: _,[],_,K,h=>h.elim
 | _ :: _,_ :: _,[],K,h=>h.elim
omit [Env] in
theorem isB_ok {op:BinOp} {ty:TypeId} {a b r:Bool} (h:isB P op ty a b r=true):xBin P op ty (.v (.bool a)) (.v (.bool b))=some (.val (.v (.bool r))):=by
 unfold isB at h
 split at h
 ·rename_i s hs
  rw [hs,(beq_iff_eq).1 h]
 ·simp at h
omit [Env] in
theorem wBool_ok {op:BinOp} {ty:TypeId} {c d:Prop} {K:SV→Prop} (h:wBool P op ty c d K) (N:Nat):∃z,xBin P op ty (den N (.p c)) (den N (.p d))=some (.val (den N z))∧K z:=by
 unfold wBool at h
 split at h
 ·split at h
  ·rename_i hb
   simp only [Bool.and_eq_true]at hb
   obtain⟨⟨⟨b1,b2⟩,b3⟩,b4⟩:=hb
   refine⟨_,?_,h⟩
   by_cases hc:c<;>by_cases hd:d<;>simp only [den,hc,hd,decide_true,decide_false,iff_self,iff_false,iff_true,not_true_eq_false]
   ·exact isB_ok b1
   ·exact isB_ok b2
   ·exact isB_ok b3
   ·exact isB_ok b4
  ·exact h.elim
 ·split at h
  ·rename_i hb
   simp only [Bool.and_eq_true]at hb
   obtain⟨⟨⟨b1,b2⟩,b3⟩,b4⟩:=hb
   refine⟨_,?_,h⟩
   by_cases hc:c<;>by_cases hd:d<;>simp only [den,hc,hd,decide_true,decide_false,iff_self,iff_false,iff_true,not_true_eq_false,not_false_eq_true]
   ·exact isB_ok b1
   ·exact isB_ok b2
   ·exact isB_ok b3
   ·exact isB_ok b4
  ·exact h.elim
 ·exact h.elim
omit [Env] in
theorem den_bool (N:Nat) (b:Bool):den N (.p (b=true))=.v (.bool b):=by cases b<;>simp [den]
omit [Env] in
theorem toList_iff {a b:ByteArray}:a.toList=b.toList↔a=b:=by
 rw [ByteArray.toList_eq,ByteArray.toList_eq]
 exact⟨fun h=>ByteArray.ext (Array.ext' h),fun h=>by rw [h]⟩
omit [Env] in
theorem wStr_ok {op:BinOp} {ty:TypeId} {a:ByteArray} {b:Value} {K:SV→Prop} (h:wStr P op ty a b K) (N:Nat):∃z,xBin P op ty (.v (.string a)) (.v b)=some (.val (den N z))∧K z:=by
 unfold wStr at h
 split at h
 ·split at h
  ·rename_i u
   refine⟨_,?_,h⟩
   have h2:psem P (binOp .eql ty (.string a) (.string u))=some (.bool (a.toList == u.toList)):=rfl
   have h3:psem P (eqGuard BinOp.eql ty (Operand.tmp 0) (Operand.tmp 0) (Value.string a) (Value.string u))=some ():=rfl
   simp only [xBin,fastV,xBinSlow,plain,h2,h3,ovalue,oneV,if_true,den]
   have e:(a.toList == u.toList)=@decide (a=u) (Classical.propDecidable _):=by
    rw [Bool.eq_iff_iff]
    simp only [beq_iff_eq,decide_eq_true_eq]
    exact toList_iff
   rw [e]
   cases @decide (a=u) (Classical.propDecidable _)<;>rfl
  ·exact h.elim
 ·split at h
  ·rename_i u
   refine⟨_,?_,h⟩
   have h2:psem P (binOp .neq ty (.string a) (.string u))=some (.bool (!(a.toList == u.toList))):=rfl
   have h3:psem P (eqGuard BinOp.neq ty (Operand.tmp 0) (Operand.tmp 0) (Value.string a) (Value.string u))=some ():=rfl
   simp only [xBin,fastV,xBinSlow,plain,h2,h3,ovalue,oneV,if_true,den]
   have e:(!(a.toList == u.toList))=@decide (¬ a=u) (Classical.propDecidable _):=by
    rw [Bool.eq_iff_iff]
    simp only [Bool.not_eq_true',beq_eq_false_iff_ne,ne_eq,decide_eq_true_eq]
    exact not_congr toList_iff
   rw [e]
   cases @decide (¬ a=u) (Classical.propDecidable _)<;>rfl
  ·exact h.elim
 ·split at h
  ·rename_i r hr
   exact⟨.v r,hr,h⟩
  ·exact h.elim
omit [Env] in
theorem wBin_ok {op:BinOp} {ty:TypeId} {x y:SV} {K:SV→Prop} (h:wBin P op ty x y K) (N:Nat) :
  ∃z,xBin2 P op ty (den N x) (den N y)=some (.val (den N z))∧K z:=by
 unfold wBin at h
 split at h
 ·rename_i a
  show ∃z,xBin P op ty (.v a) (den N y)=some (.val (den N z))∧K z
  split at h
  ·rename_i b
   split at h
   ·exact wStr_ok h N
   ·split at h
    ·rename_i r hr
     exact⟨.v r,hr,h⟩
    ·exact h.elim
  ·rename_i k b
   split at h
   ·rename_i j a
    obtain⟨h1,h2⟩:=wKinds_ok h
    exact wInt2_ok h1 h2 N
   ·exact h.elim
  ·rename_i d
   split at h
   ·rename_i b
    have:=wBool_ok h N
    rwa [den_bool]at this
   ·exact h.elim
  ·exact h.elim
 ·rename_i c
  show ∃z,xBin P op ty (den N (.p c)) (den N y)=some (.val (den N z))∧K z
  split at h
  ·exact wBool_ok h N
  ·rename_i b
   have:=wBool_ok h N
   rwa [den_bool]at this
  ·exact h.elim
 ·rename_i j a
  show ∃z,xBin P op ty (.v (.int j a)) (den N y)=some (.val (den N z))∧K z
  split at h
  ·rename_i k b
   obtain⟨h1,h2⟩:=wKinds_ok h
   exact wInt2_ok h1 h2 N
  ·rename_i k b
   obtain⟨h1,h2⟩:=wKinds_ok h
   exact wInt2_ok h1 h2 N
  ·exact h.elim
 ·rename_i xs
  split at h
  ·rename_i ys
   unfold wAgg at h
   split at h
   case h_1=>exact h.elim
   rename_i hg
   split at h
   case h_2=>exact h.elim
   rename_i ks hk
   show ∃z,xBinAgg P op ty (.agg (denL N xs)) (.agg (denL N ys))=some (.val (den N z))∧K z
   unfold xBinAgg
   split at h
   ·obtain⟨c,h1,h2⟩:=eqK_ok N h
    refine⟨_,?_,h2⟩
    simp only [hg,hk,sameK,keyCells,h1,den]
   ·obtain⟨c,h1,h2⟩:=eqK_ok N h
    refine⟨_,?_,h2⟩
    simp only [hg,hk,sameK,keyCells,h1,den]
    by_cases hc:c
    ·have e1:=@decide_eq_true c (Classical.propDecidable c) hc
     have e2:=@decide_eq_false (¬ c) (Classical.propDecidable _) (fun h=>h hc)
     rw [e1,e2]
    ·have e1:=@decide_eq_false c (Classical.propDecidable c) hc
     have e2:=@decide_eq_true (¬ c) (Classical.propDecidable _) hc
     rw [e1,e2]
   ·exact h.elim
  ·exact h.elim
 ·exact h.elim
end
end Go.Rv
namespace Go.Rv
open Go
section
variable [Env] {P:Program} {ev:Ev} {W:RW} {σ:SMem} {K:SV→Prop}
omit [Env] in
theorem lst_at {x:RV} {n sz:Nat} {elem:Nat→List SV} (hW:Sees W σ) (h:IsLst σ.B x n sz elem) {i:Nat} (hi:i < n) :
  ∃b o c,x=.sl b o n sz∧cellsAt σ.B b=some c∧cellsAt W b=some c∧(elem i).length=sz∧lcut c (o+i*sz) sz=some (denL σ.B.n (elem i)):=by
 rcases h with ⟨_,h⟩ | ⟨b,o,c,h1,h2,h3⟩
 ·omega
 ·obtain⟨h4,h5⟩:=h3.2 i hi
  exact⟨b,o,c,h1,h2,hW.base b c h2,h4,h5⟩
omit [Env] in
theorem lcut_lget {α:Type} {c l:List α} {o n f:Nat} (h:lcut c o n=some l) (hf:f < n):lget c (o+f)=lget l f:=by
 obtain⟨h1,rfl⟩:=lcut_spec h
 rw [lget_eq,lget_eq,List.getElem?_take,if_pos hf,List.getElem?_drop]
omit [Env] in
theorem lcut_lcut {α:Type} {c l:List α} {o n f k:Nat} (h:lcut c o n=some l) (hf:f+k≤n):lcut c (o+f) k=lcut l f k:=by
 obtain⟨h1,rfl⟩:=lcut_spec h
 rw [lcut_some (by omega),lcut_some (by simp; omega)]
 congr 1
 rw [List.drop_take,List.take_take,List.drop_drop]
 congr 1
 omega
omit [Env] in
theorem wLd1_ok {a:SV} (hW:Sees W σ) (h:wLd1 σ a K):∃x,xLd1 W (den σ.B.n a)=some (.val (den σ.B.n x))∧K x:=by
 unfold wLd1 at h
 split at h
 ·rename_i k o
  split at h
  ·rename_i c kd hk
   split at h
   ·rename_i x hx
    rw [fsv_eq]at h
    refine⟨x,?_,h⟩
    simp only [den,xLd1,hW.loc k c kd hk,lget_denL,hx,Option.map_some,oval]
   ·exact h.elim
  ·exact h.elim
 ·rename_i x n sz elem i f
  obtain⟨⟨h1,h2⟩,h3⟩:=h
  split at h3
  ·rename_i hf
   rw [blt_eq,decide_eq_true_eq]at hf
   split at h3
   ·rename_i y hy
    rw [fsv_eq]at h3
    obtain⟨b,o,c,rfl,_,hc,hl,hcut⟩:=lst_at hW h1 h2
    refine⟨y,?_,h3⟩
    simp only [den,xLd1,blkOf,offOf,hc,lcut_lget hcut hf,lget_denL,hy,Option.map_some,oval]
   ·exact h3.elim
  ·exact h3.elim
 ·rename_i k sz i f
  split at h
  ·rename_i n sz' e kd z hk
   split at h
   ·rename_i hb
    rw [Bool.and_eq_true,blt_eq,decide_eq_true_eq]at hb
    have:=Nat.eq_of_beq_eq_true hb.1
    subst this
    obtain⟨⟨hi⟩,h2⟩:=h
    have h3:=gRow_ok h2
    split at h3
    ·rename_i y hy
     rw [fsv_eq]at h3
     refine⟨y,?_,h3⟩
     rw [lget_eq]at hy
     simp only [den,xLd1,hW.rows k n sz e kd z hk (by omega),lget_eq,gcells_get hi hb.2,hy,Option.getD_some,oval]
    ·exact h3.elim
   ·exact h.elim
  ·exact h.elim
 ·exact h.elim
omit [Env] in
theorem wLdn_ok {a:SV} {n:Nat} (hW:Sees W σ) (h:wLdn σ n a K):∃x,xLdn W n (den σ.B.n a)=some (.val (den σ.B.n x))∧K x:=by
 unfold wLdn at h
 split at h
 ·rename_i k o
  split at h
  ·rename_i c kd hk
   split at h
   ·rename_i l hl
    refine⟨.agg l,?_,h⟩
    simp only [den,xLdn,hW.loc k c kd hk,lcut_denL _ hl]
   ·exact h.elim
  ·exact h.elim
 ·rename_i x m sz elem i f
  obtain⟨⟨h1,h2⟩,h3⟩:=h
  split at h3
  ·rename_i hf
   rw [Nat.ble_eq]at hf
   split at h3
   ·rename_i l hl
    obtain⟨b,o,c,rfl,_,hc,hlen,hcut⟩:=lst_at hW h1 h2
    refine⟨.agg l,?_,h3⟩
    simp only [den,xLdn,blkOf,offOf,hc,lcut_lcut hcut hf,lcut_denL _ hl]
   ·exact h3.elim
  ·exact h3.elim
 ·rename_i k sz i f
  split at h
  ·rename_i m sz' e kd z hk
   split at h
   ·rename_i hb
    simp only [Bool.and_eq_true,blt_eq,decide_eq_true_eq,Nat.ble_eq]at hb
    have:=Nat.eq_of_beq_eq_true hb.1
    subst this
    obtain⟨⟨hi⟩,h2⟩:=h
    have h3:=gRow_ok h2
    split at h3
    ·rename_i l hl
     refine⟨.agg l,?_,h3⟩
     simp only [den,xLdn,hW.rows k m sz e kd z hk (by omega),gcells_cut hi hb.2.1 hl]
    ·exact h3.elim
   ·exact h.elim
  ·exact h.elim
 ·exact h.elim
omit [Env] in
theorem gelOf_ok {σ:SMem} {a:SV} {K:SV→Prop} (h:gelOf σ a K):∃a',(∀N,den N a'=den N a)∧K a':=by
 unfold gelOf at h
 split at h
 ·rename_i k o
  split at h
  ·split at h
   ·rename_i sz _ _ _ _ _
    rw [fnat_eq,fnat_eq]at h
    refine⟨_,fun N=>?_,h⟩
    simp only [den]
    congr 1
    rw [Nat.mul_comm]
    exact Nat.div_add_mod _ _
   ·exact⟨_,fun _=>rfl,h⟩
  ·exact⟨_,fun _=>rfl,h⟩
 ·exact⟨_,fun _=>rfl,h⟩
theorem dec_load {ty:TypeId} {a:Operand} {t:List SV} {T:RT} (ho:okO a=true) (hT:TT σ.B.n t T) (hW:Sees W σ) (h:wLoad P ty σ (opS a t) K) :
  ∃op x,decLoad P ty a=some op∧op T W=some (.val (den σ.B.n x))∧K x:=by
 unfold wLoad at h
 unfold decLoad
 split at h
 ·rename_i i hg hi
  rw [hg,hi]
  obtain⟨a',ha,h⟩:=gelOf_ok h
  obtain⟨x,h1,h2⟩:=wLdn_ok hW h
  exact⟨_,x,with1_of ho,by simpa only [opd_S hT,← ha σ.B.n] using h1,h2⟩
 ·rename_i i hg hi
  rw [hg,hi]
  obtain⟨a',ha,h⟩:=gelOf_ok h
  obtain⟨x,h1,h2⟩:=wLd1_ok hW h
  exact⟨_,x,with1_of ho,by simpa only [opd_S hT,← ha σ.B.n] using h1,h2⟩
 ·exact h.elim
theorem dec_fieldAddr {s:TypeId} {f:Nat} {a:Operand} {t:List SV} {T:RT} (ho:okO a=true) (hT:TT σ.B.n t T) (h:wFieldAddr P s f (opS a t) K) :
  ∃op x,decFieldAddr P s a f=some op∧op T W=some (.val (den σ.B.n x))∧K x:=by
 unfold wFieldAddr at h
 unfold decFieldAddr
 split at h
 ·rename_i fields hu
  split at h
  ·rename_i fd hf
   split at h
   ·rename_i i hi
    split at h
    ·exact h.elim
    ·rename_i hz
     rw [hu]
     simp only [hf,hi,if_neg hz]
     unfold wFa at h
     split at h
     ·rename_i k o hk
      rw [fnat_eq]at h
      exact⟨_,_,with1_of ho,by simp only [opd_S hT,hk,den,xFa,fnat_eq],h⟩
     ·rename_i x n sz e i f hk
      rw [fnat_eq]at h
      refine⟨_,_,with1_of ho,?_,h⟩
      simp only [opd_S hT,hk,den,xFa,fnat_eq]
      congr 3
      omega
     ·rename_i k sz i f hk
      rw [fnat_eq]at h
      refine⟨_,_,with1_of ho,?_,h⟩
      simp only [opd_S hT,hk,den,xFa,fnat_eq]
      congr 3
      omega
     ·exact h.elim
   ·exact h.elim
  ·exact h.elim
 ·exact h.elim
omit [Env] in
theorem splN_ok {z:Int} {K:Nat→Prop}:∀ {n:Nat},splN z K n→∀j,j < n→z=(j:Nat)→K j
 | 0,_,j,hj,_=>by omega
 | n+1,h,j,hj,hz=>by
  by_cases e:j=n
  ·subst e; exact h.2 hz
  ·exact splN_ok h.1 j (by omega) hz
omit [Env] in
theorem splK_ok {z:Int} {n:Nat} {K:Nat→Prop} (h:splK z n K):∃j,j < n∧z=.ofNat j∧K j:=by
 unfold splK at h
 split at h
 ·obtain⟨⟨h1,h2⟩,h3⟩:=h
  obtain⟨j,rfl⟩:=Int.eq_ofNat_of_zero_le h1
  have h2':j < n:=h2
  exact⟨j,h2',rfl,splN_ok h3 j h2' rfl⟩
 ·exact h.elim
omit [Env] in
theorem wIxs_ok {size:Nat} {x i:SV} (hW:Sees W σ) (h:wIxs σ size x i K):∃y,xIxs size (den σ.B.n x) (den σ.B.n i)=some (.val (den σ.B.n y))∧K y:=by
 unfold wIxs at h
 split at h
 ·rename_i y n sz e
  split at h
  ·rename_i hs
   have hs':=Nat.eq_of_beq_eq_true hs
   subst hs'
   split at h
   ·rename_i k z
    obtain⟨⟨h1,h2,h3⟩,h4⟩:=h
    obtain⟨b,o,c,rfl,_,_,_,_⟩:=lst_at hW h3 h2
    obtain⟨j,rfl⟩:=Int.eq_ofNat_of_zero_le h1
    refine⟨_,?_,h4⟩
    have:(Nat.blt j n)=true:=by rw [blt_eq]; simpa using h2
    show(if Nat.blt j n then _ else _)=_
    rw [if_pos this]
    simp [den,blkOf,offOf]
   ·rename_i k j
    obtain⟨⟨h2,h3⟩,h4⟩:=h
    obtain⟨b,o,c,rfl,_,_,_,_⟩:=lst_at hW h3 h2
    refine⟨_,?_,h4⟩
    have:(Nat.blt j n)=true:=by rw [blt_eq]; simpa using h2
    show(if Nat.blt j n then _ else _)=_
    rw [if_pos this]
    simp [den,blkOf,offOf]
   ·exact h.elim
  ·exact h.elim
 ·rename_i k o n _
  split at h
  ·rename_i q j
   split at h
   ·rename_i hj
    rw [fnat_eq]at h
    refine⟨_,?_,h⟩
    show(if Nat.blt j n then _ else _)=_
    rw [if_pos hj]
    simp [den]
   ·exact h.elim
  ·obtain⟨j,hj,rfl,hs⟩:=splK_ok h
   rw [fnat_eq]at hs
   refine⟨_,?_,hs⟩
   show(if Nat.blt j n then _ else _)=_
   rw [if_pos (by rw [blt_eq,decide_eq_true_eq]; exact hj)]
   simp [den]
  ·exact h.elim
 ·rename_i k n sz z
  split at h
  ·rename_i hs
   have hs':=Nat.eq_of_beq_eq_true hs
   subst hs'
   split at h
   ·rename_i q z
    obtain⟨⟨h1,h2⟩,h4⟩:=h
    obtain⟨j,rfl⟩:=Int.eq_ofNat_of_zero_le h1
    refine⟨_,?_,h4⟩
    have h2':j < n:=by simpa using h2
    have:(Nat.blt j n)=true:=by rw [blt_eq]; simpa using h2'
    rw [show den σ.B.n (.gsl k n sz _)=.sl (σ.B.n+k) 0 n sz from if_neg (by omega)]
    show(if Nat.blt j n then _ else _)=_
    rw [if_pos this]
    simp [den]
   ·rename_i q j
    obtain⟨⟨h2⟩,h4⟩:=h
    refine⟨_,?_,h4⟩
    have:(Nat.blt j n)=true:=by rw [blt_eq]; simpa using h2
    rw [show den σ.B.n (.gsl k n sz _)=.sl (σ.B.n+k) 0 n sz from if_neg (by omega)]
    show(if Nat.blt j n then _ else _)=_
    rw [if_pos this]
    simp [den]
   ·exact h.elim
  ·exact h.elim
 ·exact h.elim
omit [Env] in
theorem wIxa_ok {σ:SMem} {len size:Nat} {x i:SV} {N:Nat} (h:wIxa σ len size x i K):∃y,xIxa len size (den N x) (den N i)=some (.val (den N y))∧K y:=by
 unfold wIxa at h
 split at h
 ·rename_i k o
  split at h
  ·rename_i q z
   split at h
   ·obtain⟨j,hj,rfl,hs⟩:=splK_ok h
    rw [fnat_eq]at hs
    refine⟨_,?_,hs⟩
    show(if Nat.blt j len then _ else _)=_
    rw [if_pos (by rw [blt_eq,decide_eq_true_eq]; exact hj)]
    simp [den]
   split at h
   ·obtain⟨⟨h1,h2⟩,h3⟩:=h
    refine⟨_,?_,h3⟩
    obtain⟨j,rfl⟩:=Int.eq_ofNat_of_zero_le h1
    have h2':j < len:=h2
    show(if Nat.blt j len then _ else _)=_
    rw [if_pos (by rw [blt_eq,decide_eq_true_eq]; exact h2')]
    simp [den,fnat_eq]
   ·exact h.elim
  ·rename_i q j
   split at h
   ·rename_i hj
    rw [fnat_eq]at h
    refine⟨_,?_,h⟩
    show(if Nat.blt j len then _ else _)=_
    rw [if_pos hj]
    simp [den]
   ·exact h.elim
  ·exact h.elim
 ·rename_i y n sz e r f
  split at h
  ·rename_i q j
   split at h
   ·rename_i hj
    rw [fnat_eq]at h
    refine⟨_,?_,h⟩
    show(if Nat.blt j len then _ else _)=_
    rw [if_pos hj]
    simp [den,Nat.add_assoc]
   ·exact h.elim
  ·obtain⟨j,hj,rfl,hs⟩:=splK_ok h
   rw [fnat_eq]at hs
   refine⟨_,?_,hs⟩
   show(if Nat.blt j len then _ else _)=_
   rw [if_pos (by rw [blt_eq,decide_eq_true_eq]; exact hj)]
   simp [den,Nat.add_assoc]
  ·exact h.elim
 ·rename_i k sz r f
  split at h
  ·rename_i q j
   split at h
   ·rename_i hj
    rw [fnat_eq]at h
    refine⟨_,?_,h⟩
    show(if Nat.blt j len then _ else _)=_
    rw [if_pos hj]
    simp [den,Nat.add_assoc]
   ·exact h.elim
  ·obtain⟨j,hj,rfl,hs⟩:=splK_ok h
   rw [fnat_eq]at hs
   refine⟨_,?_,hs⟩
   show(if Nat.blt j len then _ else _)=_
   rw [if_pos (by rw [blt_eq,decide_eq_true_eq]; exact hj)]
   simp [den,Nat.add_assoc]
  ·exact h.elim
 ·exact h.elim
theorem dec_indexAddr {ty:TypeId} {a b:Operand} {t:List SV} {T:RT} (ho:okO a=true) (ho2:okO b=true) (hT:TT σ.B.n t T) (hW:Sees W σ) (h:wIndexAddr P ty σ (opS a t) (opS b t) K) :
  ∃op x,decIndexAddr P ty a b=some op∧op T W=some (.val (den σ.B.n x))∧K x:=by
 unfold wIndexAddr at h
 unfold decIndexAddr
 split at h
 ·rename_i len e hu
  split at h
  ·rename_i inf hi
   rw [hu]
   simp only [hi]
   obtain⟨y,h1,h2⟩:=wIxa_ok h
   exact⟨_,y,with2_of ho ho2,by simpa only [opd_S hT] using h1,h2⟩
  ·exact h.elim
 ·rename_i e hu
  split at h
  ·rename_i inf hi
   rw [hu]
   simp only [hi]
   obtain⟨y,h1,h2⟩:=wIxs_ok hW h
   exact⟨_,y,with2_of ho ho2,by simpa only [opd_S hT] using h1,h2⟩
  ·exact h.elim
 ·exact h.elim
omit [Env] in
theorem wPart_ok {ty:TypeId} {off:Nat} {x:SV} {N:Nat} (h:wPart P ty off x K):∃g y,decPart P ty=some g∧g off (den N x)=some (.val (den N y))∧K y:=by
 unfold wPart at h
 unfold decPart
 split at h
 ·rename_i cs
  split at h
  ·rename_i i hg hi
   rw [hg,hi]
   split at h
   ·rename_i l hl
    exact⟨_,_,rfl,by simp only [den,xPartn,lcut_denL _ hl],h⟩
   ·exact h.elim
  ·rename_i i hg hi
   rw [hg,hi]
   split at h
   ·rename_i y hy
    rw [fsv_eq]at h
    exact⟨_,_,rfl,by simp only [den,xPart1,lget_denL,hy,Option.map_some,oval],h⟩
   ·exact h.elim
  ·exact h.elim
 ·exact h.elim
theorem dec_field {s:TypeId} {f:Nat} {a:Operand} {t:List SV} {T:RT} (ho:okO a=true) (hT:TT σ.B.n t T) (h:wField P s f (opS a t) K) :
  ∃op x,decField P s a f=some op∧op T W=some (.val (den σ.B.n x))∧K x:=by
 unfold wField at h
 unfold decField
 split at h
 ·rename_i fields hu
  split at h
  ·rename_i fd hf
   obtain⟨g,y,h1,h2,h3⟩:=wPart_ok (N:=σ.B.n) h
   rw [hu]
   simp only [hf,h1]
   exact⟨_,y,with1_of ho,by simpa only [opd_S hT] using h2,h3⟩
  ·exact h.elim
 ·exact h.elim
theorem dec_index {ty:TypeId} {a b:Operand} {t:List SV} {T:RT} (ho:okO a=true) (ho2:okO b=true) (hT:TT σ.B.n t T) (h:wIndex P ty (opS a t) (opS b t) K) :
  ∃op x,decIndex P ty a b=some op∧op T W=some (.val (den σ.B.n x))∧K x:=by
 unfold wIndex at h
 unfold decIndex
 split at h
 ·rename_i len e hu
  split at h
  ·rename_i inf hi
   split at h
   ·rename_i q j hj
    split at h
    ·rename_i hl
     rw [fnat_eq]at h
     obtain⟨g,y,h1,h2,h3⟩:=wPart_ok (N:=σ.B.n) h
     rw [hu]
     simp only [h1,hi]
     refine⟨_,y,with2_of ho ho2,?_,h3⟩
     simp only [opd_S hT,hj,den,xIxv]
     show(if Nat.blt j len then _ else _)=_
     rw [if_pos hl,fnat_eq]
     exact h2
    ·exact h.elim
   ·rename_i q z hz
    obtain⟨j,hj,rfl,hs⟩:=splK_ok h
    rw [fnat_eq]at hs
    obtain⟨g,y,h1,h2,h3⟩:=wPart_ok (N:=σ.B.n) hs
    rw [hu]
    simp only [h1,hi]
    refine⟨_,y,with2_of ho ho2,?_,h3⟩
    simp only [opd_S hT,hz,den,xIxv]
    show(if Nat.blt j len then _ else _)=_
    rw [if_pos (by rw [blt_eq,decide_eq_true_eq]; exact hj),fnat_eq]
    exact h2
   ·exact h.elim
  ·exact h.elim
 ·exact h.elim
theorem dec_un {op:UnOp} {a:Operand} {t:List SV} {T:RT} (hT:TT σ.B.n t T) (h:wUn P op (opS a t) K) :
  ∃x,xF1 P (Op.unary op) (opd a T)=some (.val (den σ.B.n x))∧K x:=by
 rw [opd_S hT]
 unfold wUn at h
 split at h
 ·rename_i b hb
  rw [hb]
  split at h
  ·rename_i r hr
   exact⟨.v r,hr,h⟩
  ·exact h.elim
 ·rename_i c hc
  rw [hc]
  split at h
  ·refine⟨_,?_,h⟩
   simp only [den,xF1,plain,Op.unary]
   show ovalue (some (Value.bool _))=_
   simp only [ovalue,oneV,if_true,fvalue_eq]
   exact valb (by rw [Bool.eq_iff_iff]; simp)
  ·exact h.elim
 ·rename_i k z hz
  rw [hz]
  split at h
  ·obtain⟨⟨h1⟩,h2⟩:=h
   refine⟨_,?_,h2⟩
   have hw:=inK_wrap (inK_of h1)
   simp only [den,xF1,plain,Op.unary,Op.intArith]
   show ovalue (some (Value.int k (k.wrap (0-z))))=_
   rw [hw]
   simp [ovalue,oneV]
  ·exact h.elim
 ·exact h.elim
omit [Env] in
theorem psem_bind {α β:Type} (s:Sem α) (f:α→Sem β):∀P,psem P (s >>= f)=(psem P s).bind fun a=>psem P (f a):=by
 intro P
 show psem P (s.bind f)=_
 induction s with
 | pure a=>rfl
 | program k ih=>exact ih P
 | _=>rfl
omit [Env] in
theorem psem_under {t:TypeId} {d:TypeDesc} (h:P.underlying t=some d):psem P (underlying t)=some d:=by
 unfold underlying
 rw [psem_bind]
 have:psem P program=some P:=rfl
 rw [this]
 simp only [Option.bind_some,h]
 rfl
omit [Env] in
theorem psem_conv {s d:TypeId} {j k l:IntKind} {z:Int} (hs:P.underlying s=some (.int j)) (hd:P.underlying d=some (.int k)):psem P (convert s d (.int l z))=some (.int k (k.wrap z)):=by
 unfold convert
 rw [psem_bind,psem_under hs,Option.bind_some,psem_bind,psem_under hd,Option.bind_some]
 rfl
theorem dec_conv {s d:TypeId} {a:Operand} {t:List SV} {T:RT} (ho:okO a=true) (hT:TT σ.B.n t T) (h:wConv P s d (opS a t) K) :
  ∃op x,decConvert P s d a=some op∧op T W=some (.val (den σ.B.n x))∧K x:=by
 unfold wConv at h
 split at h
 ·rename_i j k hs hd
  have hdec:decConvert P s d a=with1 a fun x a _=>xF1 P (convert s d) (x a):=by
   unfold decConvert
   rw [hs,hd]
  rw [hdec]
  split at h
  ·rename_i b hb
   split at h
   ·rename_i r hr
    exact⟨_,.v r,with1_of ho,by simpa only [opd_S hT,hb,den] using hr,h⟩
   ·exact h.elim
  ·rename_i l z hz
   split at h
   ·refine⟨_,_,with1_of ho,?_,h⟩
    simp only [opd_S hT,hz,den,xF1,plain,psem_conv hs hd,ovalue,oneV,if_true,fvalue_eq]
   ·obtain⟨⟨h1⟩,h2⟩:=h
    refine⟨_,_,with1_of ho,?_,h2⟩
    simp only [opd_S hT,hz,den,xF1,plain,psem_conv hs hd,inK_wrap (inK_of h1),ovalue,oneV,if_true,fvalue_eq]
  ·exact h.elim
 ·exact h.elim
omit [Env] in
theorem wLenS_ok {x:SV} (h:wLenS σ x K):∃y,xLenS (den σ.B.n x)=some (.val (den σ.B.n y))∧K y:=by
 unfold wLenS at h
 split at h
 ·rename_i y n sz e
  obtain⟨⟨h1⟩,h2⟩:=h
  refine⟨_,?_,h2⟩
  rcases h1 with ⟨rfl,rfl⟩ | ⟨b,o,c,rfl,_⟩
  ·rfl
  ·rfl
 ·exact⟨_,rfl,h⟩
 ·exact⟨_,rfl,h⟩
 ·rename_i k n sz z
  refine⟨_,?_,h⟩
  by_cases hz:z=true∧n=0
  ·rw [show den σ.B.n (.gsl k n sz z)=.v (.slice none 0 0)from if_pos hz,hz.2]
   rfl
  ·rw [show den σ.B.n (.gsl k n sz z)=.sl (σ.B.n+k) 0 n sz from if_neg hz]
   rfl
 ·exact h.elim
end
end Go.Rv
namespace Go.Rv
open Go
section
variable [Env] {P:Program} {ev:Ev} {W:RW} {σ:SMem} {K:SV→Prop}
def mm (mx:Bool) (a b:Int):Int:=match mx with
 | true=>max a b
 | false=>min a b
omit [Env] in
theorem foldMM_ok {mx:Bool} {k:IntKind}:∀ {xs:List SV} {a:Int} {K:SV→Prop},foldMM mx k xs a K→∃(zs:List Int) (z:Int),(∀N,denL N xs=zs.map fun z=>RV.v (.int k z))∧z=zs.foldl (mm mx) a∧K (.i k z)
 | [],a,K,h=>⟨[],a,fun _=>rfl,rfl,h⟩
 | x :: r,a,K,h=>by
  obtain⟨j,b,h1,h2⟩:=asInt_ok h
  split at h2
  ·rename_i hj _
   subst hj
   obtain⟨zs,z,h3,h4,h5⟩:=foldMM_ok h2
   refine⟨b :: zs,z,fun N=>by simp [denL,h1 N,h3 N],?_,h5⟩
   rw [h4]
   cases mx<;>rfl
  ·exact h2.elim
omit [Env] in
theorem plainL_ints (k:IntKind) (zs:List Int):plainL (zs.map fun z=>RV.v (.int k z))=some (zs.map fun z=>Value.int k z):=by
 induction zs with
 | nil=>rfl
 | cons z r ih =>
  show(match RV.v (.int k z)with | .v x=>Option.rec (motive:=fun _=>Option (List Value)) none (fun l=>some (x :: l)) (plainL (r.map fun z=>RV.v (.int k z))) | _=>none)=_
  rw [ih]
  rfl
omit [Env] in
theorem foldlM_ints (f:Value→Value→Sem Value) (g:Int→Int→Int) (k:IntKind) (hf:∀a b,psem P (f (.int k a) (.int k b))=some (.int k (g a b))) :
  ∀(zs:List Int) (a:Int),psem P ((zs.map fun z=>Value.int k z).foldlM f (.int k a))=some (.int k (zs.foldl g a))
 | [],a=>rfl
 | z :: r,a=>by
  rw [List.map_cons,List.foldlM_cons,psem_bind,hf,Option.bind_some]
  exact foldlM_ints f g k hf r _
omit [Env] in
theorem wMM_ok {mx:Bool} {tys:Array TypeId} {ty:TypeId} {xs:List SV} {N:Nat} (h:wMM mx xs K) :
  ∃y,xFl P (fun vs=>match mx with
   | true=>Builtin.max_ tys ty vs.toArray
   | false=>Builtin.min_ tys ty vs.toArray) (denL N xs)=some (.val (den N y))∧K y:=by
 unfold wMM at h
 split at h
 ·rename_i x r
  obtain⟨k,a,h1,h2⟩:=asInt_ok h
  obtain⟨zs,z,h3,h4,h5⟩:=foldMM_ok h2
  refine⟨_,?_,h5⟩
  have e:denL N (x :: r)=((a :: zs).map fun z=>RV.v (.int k z)):=by simp [denL,h1 N,h3 N]
  unfold xFl
  rw [e,plainL_ints]
  simp only
  have:psem P (match mx with
   | true=>Builtin.max_ tys ty (List.map (fun z=>Value.int k z) (a :: zs)).toArray
   | false=>Builtin.min_ tys ty (List.map (fun z=>Value.int k z) (a :: zs)).toArray)=some (.int k z):=by
   cases mx with
   | true =>
    simp only [Builtin.max_,List.map_cons]
    rw [h4]
    refine foldlM_ints Builtin.max2 (mm true) k ?_ zs a
    intro a b
    show some (Value.int k (if b > a then b else a))=_
    congr 2
    simp only [mm]
    omega
   | false =>
    simp only [Builtin.min_,List.map_cons]
    rw [h4]
    refine foldlM_ints Builtin.min2 (mm false) k ?_ zs a
    intro a b
    show some (Value.int k (if b < a then b else a))=_
    congr 2
    simp only [mm]
    omega
  rw [this]
  simp [ovalue,oneV,den]
 ·exact h.elim
omit [Env] in
theorem wCells_ok {x:SV} {K:List SV→Prop} (h:wCells x K):∃cs,(∀N,flatB (den N x)=true∧cellsOf (den N x)=denL N cs)∧K cs:=by
 cases x with
 | lst y n sz e =>
  obtain⟨⟨h1⟩,h2⟩:=h
  refine⟨_,fun N=>?_,h2⟩
  simp only [den,denL]
  cases y<;>simp_all [flatB,cellsOf,oneB]
 | agg cs=>exact⟨cs,fun N=>⟨rfl,rfl⟩,h⟩
 | v y =>
  unfold wCells at h
  simp only [cellsS]at h
  by_cases hy:oneV y=true
  ·rw [if_pos hy]at h
   exact⟨_,fun N=>⟨hy,rfl⟩,h⟩
  ·rw [if_neg hy]at h
   exact h.elim
 | i k z=>exact⟨_,fun N=>⟨rfl,rfl⟩,h⟩
 | p c=>exact⟨_,fun N=>⟨rfl,rfl⟩,h⟩
 | fv g ks=>exact⟨_,fun N=>⟨rfl,rfl⟩,h⟩
 | ptr k o=>exact⟨_,fun N=>⟨rfl,rfl⟩,h⟩
 | sl k o n e=>exact⟨_,fun N=>⟨rfl,rfl⟩,h⟩
 | elm y n sz e i f=>exact⟨_,fun N=>⟨rfl,rfl⟩,h⟩
 | gsl k n sz z =>
  refine⟨_,fun N=>?_,h⟩
  by_cases hz:z=true∧n=0
  ·simp only [denL,show den N (.gsl k n sz z)=.v (.slice none 0 0)from if_pos hz]
   exact⟨rfl,rfl⟩
  ·simp only [denL,show den N (.gsl k n sz z)=.sl (N+k) 0 n sz from if_neg hz]
   exact⟨rfl,rfl⟩
 | gel k sz i f=>exact⟨_,fun N=>⟨rfl,rfl⟩,h⟩
 | raw y=>exact h.elim
 | tup cs=>exact h.elim
 | rv y=>exact h.elim
 | yl k=>exact h.elim
 | bf g y=>exact⟨_,fun N=>⟨rfl,rfl⟩,h⟩
 | mp k=>exact⟨_,fun N=>⟨rfl,rfl⟩,h⟩
omit [Env] in
theorem fillS_ok {N:Nat}:∀ {parts:List (Nat×Nat×SV)} {cells:List SV} {K:List SV→Prop},fillS cells parts K→∃cs,fillR (denL N cells) (parts.map fun x=>(x.1,x.2.1,den N x.2.2))=some (denL N cs)∧K cs
 | [],cells,K,h=>⟨cells,rfl,h⟩
 | (off,size,x) :: r,cells,K,h=>by
  obtain⟨cs,h1,h2⟩:=wCells_ok h
  split at h2
  ·rename_i hl
   split at h2
   ·rename_i cells' hp
    obtain⟨cs',h3,h4⟩:=fillS_ok h2
    refine⟨cs',?_,h4⟩
    obtain⟨h5,h6⟩:=h1 N
    have h7:(denL N cs).length=cs.length:=by rw [denL_eq,List.length_map]
    simp only [List.map_cons,fillR,h5,h6,h7,hl,Bool.and_self,if_true,lput_denL N hp]
    exact h3
   ·exact h2.elim
  ·exact h2.elim
omit [Env] in
theorem zerosS_ok {i:TypeInfo} {z:List SV} (h:zerosS i=some z) (N:Nat):zeroCells i=some (denL N z):=by
 unfold zerosS at h
 unfold zeroCells
 split at h
 ·rename_i v hv
  rw [hv]
  simp only
  split at h
  ·rename_i ha
   rw [if_pos ha]
   simp only [Option.some.injEq]at h
   subst h
   rw [denL_eq,List.map_map]
   rfl
  ·simp at h
 ·simp at h
omit [Env] in
theorem zip_den {α:Type} (N:Nat) (f:α→Nat×Nat):∀(ps:List α) (xs:List SV),(ps.zipWith (fun p x=>((f p).1,(f p).2,x)) xs).map (fun x=>(x.1,x.2.1,den N x.2.2))=ps.zipWith (fun p x=>((f p).1,(f p).2,x)) (denL N xs)
 | [],_=>rfl
 | _ :: _,[]=>rfl
 | p :: ps,x :: xs=>by simp [denL,zip_den N f ps xs]
theorem dec_build {ty:TypeId} {parts:List (Nat×Operand)} {t:List SV} {T:RT} (hT:TT σ.B.n t T) (h:wBuild P ty parts t K) :
  ∃op x,decBuild P ty parts=some op∧op T W=some (.val (den σ.B.n x))∧K x:=by
 unfold wBuild at h
 unfold decBuild
 split at h
 ·rename_i ti hti
  split at h
  ·rename_i z hz
   rw [hti]
   simp only [zerosS_ok hz σ.B.n]
   split at h
   ·rename_i fields hu
    split at h
    ·rename_i places hpl
     split at h
     ·rename_i ps hps
      obtain⟨h1,h2⟩:=opsK_ok h
      obtain⟨cs,h3,h4⟩:=fillS_ok (N:=σ.B.n) h2
      rw [hu]
      simp only [hpl,hps]
      refine⟨_,.agg cs,withL_of h1,?_,h4⟩
      rw [zip_den σ.B.n (fun p:Nat×Nat=>p),← opds_S hT]at h3
      simp only [xBuild,h3,den]
     ·exact h.elim
    ·exact h.elim
   ·rename_i len e hu
    split at h
    ·rename_i i hi
     obtain⟨h1,h2⟩:=opsK_ok h
     obtain⟨cs,h3,h4⟩:=fillS_ok (N:=σ.B.n) h2
     rw [hu]
     simp only [hi]
     refine⟨_,.agg cs,withL_of h1,?_,h4⟩
     rw [zip_den σ.B.n (fun k:Nat=>(k*i.size,i.size)),← opds_S hT]at h3
     simp only [xBuild,h3,den]
    ·exact h.elim
   ·exact h.elim
  ·exact h.elim
 ·exact h.elim
omit [Env] in
theorem denL_app2 (N:Nat):∀a b:List SV,denL N (a++b)=denL N a++denL N b
 | [],_=>rfl
 | x :: r,b=>by simp only [List.cons_append,denL,denL_app2 N r b]
omit [Env] in
theorem denL_ptrs (N:Nat):∀ks:List Nat,denL N (ks.map fun k=>SV.ptr k 0)=ks.map fun k=>RV.ptr (N+k) 0
 | []=>rfl
 | k :: r=>by simp only [List.map_cons,denL,den,denL_ptrs N r]
omit [Env] in
theorem ptrsK_ok:∀ {xs:List SV} {K:List Nat→Prop},ptrsK xs K→∃ks,xs=ks.map (fun k=>SV.ptr k 0)∧K ks
 | [],K,h=>⟨[],rfl,h⟩
 | x :: r,K,h=>by
  unfold ptrsK at h
  split at h
  ·rename_i heq
   simp at heq
  ·rename_i k r' heq
   simp only [List.cons.injEq]at heq
   obtain⟨rfl,rfl⟩:=heq
   obtain⟨ks,rfl,h2⟩:=ptrsK_ok h
   exact⟨k :: ks,rfl,h2⟩
  ·exact h.elim
theorem wCall_ok {C:List Con} (hC:ConsOk P ev C) (hW:Sees W σ) {f:SV} {args:List SV} (h:wCall C σ f args K) :
  ∃x,callV P ev (den σ.B.n f) (denL σ.B.n args) W=some (den σ.B.n x,W)∧K x:=by
 unfold wCall at h
 split at h
 ·rename_i g a c
  split at h
  ·rename_i ha hc
   split at h
   ·rename_i con hcon
    obtain⟨h1,rfl⟩:=conOf_mem hcon
    obtain⟨x,h3,h4⟩:=hC con h1 args σ W _ hW h
    rw [fsv_eq]at h4
    refine⟨x,?_,h4⟩
    simp only [den,callV,ha,hc,List.all_nil,Bool.and_self,if_true,List.map_nil,List.nil_append,List.append_nil,h3]
   ·exact h.elim
  ·exact h.elim
 ·rename_i g ks
  split at h
  ·rename_i con hcon
   obtain⟨h1,rfl⟩:=conOf_mem hcon
   obtain⟨x,h3,h4⟩:=hC con h1 _ σ W _ hW h
   rw [fsv_eq]at h4
   refine⟨x,?_,h4⟩
   rw [denL_app2,denL_ptrs]at h3
   simp only [den,callV,List.nil_append,h3]
  ·exact h.elim
 ·exact h.elim
theorem dec_call {C:List Con} (hC:ConsOk P ev C) {c:Call} {ty:TypeId} {t:List SV} {T:RT} (hT:TT σ.B.n t T) (hW:Sees W σ) (h:wCallee P C σ c t K) :
  ∃op x,decCall P c ty=some op∧Gives P ev W (op T W) (den σ.B.n x)∧K x:=by
 unfold wCallee at h
 unfold decCall
 split at h
 ·rename_i f hf
  obtain⟨h1,h2⟩:=opsK_ok h
  simp only [List.map_cons]at h2
  obtain⟨x,h3,h4⟩:=wCall_ok hC hW h2
  simp only [hf]
  refine⟨_,x,withL_of h1,.inr ⟨_,_,?_,h3⟩,h4⟩
  show xCall (List.map (fun x=>opd x T) (f :: c.args.toList))=_
  rw [opds_S hT]
  rfl
 ·rename_i b hb
  split at h
  ·rename_i x ty' hargs htys
   obtain⟨h1,h2⟩:=op1_ok h
   unfold wLen at h2
   split at h2
   ·rename_i e hu
    obtain⟨y,h3,h4⟩:=wLenS_ok h2
    refine⟨fun t _=>xLenS (opd x t),y,?_,.inl ?_,h4⟩
    ·simp only [hb,hargs,decBuiltin,htys,decLen,hu]
     exact with1_of h1
    ·simpa only [opd_S hT] using h3
   ·exact h2.elim
  ·rename_i xs tys _ hargs
   obtain⟨h1,h2⟩:=opsK_ok h
   obtain⟨y,h3,h4⟩:=wMM_ok (P:=P) (tys:=c.argTypes) (ty:=ty) (N:=σ.B.n) h2
   refine⟨fun t _=>xFl P (fun vs=>Builtin.min_ c.argTypes ty vs.toArray) (c.args.toList.map fun x=>opd x t),y,?_,.inl ?_,h4⟩
   ·simp only [hb,decBuiltin]
    exact withL_of h1
   ·show xFl P _ (List.map (fun x=>opd x T) c.args.toList)=_
    rw [opds_S hT]
    exact h3
  ·rename_i xs tys _ hargs
   obtain⟨h1,h2⟩:=opsK_ok h
   obtain⟨y,h3,h4⟩:=wMM_ok (P:=P) (tys:=c.argTypes) (ty:=ty) (N:=σ.B.n) h2
   refine⟨fun t _=>xFl P (fun vs=>Builtin.max_ c.argTypes ty vs.toArray) (c.args.toList.map fun x=>opd x t),y,?_,.inl ?_,h4⟩
   ·simp only [hb,decBuiltin]
    exact withL_of h1
   ·show xFl P _ (List.map (fun x=>opd x T) c.args.toList)=_
    rw [opds_S hT]
    exact h3
  ·rename_i x ty' hargs htys
   obtain⟨h1,h2⟩:=op1_ok h
   unfold wCap at h2
   split at h2
   case h_2=>exact h2.elim
   rename_i e hu
   split at h2
   case h_2=>exact h2.elim
   rename_i hx
   refine⟨fun t _=>xCap (opd x t),_,?_,.inl ?_,h2⟩
   ·simp only [hb,hargs,decBuiltin,htys,decCap,hu]
    exact with1_of h1
   ·simp only [opd_S hT,hx,den,xCap]
  ·exact h.elim
 ·exact h.elim
omit [Env] in
theorem cut_lst {B:RW} {y:RV} {n sz l h:Nat} {e:Nat→List SV} (hl:IsLst B y n sz e) (h1:l≤h) (h2:h≤n):IsLst B (cutR y l h sz) (h-l) sz fun q=>e (l+q):=by
 rcases hl with ⟨rfl,h0⟩ | ⟨b,o,c,rfl,hc,ho,hall⟩
 ·exact .inl ⟨rfl,by omega⟩
 ·by_cases hh:l < n
  ·refine .inr ⟨b,o+l*sz,c,rfl,hc,?_,fun i hi=>?_⟩
   ·have:=(lcut_spec (hall l hh).2).1
    omega
   ·have:=hall (l+i) (by omega)
    refine⟨this.1,?_⟩
    rw [show o+l*sz+i*sz=o+(l+i)*sz by rw [Nat.add_mul]; omega]
    exact this.2
  ·have hln:l=n:=by omega
   subst hln
   by_cases hn:l=0
   ·subst hn
    refine .inr ⟨b,o+0*sz,c,rfl,hc,by omega,fun i hi=>by omega⟩
   ·have:=(lcut_spec (hall (l-1) (by omega)).2).1
    refine .inr ⟨b,o+l*sz,c,rfl,hc,?_,fun i hi=>by omega⟩
    have e1:l*sz=(l-1)*sz+sz:=by
     rw [← Nat.succ_mul]; congr 1; omega
    omega
omit [Env] in
theorem xSl_lst {y:RV} {n sz l h:Nat} {e:Nat→List SV} {lo hi:Option RV} (hW:Sees W σ) (hl:IsLst σ.B y n sz e) (h1:l≤h) (h2:h≤n) (h3:l < n∨l=0) (hlo:boundR lo 0=some l) (hhi:boundR hi n=some h) :
  xSlX W sz y lo hi=some (.val (cutR y l h sz)):=by
 rcases hl with ⟨rfl,h0⟩ | ⟨b,o,c,rfl,hc,ho,hall⟩
 ·subst h0
  have e1:l=0:=by omega
  have e2:h=0:=by omega
  subst e1 e2
  simp [xSlX,xSlN,hlo,hhi,cutR]
 ·have hlen:o+n*sz≤c.length:=by
   by_cases hn:n=0
   ·subst hn; omega
   ·have:=(lcut_spec (hall (n-1) (by omega)).2).1
    have e1:n*sz=(n-1)*sz+sz:=by
     rw [← Nat.succ_mul]; congr 1; omega
    omega
  simp only [xSlX,xSlS,hlo,hhi,hW.base b c hc,fnat_eq,cutR]
  have g1:(Nat.ble l h && Nat.ble h n && (Nat.blt l n || Nat.beq l 0) && Nat.beq sz sz)=true:=by
   simp only [Bool.and_eq_true,Bool.or_eq_true,Nat.ble_eq,blt_eq,decide_eq_true_eq,Nat.beq_refl,and_true]
   refine⟨⟨h1,h2⟩,?_⟩
   rcases h3 with h3 | h3
   ·exact .inl h3
   ·exact .inr (by rw [h3]; rfl)
  rw [if_pos g1,if_pos (by rw [Nat.ble_eq]; exact hlen)]
theorem opO_ok {x:Option Operand} {t:List SV} {K:Option SV→Prop} (h:opO x t K):okOO x=true∧K (x.map fun x=>opS x t):=by
 cases x with
 | none=>exact⟨rfl,h⟩
 | some x=>exact op1_ok h
omit [Env] in
theorem bound_nat {x:RV} {k:IntKind} {j:Int} {d:Nat} (h:x=.v (.int k j)) (h0:0≤j):boundR (some x) d=some j.toNat:=by
 subst h
 cases j with
 | negSucc q=>simp at h0
 | ofNat q=>rfl
theorem decSlice_eq {ty e:TypeId} {inf:TypeInfo} {x:Operand} {lo hi:Option Operand} (hu:P.underlying ty=some (.slice e)) (hi':P.info? e=some inf) (h0:0 < inf.size) (hx:okO x=true) (hlo:okOO lo=true) (hhi:okOO hi=true) :
  decSlice P ty x lo hi=some fun t W=>xSlX W inf.size (opd x t) ((lo.map opd).map fun f=>f t) ((hi.map opd).map fun f=>f t):=by
 unfold decSlice
 simp only [hu,hi']
 rw [if_pos h0]
 unfold withS
 simp only [hx,hlo,hhi,Bool.and_self,if_true]
theorem dec_slice {ty:TypeId} {x:Operand} {lo hi:Option Operand} {t:List SV} {T:RT} (hx:okO x=true) (hlo:okOO lo=true) (hhi:okOO hi=true) (hT:TT σ.B.n t T) (hW:Sees W σ) (hw:wSlS P ty σ (opS x t) (lo.map fun x=>opS x t) (hi.map fun x=>opS x t) K) :
  ∃op y,decSlice P ty x lo hi=some op∧op T W=some (.val (den σ.B.n y))∧K y:=by
 unfold wSlS at hw
 split at hw
 case h_2=>exact hw.elim
 rename_i e hu
 split at hw
 case h_2=>exact hw.elim
 rename_i inf hi'
 split at hw
 case h_2=>exact hw.elim
 rename_i h0
 have hdec:=decSlice_eq (P:=P) hu hi' (by simpa [blt_eq] using h0) hx hlo hhi
 have hol:((lo.map opd).map fun f=>f T)=(lo.map fun x=>opS x t).map (den σ.B.n):=by
  cases lo with
  | none=>rfl
  | some l=>simp only [Option.map_some,opd_S hT]
 have hoh:((hi.map opd).map fun f=>f T)=(hi.map fun x=>opS x t).map (den σ.B.n):=by
  cases hi with
  | none=>rfl
  | some l=>simp only [Option.map_some,opd_S hT]
 refine⟨fun t W=>xSlX W inf.size (opd x t) ((lo.map opd).map fun f=>f t) ((hi.map opd).map fun f=>f t),?_⟩
 have fin:∀y,xSlX W inf.size (den σ.B.n (opS x t)) ((lo.map fun x=>opS x t).map (den σ.B.n)) ((hi.map fun x=>opS x t).map (den σ.B.n))=some (.val (den σ.B.n y))→K y →
   ∃y,decSlice P ty x lo hi=some (fun t W=>xSlX W inf.size (opd x t) ((lo.map opd).map fun f=>f t) ((hi.map opd).map fun f=>f t))∧xSlX W inf.size (opd x T) ((lo.map opd).map fun f=>f T) ((hi.map opd).map fun f=>f T)=some (.val (den σ.B.n y))∧K y:=by
  intro y h1 h2
  exact⟨y,hdec,by rw [opd_S hT,hol,hoh]; exact h1,h2⟩
 obtain⟨lo',e1⟩:∃lo',(lo.map fun x=>opS x t)=lo':=⟨_,rfl⟩
 obtain⟨hi'',e2⟩:∃hi'',(hi.map fun x=>opS x t)=hi'':=⟨_,rfl⟩
 rw [e1,e2]at hw fin
 split at hw
 ·rename_i k n sz z hxo
  split at hw
  case h_2=>exact hw.elim
  split at hw
  case h_2=>exact hw.elim
  rename_i h
  split at hw
  case h_2=>exact hw.elim
  rename_i n' sz' el kd z' hg
  split at hw
  case h_2=>exact hw.elim
  rename_i hb
  simp only [Bool.and_eq_true]at hb
  obtain⟨hs1,hs2,hz⟩:=hb
  have hs1:=Nat.eq_of_beq_eq_true hs1
  have hs2:=Nat.eq_of_beq_eq_true hs2
  split at hw
  ·rename_i hzz
   simp only [Bool.or_eq_false_iff,Bool.not_eq_false']at hzz
   obtain⟨rfl,hzh⟩:=hzz
   split at hw
   case h_2=>exact hw.elim
   obtain⟨⟨hn⟩,hK⟩:=hw
   subst hn
   refine fin (.sl k 0 0 sz) ?_ hK
   have hc:=hW.alive k n sz' el kd false hg (by simp)
   unfold isZ at hzh
   split at hzh
   case h_2=>simp at hzh
   rw [hxo,show den σ.B.n (.gsl k n sz false)=.sl (σ.B.n+k) 0 n sz by simp [den]]
   simp only [Option.map_some,Option.map_none,den,xSlX,xSlS,boundR,hc,gcells_len]
   have g1:(Nat.ble 0 0 && Nat.ble 0 n && (Nat.blt 0 n || Nat.beq 0 0) && Nat.beq sz inf.size)=true:=by
    simp [hs1]
   have g2:Nat.ble (0+n*inf.size) (n*sz')=true:=by
    rw [Nat.ble_eq,hs2,hs1]; omega
   simp [hs1,hs2]
  obtain⟨kk,j,hj,hw⟩:=asInt_ok hw
  have body:n=n'∧0≤j∧j.toNat≤n→¬ (z=true∧n=0)→K (.gsl k j.toNat sz false)→_:=fun⟨hn,hj0,hjn⟩ hnz hK=>by
   subst hn
   refine fin (.gsl k j.toNat sz false) ?_ hK
   have hc:=hW.alive k n sz' el kd z' hg fun hz'=>by
    rcases Nat.eq_zero_or_pos n with h2 | h2
    ·exfalso
     apply hnz
     refine⟨?_,h2⟩
     rw [hz']at hz
     simpa using hz
    ·exact h2
   rw [hxo,show den σ.B.n (.gsl k n sz z)=.sl (σ.B.n+k) 0 n sz from if_neg hnz]
   simp only [Option.map_some,hj,xSlX,xSlS,boundR,Option.map_none]
   cases j with
   | negSucc q=>simp at hj0
   | ofNat q =>
    have hq:(Int.ofNat q).toNat=q:=rfl
    rw [hq]at hjn
    simp only [hc,fnat_eq,gcells_len,hq]
    have g1:(Nat.ble 0 q && Nat.ble q n && (Nat.blt 0 n || Nat.beq 0 0) && Nat.beq sz inf.size)=true:=by
     simp [hjn,hs1]
    have g2:Nat.ble (0+n*inf.size) (n*sz')=true:=by
     rw [Nat.ble_eq,hs2,hs1]; omega
    simp only [g1,if_true,g2,Nat.zero_mul,Nat.add_zero,Nat.sub_zero]
    rw [show den σ.B.n (.gsl k q sz false)=.sl (σ.B.n+k) 0 q sz by simp [den]]
  split at hw
  ·obtain⟨⟨h1⟩,hK⟩:=hw
   exact body h1 (by simp) hK
  ·by_cases hn0:n=0
   ·obtain⟨⟨h1⟩,hK⟩:=hw.1 hn0
    subst h1
    refine fin (.v (.slice none 0 0)) ?_ hK
    rw [hxo,show den σ.B.n (.gsl k n sz true)=.v (.slice none 0 0)from if_pos ⟨rfl,hn0⟩]
    simp only [Option.map_some,hj,xSlX,xSlN,boundR,Option.map_none]
    rfl
   ·obtain⟨⟨h1⟩,hK⟩:=hw.2 hn0
    exact body h1 (fun h=>hn0 h.2) hK
 ·rename_i y n sz el hxo
  split at hw
  case h_2=>exact hw.elim
  rename_i hsz
  have hsz:=Nat.eq_of_beq_eq_true hsz
  rw [hxo]at fin
  split at hw
  ·split at hw
   case h_2=>exact hw.elim
   rename_i h
   obtain⟨kk,j,hj,⟨⟨h1,h2,h3⟩⟩,hK⟩:=asInt_ok hw
   refine fin _ ?_ hK
   rw [← hsz]
   exact xSl_lst hW h1 (Nat.zero_le _) h3 (.inr rfl) rfl (by simp only [Option.map_some,hj]; exact bound_nat rfl h2)
  ·rename_i l
   obtain⟨ki,i,hi1,hw⟩:=asInt_ok hw
   split at hw
   ·rename_i h
    obtain⟨kk,j,hj,⟨⟨h1,h2,h3,h4,h5,h6⟩⟩,hK⟩:=asInt_ok hw
    refine fin _ ?_ hK
    rw [← hsz]
    exact xSl_lst hW h1 h3 h5 (by omega) (by simp only [Option.map_some,hi1]; exact bound_nat rfl h2) (by simp only [Option.map_some,hj]; exact bound_nat rfl h4)
   ·obtain⟨⟨h1,h2,h3,h6⟩,hK⟩:=hw
    refine fin _ ?_ hK
    rw [← hsz]
    exact xSl_lst hW h1 h3 (Nat.le_refl _) (by omega) (by simp only [Option.map_some,hi1]; exact bound_nat rfl h2) rfl
 ·rename_i hxo
  split at hw
  case h_2=>exact hw.elim
  split at hw
  case h_2=>exact hw.elim
  split at hw
  case h_2=>exact hw.elim
  rename_i h hzh
  refine fin (.v (.slice none 0 0)) ?_ hw
  unfold isZ at hzh
  split at hzh
  case h_2=>simp at hzh
  rw [hxo]
  rfl
 ·exact hw.elim
omit [Env] in
theorem den_p_true {c:Prop} {N:Nat} (h:c):den N (.p c)=.v (.bool true):=by
 simp only [den,@decide_eq_true c (Classical.propDecidable c) h]
omit [Env] in
theorem den_p_false {c:Prop} {N:Nat} (h:¬ c):den N (.p c)=.v (.bool false):=by
 simp only [den,@decide_eq_false c (Classical.propDecidable c) h]
omit [Env] in
theorem psem_bindS {α β:Type} (s:Sem α) (f:α→Sem β) {a:α} (h:psem P s=some a):psem P (s >>= f)=psem P (f a):=by
 induction s with
 | pure x=>simp only [psem,Option.some.injEq]at h; subst h; rfl
 | program k ih=>exact ih P h
 | _=>simp [psem]at h
omit [Env] in
theorem psem_underS {ty:TypeId} {d:TypeDesc} (hu:P.underlying ty=some d):psem P (underlying ty)=some d:=by
 have h:psem P program=some P:=rfl
 unfold underlying
 rw [psem_bindS _ _ h]
 simp only [hu]
 rfl
omit [Env] in
theorem nil_equal {ty e:TypeId} (hu:P.underlying ty=some (.slice e)):psem P (Op.equal ty (.slice none 0 0) (.slice none 0 0))=some true:=by
 show psem P (Op.equalIn (9999+1) ty (.slice none 0 0) (.slice none 0 0))=some true
 unfold Op.equalIn
 rw [psem_bindS _ _ (psem_underS hu)]
 rfl
omit [Env] in
theorem xBin_nil_eql {ty e:TypeId} (hu:P.underlying ty=some (.slice e)):xBin2 P .eql ty (.v (.slice none 0 0)) (.v (.slice none 0 0))=some (.val (.v (.bool true))):=by
 have h2:psem P (binOp .eql ty (.slice none 0 0) (.slice none 0 0))=some (.bool true):=by
  show psem P (Op.equal ty (.slice none 0 0) (.slice none 0 0) >>= fun b=>pure (Value.bool b))=_
  rw [psem_bindS _ _ (nil_equal hu)]
  rfl
 have h3:psem P (eqGuard BinOp.eql ty (Operand.tmp 0) (Operand.tmp 0) (Value.slice none 0 0) (Value.slice none 0 0))=some ():=rfl
 simp only [xBin2,xBin,fastV,xBinSlow,plain,h2,h3,ovalue]
 rfl
omit [Env] in
theorem xBin_nil_neq {ty e:TypeId} (hu:P.underlying ty=some (.slice e)):xBin2 P .neq ty (.v (.slice none 0 0)) (.v (.slice none 0 0))=some (.val (.v (.bool false))):=by
 have h2:psem P (binOp .neq ty (.slice none 0 0) (.slice none 0 0))=some (.bool false):=by
  show psem P (Op.equal ty (.slice none 0 0) (.slice none 0 0) >>= fun b=>pure (Value.bool (!b)))=_
  rw [psem_bindS _ _ (nil_equal hu)]
  rfl
 have h3:psem P (eqGuard BinOp.neq ty (Operand.tmp 0) (Operand.tmp 0) (Value.slice none 0 0) (Value.slice none 0 0))=some ():=rfl
 simp only [xBin2,xBin,fastV,xBinSlow,plain,h2,h3,ovalue]
 rfl
omit [Env] in
theorem isNilS_ok {y:SV} (h:isNilS y=true) (N:Nat):den N y=.v (.slice none 0 0):=by
 unfold isNilS at h
 split at h
 ·rfl
 ·simp at h
omit [Env] in
theorem isSliceT_ok {ty:TypeId} (h:isSliceT P ty=true):∃e,P.underlying ty=some (.slice e):=by
 unfold isSliceT at h
 split at h
 ·rename_i e he
  exact⟨e,he⟩
 ·simp at h
omit [Env] in
theorem wNil_yes {op:BinOp} {ty:TypeId} {c:Prop} {x:RV} (hx:x=.v (.slice none 0 0)) (hc:c) (hu:∃e,P.underlying ty=some (.slice e)) (h:wNil op c K) (N:Nat):∃z,xBin2 P op ty x (.v (.slice none 0 0))=some (.val (den N z))∧K z:=by
 subst hx
 obtain⟨e,hu⟩:=hu
 unfold wNil at h
 split at h
 ·refine⟨_,?_,h⟩
  rw [den_p_true hc]
  exact xBin_nil_eql hu
 ·refine⟨_,?_,h⟩
  rw [den_p_false (fun hn=>hn hc)]
  exact xBin_nil_neq hu
 ·exact h.elim
omit [Env] in
theorem wNil_no {op:BinOp} {ty:TypeId} {c:Prop} {b o n e:Nat} (hc:¬ c) (hu:∃e,P.underlying ty=some (.slice e)) (h:wNil op c K) (N:Nat):∃z,xBin2 P op ty (.sl b o n e) (.v (.slice none 0 0))=some (.val (den N z))∧K z:=by
 obtain⟨e,hu⟩:=hu
 unfold wNil at h
 split at h
 ·refine⟨_,?_,h⟩
  rw [den_p_false hc]
  simp only [xBin2,xBinNil,hu]
 ·refine⟨_,?_,h⟩
  rw [den_p_true hc]
  simp only [xBin2,xBinNil,hu]
 ·exact h.elim
omit [Env] in
theorem wBinS_ok {op:BinOp} {ty:TypeId} {x y:SV} (h:wBinS P op ty σ x y K):∃z,xBin2 P op ty (den σ.B.n x) (den σ.B.n y)=some (.val (den σ.B.n z))∧K z:=by
 unfold wBinS at h
 split at h
 ·rename_i r n sz e
  split at h
  ·rename_i hc
   simp only [Bool.and_eq_true]at hc
   obtain⟨⟨hl⟩,h⟩:=h
   rw [isNilS_ok hc.1]
   have hu:=isSliceT_ok hc.2
   simp only [den]
   by_cases hr:r=.v (.slice none 0 0)
   ·exact wNil_yes hr hr hu h _
   ·rcases hl with ⟨hl,_⟩ | ⟨b,o,c,rfl,_⟩
    ·exact absurd hl hr
    ·exact wNil_no hr hu h _
  ·exact h.elim
 ·rename_i k n sz z
  split at h
  ·rename_i hc
   simp only [Bool.and_eq_true]at hc
   rw [isNilS_ok hc.1]
   have hu:=isSliceT_ok hc.2
   split at h
   ·by_cases hn:n=0
    ·simp only [den,hn,and_self,if_true]
     exact wNil_yes rfl hn hu h _
    ·simp only [den,hn,and_false,if_false]
     exact wNil_no hn hu h _
   ·simp only [den,Bool.false_eq_true,false_and,if_false]
    exact wNil_no id hu h _
  ·exact h.elim
 ·exact wBin_ok h _
omit [Env] in
theorem same_i64 (z k:Int):sameK false [0] (.v (.int .i64 z)) (.v (.int .i64 k))=some (decide (z=k)):=by
 simp only [sameK,keyCells,sameKey,sameC,if_true,leB_eq,Bool.and_true]
 congr 1
 rw [Bool.eq_iff_iff]
 simp only [Bool.and_eq_true,decide_eq_true_eq]
 omega
omit [Env] in
theorem selK_ok {N:Nat} {z:Int}:∀ {ks:List Int} {c:List SV} {i j:Nat},selK z K ks c→∃q x,scanR false [0] (.v (.int .i64 z)) (mapEs N i ks c) j=some (some (q,den N x))∧K x
 | k :: ks,x :: c,i,j,h=>by
  unfold mapEs scanR
  rw [same_i64]
  by_cases e:z=k
  ·have h1:=h.1 e
   rw [fsv_eq]at h1
   simp only [e,decide_true]
   exact⟨j,x,rfl,h1⟩
  ·simp only [e,decide_false]
   exact selK_ok (h.2 e)
 | [],_,_,_,h=>by simp [selK]at h
 | _ :: _,[],_,_,h=>by simp [selK]at h
omit [Env] in
theorem isIntMap_ok {ty:TypeId} (h:isIntMap P ty=true):∃kt e i z,P.underlying ty=some (.map kt e)∧P.info? e=some i∧keyKinds P kt=some (false,[0])∧i.zero=some z∧flatV z=true:=by
 unfold isIntMap at h
 split at h
 case h_2=>simp at h
 rename_i kt e hu
 split at h
 case h_2=>simp at h
 rename_i i hi hk
 split at h
 case h_2=>simp at h
 rename_i z hz
 exact⟨kt,e,i,z,hu,hi,hk,hz,h⟩
theorem dec_look {ty:TypeId} {a b:Operand} {t:List SV} {T:RT} (ho:okO a=true) (ho2:okO b=true) (hT:TT σ.B.n t T) (hW:Sees W σ) (h:wLook P ty σ (opS a t) (opS b t) K) :
  ∃op x,decLookup P ty a b=some op∧op T W=some (.val (den σ.B.n x))∧K x:=by
 unfold wLook at h
 split at h
 case h_2=>exact h.elim
 rename_i hm
 obtain⟨kt,e,i,z,h1,h2,h3,h4,h5⟩:=isIntMap_ok hm
 split at h
 case h_2=>exact h.elim
 rename_i bk hb
 split at h
 case h_2=>exact h.elim
 rename_i ks c ro hg
 obtain⟨j,n,hn,h6⟩:=asInt_ok h
 split at h6
 case h_2=>exact h6.elim
 rename_i hj _
 subst hj
 obtain⟨q,x,h7,h8⟩:=selK_ok (N:=σ.B.n) (i:=0) (j:=0) h6
 obtain⟨ro',hw⟩:=hW.maps _ _ _ _ hg
 refine⟨fun t W=>xLk W false [0] (ofValue z) (opd a t) (opd b t),x,?_,?_,h8⟩
 ·unfold decLookup
  simp only [h1,h2,h3,h4,if_pos h5]
  exact with2_of ho ho2
 ·have hf:findKeyR false [0] (.v (.int .i64 n)) (mapEs σ.B.n 0 ks c)=some (some (q,den σ.B.n x)):=by
   unfold findKeyR
   rw [same_i64]
   simp only [decide_true]
   exact h7
  simp only [opd_S hT,hb,hn,den,xLk,mapAt,hw,hf]
theorem wVal_ok {C:List Con} (hC:ConsOk P ev C) {o:Oper} {t:List SV} {T:RT} (hT:TT σ.B.n t T) (hW:Sees W σ) (h:wVal P C o.op t σ K) :
  ∃op x,decOp P o=some op∧Gives P ev W (op T W) (den σ.B.n x)∧K x:=by
 unfold wVal at h
 unfold decOp
 split at h<;>rename_i hop<;>(try rw [hop])<;>(try simp only)
 ·obtain⟨h1,h2⟩:=op1_ok h
  exact⟨_,_,with1_of h1,.inl (by simp only [frv_eq,opd_S hT]),h2⟩
 ·obtain⟨h1,h2⟩:=op1_ok h
  exact⟨_,_,with1_of h1,.inl (by simp only [frv_eq,opd_S hT]),h2⟩
 ·obtain⟨h1,h2⟩:=op1_ok h
  obtain⟨h3,h4⟩:=op1_ok h2
  obtain⟨h5,h6⟩:=op1_ok h4
  split at h6
  ·rename_i hc
   exact⟨_,_,with3_of h1 h3 h5,.inl (by simp only [opd_S hT,hc,den,xPick]),h6⟩
  ·rename_i hc
   exact⟨_,_,with3_of h1 h3 h5,.inl (by simp only [opd_S hT,hc,den,xPick]),h6⟩
  ·rename_i q hc
   by_cases hq:q
   ·refine⟨_,_,with3_of h1 h3 h5,.inl ?_,h6.1 hq⟩
    simp only [opd_S hT,hc,den,@decide_eq_true q (Classical.propDecidable q) hq,xPick]
   ·refine⟨_,_,with3_of h1 h3 h5,.inl ?_,h6.2 hq⟩
    simp only [opd_S hT,hc,den,@decide_eq_false q (Classical.propDecidable q) hq,xPick]
  ·exact h6.elim
 ·obtain⟨h1,h2⟩:=op1_ok h
  obtain⟨op,x,h3,h4,h5⟩:=dec_load h1 hT hW h2
  exact⟨op,x,h3,.inl h4,h5⟩
 ·obtain⟨h1,h2⟩:=op1_ok h
  split at h2
  ·rename_i k o hk
   exact⟨_,_,with1_of h1,.inl (by simp only [opd_S hT,hk,den,xNilc]),h2⟩
  ·rename_i hk
   exact⟨_,_,with1_of h1,.inl (by simp only [opd_S hT,hk,den,xNilc]),h2⟩
  ·rename_i hk
   exact⟨_,_,with1_of h1,.inl (by simp only [opd_S hT,hk,den,xNilc]),h2⟩
  ·exact h2.elim
 ·obtain⟨h1,h2⟩:=op1_ok h
  obtain⟨op,x,h3,h4,h5⟩:=dec_fieldAddr (W:=W) h1 hT h2
  exact⟨op,x,h3,.inl h4,h5⟩
 ·obtain⟨h1,h2⟩:=op1_ok h
  obtain⟨h3,h4⟩:=op1_ok h2
  obtain⟨op,x,h5,h6,h7⟩:=dec_indexAddr h1 h3 hT hW h4
  exact⟨op,x,h5,.inl h6,h7⟩
 ·obtain⟨h1,h2⟩:=op1_ok h
  obtain⟨h3,h4⟩:=op1_ok h2
  obtain⟨op,x,h5,h6,h7⟩:=dec_index (W:=W) h1 h3 hT h4
  exact⟨op,x,h5,.inl h6,h7⟩
 ·obtain⟨h1,h2⟩:=op1_ok h
  obtain⟨op,x,h5,h6,h7⟩:=dec_field (W:=W) h1 hT h2
  exact⟨op,x,h5,.inl h6,h7⟩
 ·obtain⟨h1,h2⟩:=op1_ok h
  unfold wExt at h2
  split at h2
  ·rename_i cs hcs
   split at h2
   ·rename_i y hy
    rw [fsv_eq]at h2
    exact⟨_,y,with1_of h1,.inl (by simp only [opd_S hT,hcs,den,xExt,lget_denL,hy,Option.map_some,oval]),h2⟩
   ·exact h2.elim
  ·exact h2.elim
 ·obtain⟨h1,h2⟩:=op1_ok h
  obtain⟨h3,h4⟩:=op1_ok h2
  obtain⟨z,h5,h6⟩:=wBinS_ok h4
  exact⟨_,z,with2_of h1 h3,.inl (by simpa only [opd_S hT] using h5),h6⟩
 ·obtain⟨h1,h2⟩:=op1_ok h
  obtain⟨z,h5,h6⟩:=dec_un hT h2
  exact⟨_,z,with1_of h1,.inl h5,h6⟩
 ·obtain⟨h1,h2⟩:=op1_ok h
  obtain⟨op,x,h3,h4,h5⟩:=dec_conv (W:=W) h1 hT h2
  exact⟨op,x,h3,.inl h4,h5⟩
 ·obtain⟨op,x,h3,h4,h5⟩:=dec_build (W:=W) hT h
  exact⟨op,x,h3,.inl h4,h5⟩
 ·rename_i f first caps
  split at h
  ·rename_i g hfirst
   obtain⟨h1,h2⟩:=opsK_ok h
   obtain⟨ks,h3,h4⟩:=ptrsK_ok h2
   refine⟨fun t _=>some (.val (.fn (.func g) (first.toList.map fun x=>opd x t) (caps.toList.map fun x=>opd x t))),_,?_,.inl ?_,h4⟩
   ·simp only
    rw [if_pos h1]
    exact withL_of (by rw [hfirst]; rfl)
   ·show some (Eff.val (RV.fn (.func g) (first.toList.map fun x=>opd x T) (caps.toList.map fun x=>opd x T)))=_
    rw [opds_S hT (xs:=caps.toList),h3,denL_ptrs,hfirst]
    rfl
  ·rename_i g x hfirst
   split at h
   case h_2=>exact h.elim
   rename_i hcaps
   obtain⟨h1,h2⟩:=op1_ok h
   refine⟨fun t _=>some (.val (.fn (.func g) (first.toList.map fun x=>opd x t) (caps.toList.map fun x=>opd x t))),_,?_,.inl ?_,h2⟩
   ·simp only
    rw [if_pos (by rw [hcaps]; rfl)]
    exact withL_of (by rw [hfirst]; simp [h1])
   ·show some (Eff.val (RV.fn (.func g) (first.toList.map fun x=>opd x T) (caps.toList.map fun x=>opd x T)))=_
    rw [hfirst,hcaps]
    simp only [List.map_cons,List.map_nil,opd_S hT,den]
  ·exact h.elim
 ·obtain⟨h1,h2⟩:=op1_ok h
  obtain⟨h3,h4⟩:=op1_ok h2
  obtain⟨op,x,h5,h6,h7⟩:=dec_look h1 h3 hT hW h4
  exact⟨op,x,h5,.inl h6,h7⟩
 ·exact dec_call hC hT hW h
 ·obtain⟨h1,h2⟩:=op1_ok h
  obtain⟨h3,h4⟩:=opO_ok h2
  obtain⟨h5,h6⟩:=opO_ok h4
  obtain⟨op,x,h7,h8,h9⟩:=dec_slice h1 h3 h5 hT hW h6
  exact⟨op,x,h7,.inl h8,h9⟩
 ·exact h.elim
end
end Go.Rv
namespace Go.Rv
open Go
structure SMem.Wf (σ:SMem):Prop where
 len:σ.L.length=σ.n
theorem rw_eta (B:RW):(⟨B.n,B.l⟩:RW)=B:=by cases B; rfl
theorem denM_get {σ:SMem} (h:σ.Wf) (b:Nat):σ.den.get b=if b < σ.B.n then σ.B.get b else (σ.get (b-σ.B.n)).map (denO σ.B.n):=by
 unfold SMem.den
 have hl:σ.n=(σ.L.map (denO σ.B.n)).length:=by rw [List.length_map,h.len]
 have:=get_over (A:=σ.L.map (denO σ.B.n)) (B:=σ.B.l) (L:=σ.B.n) b
 rw [← hl]at this
 rw [this,rw_eta]
 by_cases hb:b < σ.B.n
 ·rw [if_pos hb,if_pos hb]
 ·rw [if_neg hb,if_neg hb]
  unfold SMem.get
  rw [blt_eq,lget_eq]
  by_cases hk:b-σ.B.n < σ.n
  ·simp only [hk,decide_true,if_true]
   rw [List.getElem?_reverse (by rw [← hl]; exact hk),← hl,List.getElem?_map]
  ·simp only [hk,decide_false,Bool.false_eq_true,if_false,Option.map_none]
   rw [List.getElem?_eq_none (by rw [List.length_reverse,← hl]; omega)]
theorem sees_den {σ:SMem} (h:σ.Wf):Sees σ.den σ:=by
 refine⟨rfl,?_,?_,?_,?_⟩
 rotate_right
 ·intro k ks c ro hk
  refine⟨ro,?_⟩
  rw [denM_get h,if_neg (by omega),Nat.add_sub_cancel_left,hk]
  rfl
 rotate_right
 ·intro k n sz e kd z hk hz
  unfold cellsAt
  rw [denM_get h,if_neg (by omega),Nat.add_sub_cancel_left,hk]
  simp only [Option.map_some,denO]
  rw [if_neg (by rintro⟨h1,h2⟩; have:=hz h1; omega)]
 ·intro k c kd hk
  unfold cellsAt
  rw [denM_get h,if_neg (by omega),Nat.add_sub_cancel_left,hk]
  rfl
 ·intro b c hb
  have hlt:=cellsAt_lt hb
  unfold cellsAt at hb ⊢
  rw [denM_get h,if_pos hlt]
  exact hb
theorem pushK_ok {σ:SMem} {o:SObj} {K:Nat→SMem→Prop} (h:pushK σ o K):K σ.n ⟨σ.B,σ.n+1,o :: σ.L⟩:=by
 cases σ
 simp only [pushK,fnat_eq]at h
 exact h
theorem den_push (σ:SMem) (o:SObj):(⟨σ.B,σ.n+1,o :: σ.L⟩:SMem).den=σ.den.push (denO σ.B.n o):=by
 simp [SMem.den,RW.push,Nat.add_assoc]
theorem lset_some {α:Type} {l:List α} {i:Nat} (y:α) (h:i < l.length):lset l i y=some (l.set i y):=by
 induction l generalizing i with
 | nil=>simp at h
 | cons x r ih=>cases i with
  | zero=>rfl
  | succ i =>
   have h2:=ih (i:=i) (by simpa using h)
   show Option.rec (motive:=fun _=>Option (List α)) none (fun r'=>some (x :: r')) (lset r i y)=_
   rw [h2]; rfl
theorem setK_ok {σ:SMem} {k:Nat} {o:SObj} {K:SMem→Prop} (hw:σ.Wf) (h:setK σ k o K):∃σ',σ.den.set (σ.B.n+k) (denO σ.B.n o)=some σ'.den∧σ'.B=σ.B∧σ'.Wf∧K σ':=by
 obtain⟨B,n,L⟩:=σ
 have hl:L.length=n:=hw.len
 unfold setK at h
 simp only at h
 split at h
 ·rename_i hk
  rw [blt_eq,decide_eq_true_eq]at hk
  split at h
  ·rename_i L' hL
   obtain⟨h1,h2⟩:=lset_spec _ _ _ hL
   refine⟨⟨B,n,L'⟩,?_,rfl,⟨by subst h2; simpa using hl⟩,h⟩
   show RW.set ⟨B.n+n,L.map (denO B.n)++B.l⟩ (B.n+k) (denO B.n o)=some ⟨B.n+n,L'.map (denO B.n)++B.l⟩
   have e:Nat.blt (B.n+k) (B.n+n)=true:=by rw [blt_eq]; simpa using hk
   rw [RW.set_eq]
   show(if Nat.blt (B.n+k) (B.n+n)=true then _ else _)=_
   rw [if_pos e]
   show(match lset (L.map (denO B.n)++B.l) (B.n+n-1-(B.n+k)) (denO B.n o)with
    | some l=>some (⟨B.n+n,l⟩:RW)
    | none=>none)=_
   rw [show B.n+n-1-(B.n+k)=n-1-k by omega,lset_some _ (by simp; omega)]
   subst h2
   simp only
   congr 2
   rw [List.set_append_left _ _ (by simpa using h1),List.map_set]
  ·exact h.elim
 ·exact h.elim
section
variable [Env] {P:Program} {ev:Ev} {σ:SMem}
omit [Env] in
theorem denL_repl (N:Nat) (l:List SV):∀n,denL N (replS n l)=repl n (denL N l)
 | 0=>rfl
 | n+1=>by
  show denL N (l++replS n l)=denL N l++repl n (denL N l)
  rw [← denL_repl N l n,denL_eq,denL_eq,denL_eq,List.map_append]
omit [Env] in
theorem denL_len (N:Nat) (l:List SV):(denL N l).length=l.length:=by rw [denL_eq,List.length_map]
omit [Env] in
theorem alive_get {σ:SMem} (hw:σ.Wf) {k n sz:Nat} {e:El} {kd:Kd} {z:Bool} (hk:σ.get k=some (.gr n sz e kd z)) (hz:z=true→0 < n):σ.den.get (σ.B.n+k)=some (.cells (gcells σ.B.n n sz e) kd):=by
 rw [denM_get hw,if_neg (by omega),Nat.add_sub_cancel_left,hk]
 simp only [Option.map_some,denO]
 rw [if_neg (by rintro⟨h1,h2⟩; have:=hz h1; omega)]
def setAll {α:Type} (l:List α):Nat→List α→List α
 | _,[]=>l
 | o,y :: r=>setAll (l.set o y) (o+1) r
omit [Env] in
theorem lput_setAll {α:Type}:∀ {ys l:List α} {o:Nat},o+ys.length≤l.length→lput l o ys=some (setAll l o ys)
 | [],l,o,h=>by
  rw [lput_some h]
  simp [setAll]
 | y :: r,l,o,h=>by
  have hlen:o+(r.length+1)≤l.length:=by simpa using h
  have ih:=lput_setAll (ys:=r) (l:=l.set o y) (o:=o+1) (by simp; omega)
  rw [lput_some (by simp; omega)]at ih
  rw [lput_some h]
  show _=some (setAll (l.set o y) (o+1) r)
  rw [← ih]
  congr 1
  have ho:o < l.length:=by omega
  apply List.ext_getElem?
  intro q
  simp only [List.append_assoc,List.getElem?_append,List.length_take,List.getElem?_take,List.getElem?_drop,List.length_cons,List.length_set,List.getElem?_set]
  rw [Nat.min_eq_left (by omega),Nat.min_eq_left (by omega)]
  by_cases h1:q < o
  ·rw [if_pos h1,if_pos h1,if_pos (by omega),if_pos (by omega),if_neg (by omega)]
  ·rw [if_neg h1]
   by_cases h2:q=o
   ·subst h2
    rw [if_pos (by omega),if_pos (by omega),if_pos rfl,if_pos ho,if_pos (by omega)]
    simp
   ·by_cases h3:q-o < r.length+1
    ·rw [if_pos h3,if_neg (by omega),if_pos (by omega)]
     rw [show q-o=(q-(o+1))+1 by omega,List.getElem?_cons_succ]
    ·rw [if_neg h3,if_neg (by omega),if_neg (by omega),if_neg (by omega)]
     congr 1
     omega
omit [Env] in
theorem gcells_upd {N n sz j f:Nat} {e:El} {x:SV} (_:j < n) (hf:f < sz) (hl:(e.at j).length=sz):gcells N n sz (.upd e j f x)=(gcells N n sz e).set (j*sz+f) (den N x):=by
 apply List.ext_getElem?
 intro q
 rw [List.getElem?_set,gcells_len]
 by_cases hq:q < n*sz
 ·have hsz:0 < sz:=by omega
  have e1:q=q / sz*sz+q % sz:=by rw [Nat.mul_comm]; exact(Nat.div_add_mod q sz).symm
  have hi:q / sz < n:=Nat.div_lt_of_lt_mul (by rw [Nat.mul_comm]; exact hq)
  have hm:q % sz < sz:=Nat.mod_lt _ hsz
  have hg:∀e:El,(gcells N n sz e)[q]?=some (den N (((e.at (q / sz))[q % sz]?).getD (.v (.bool false)))):=by
   intro e
   have:=gcells_get (N:=N) (e:=e) hi hm
   rwa [← e1]at this
  rw [hg,hg]
  simp only [El.at]
  by_cases he:j*sz+f=q
  ·have h1:q / sz=j:=by
    rw [← he,Nat.mul_comm,Nat.mul_add_div (by omega),Nat.div_eq_of_lt hf]; omega
   have h2:q % sz=f:=by
    rw [← he,Nat.mul_comm,Nat.mul_add_mod,Nat.mod_eq_of_lt hf]
   rw [if_pos he,if_pos (show j*sz+f < n*sz by omega),h1,h2,if_pos rfl,List.getElem?_set,if_pos rfl,if_pos (by omega)]
   rfl
  ·rw [if_neg he]
   by_cases h1:q / sz=j
   ·have h2:f≠q % sz:=by
     intro h2
     apply he
     rw [h2,← h1]
     exact e1.symm
    rw [if_pos h1,List.getElem?_set,if_neg h2]
   ·rw [if_neg h1]
 ·have h0:∀e:El,(gcells N n sz e)[q]?=none:=fun e=>List.getElem?_eq_none (by rw [gcells_len]; omega)
  rw [h0,h0]
  split
  ·rw [if_neg (show ¬ j*sz+f < n*sz by omega)]
  ·rfl
omit [Env] in
theorem gcells_updL {N n sz j:Nat}:∀ {cs:List SV} {e:El} {f:Nat},j < n→f+cs.length≤sz→(e.at j).length=sz→gcells N n sz (updL e j f cs)=setAll (gcells N n sz e) (j*sz+f) (denL N cs)
 | [],e,f,hj,hf,hl=>rfl
 | x :: r,e,f,hj,hf,hl=>by
  have hf':f+(r.length+1)≤sz:=by simpa using hf
  have ih:=gcells_updL (N:=N) (n:=n) (sz:=sz) (j:=j) (cs:=r) (e:=.upd e j f x) (f:=f+1) hj (by omega) (by simp [El.at,hl])
  rw [gcells_upd hj (by omega) hl]at ih
  exact ih
omit [Env] in
theorem updL_at {j q:Nat}:∀ {cs:List SV} {e:El} {f:Nat},(updL e j f cs).at q=if q=j then setAll (e.at j) f cs else e.at q
 | [],e,f=>by
  simp only [updL,setAll]
  split
  ·rename_i h
   rw [h]
  ·rfl
 | x :: r,e,f=>by
  simp only [updL,setAll,updL_at (cs:=r) (e:=.upd e j f x) (f:=f+1),El.at,if_true]
  split
  ·rfl
  ·rfl
omit [Env] in
theorem gcells_all {N n sz:Nat} {e e':El} (h:∀i,e.at i=e'.at i):gcells N n sz e=gcells N n sz e':=by
 unfold gcells
 simp only [h]
omit [Env] in
theorem updK_ok {N n sz j f:Nat} {cs:List SV} {e:El} {K:El→Prop} (h:updK e j f cs K):∃e',gcells N n sz e'=gcells N n sz (updL e j f cs)∧K e':=by
 unfold updK at h
 split at h
 ·rename_i r i c
  split at h
  ·rename_i c' hc
   obtain⟨⟨rfl⟩,h⟩:=h
   refine⟨_,gcells_all fun q=>?_,h⟩
   rw [updL_at]
   simp only [El.at,if_true]
   split
   ·have hb:=(lput_spec _ _ _ hc).1
    rw [lput_setAll hb]at hc
    exact(Option.some.inj hc).symm
   ·rfl
  ·exact h.elim
 ·exact⟨_,rfl,h⟩
omit [Env] in
theorem gcells_rows {N n sz o:Nat} {e:El} {c:List RV} (ho:o≤c.length) (h:∀i,i < n→(e.at i).length=sz∧lcut c (o+i*sz) sz=some (denL N (e.at i))):lcut c o (n*sz)=some (gcells N n sz e):=by
 have hlen:o+n*sz≤c.length:=by
  cases n with
  | zero=>simpa using ho
  | succ n =>
   have h1:=(lcut_spec (h n (by omega)).2).1
   rw [Nat.add_mul,Nat.one_mul]
   omega
 rw [lcut_some hlen]
 congr 1
 apply List.ext_getElem?
 intro q
 rw [List.getElem?_take]
 by_cases hq:q < n*sz
 ·have hsz:0 < sz:=by
   cases sz with
   | zero=>simp at hq
   | succ k=>omega
  have e1:q=q / sz*sz+q % sz:=by rw [Nat.mul_comm]; exact(Nat.div_add_mod q sz).symm
  have hi:q / sz < n:=Nat.div_lt_of_lt_mul (by rw [Nat.mul_comm]; exact hq)
  have hm:q % sz < sz:=Nat.mod_lt _ hsz
  have hg:=gcells_get (N:=N) (e:=e) hi hm
  rw [← e1]at hg
  obtain⟨h1,h2⟩:=h _ hi
  have h3:=lcut_lget h2 hm
  rw [lget_eq,lget_eq,Nat.add_assoc,← e1]at h3
  rw [if_pos hq,hg,List.getElem?_drop,h3,denL_eq,List.getElem?_map,List.getElem?_eq_getElem (by omega)]
  rfl
 ·rw [if_neg hq,List.getElem?_eq_none (by rw [gcells_len]; omega)]
omit [Env] in
theorem gcells_congr {N n sz:Nat} {a b:El} (h:∀i,i < n→a.at i=b.at i):gcells N n sz a=gcells N n sz b:=by
 unfold gcells
 apply List.map_congr_left
 intro q hq
 have hq':q < n*sz:=by simpa using hq
 rw [h (q / sz) (Nat.div_lt_of_lt_mul (by rw [Nat.mul_comm]; exact hq'))]
omit [Env] in
theorem gcells_cat (N n m sz:Nat) (a b:El):gcells N (n+m) sz (.cat a n b)=gcells N n sz a++gcells N m sz b:=by
 apply List.ext_getElem?
 intro q
 rw [List.getElem?_append,gcells_len]
 by_cases hsz:sz=0
 ·subst hsz
  simp [gcells]
 ·have e1:q=q / sz*sz+q % sz:=by rw [Nat.mul_comm]; exact(Nat.div_add_mod q sz).symm
  have hm:q % sz < sz:=Nat.mod_lt _ (by omega)
  by_cases hq:q < n*sz
  ·have hi:q / sz < n:=Nat.div_lt_of_lt_mul (by rw [Nat.mul_comm]; exact hq)
   have h1:=gcells_get (N:=N) (e:=.cat a n b) (n:=n+m) (i:=q / sz) (by omega) hm
   have h2:=gcells_get (N:=N) (e:=a) hi hm
   rw [← e1]at h1 h2
   rw [if_pos hq,h1,h2]
   simp only [El.at,if_pos hi]
  ·have hi:¬ q / sz < n:=by
    intro hi
    have:=row_lt hi hm
    omega
   rw [if_neg hq]
   by_cases hq2:q < (n+m)*sz
   ·have hi2:q / sz < n+m:=Nat.div_lt_of_lt_mul (by rw [Nat.mul_comm]; exact hq2)
    have h1:=gcells_get (N:=N) (e:=.cat a n b) (n:=n+m) hi2 hm
    have e2:q-n*sz=(q / sz-n)*sz+q % sz:=by
     rw [Nat.sub_mul]
     have:n*sz≤q / sz*sz:=Nat.mul_le_mul_right sz (by omega)
     omega
    have h2:=gcells_get (N:=N) (e:=b) (n:=m) (i:=q / sz-n) (by omega) hm
    rw [← e1]at h1
    rw [← e2]at h2
    rw [h1,h2]
    simp only [El.at,if_neg hi]
   ·rw [List.getElem?_eq_none (by rw [gcells_len]; omega),List.getElem?_eq_none (by rw [gcells_len]; rw [Nat.add_mul]at hq2; omega)]
omit [Env] in
theorem gcells_behind (N n m sz:Nat) (a b:El):gcells N (n+m) sz (behind n a m b)=gcells N n sz a++gcells N m sz b:=by
 unfold behind
 split
 ·split
  ·rename_i e cs
   rw [← gcells_cat]
   apply gcells_congr
   intro i hi
   simp only [El.at]
   by_cases h:i < n
   ·rw [if_pos h,if_pos h]
   ·rw [if_neg h,if_neg h,if_neg (by omega)]
  ·exact gcells_cat ..
 ·exact gcells_cat ..
omit [Env] in
theorem symL_den (N:Nat):∀l:List SV,denL N (symL l)=denL N l
 | []=>rfl
 | x :: r=>by
  have h:den N (symI x)=den N x:=by
   unfold symI
   split
   ·rfl
   ·rename_i b
    cases b<;>simp [den]
   ·rfl
  simp only [symL,denL,h,symL_den N r]
omit [Env] in
theorem symL_len:∀l:List SV,(symL l).length=l.length
 | []=>rfl
 | x :: r=>by simp [symL,symL_len r]
omit [Env] in
theorem litEl_at {c:List SV} {sz:Nat}:∀ {m i:Nat},litOk c sz m=true→i < m→lcut c (i*sz) sz=some ((litEl c sz m).at i)
 | 0,i,h,hi=>by omega
 | m+1,i,h,hi=>by
  simp only [litOk]at h
  split at h
  ·rename_i l hl
   simp only [litEl,hl,El.at]
   by_cases him:i < m
   ·rw [if_pos him]; exact litEl_at h him
   ·rw [if_neg him,show i=m by omega]; exact hl
  ·simp at h
omit [Env] in
theorem asEl_ok {size:Nat} {x:SV} {K:Bool→Nat→El→Prop} (hw:σ.Wf) (h:asEl σ size x K):∃l n e,sliceCells σ.den size (den σ.B.n x)=some (n,gcells σ.B.n n size e)∧K l n e:=by
 have hnil:∀e:El,([]:List RV)=gcells σ.B.n 0 size e:=fun e=>by simp [gcells]
 unfold asEl at h
 split at h
 ·exact⟨_,_,_,by rw [← hnil]; rfl,h⟩
 ·rename_i y n sz e
  split at h
  ·rename_i hs
   have hs':=Nat.eq_of_beq_eq_true hs
   subst hs'
   obtain⟨⟨h1⟩,h2⟩:=h
   refine⟨_,_,_,?_,h2⟩
   rcases h1 with ⟨rfl,rfl⟩ | ⟨b,o,c,rfl,hc,ho,hh⟩
   ·rw [← hnil]; rfl
   ·have hc':=(sees_den hw).base b c hc
    simp only [den,sliceCells,if_true,hc',gcells_rows (e:=.fn e) ho hh]
  ·exact h.elim
 ·rename_i k n sz
  split at h
  ·rename_i hs
   have hs':=Nat.eq_of_beq_eq_true hs
   subst hs'
   split at h
   ·rename_i c kd hk
    split at h
    ·rename_i hb
     simp only [Bool.and_eq_true,Nat.ble_eq]at hb
     rw [fnat_eq]at h
     refine⟨_,_,_,?_,h⟩
     have hc':=(sees_den hw).loc k c kd hk
     have hcut:lcut (denL σ.B.n c) 0 (n*sz)=some (gcells σ.B.n n sz (litEl (symL c) sz n)):=by
      rw [← symL_den σ.B.n c]
      refine gcells_rows (Nat.zero_le _) fun i hi=>?_
      have h3:=litEl_at hb.2 hi
      refine⟨?_,?_⟩
      ·obtain⟨h4,h5⟩:=lcut_spec h3
       rw [h5]
       simp
       omega
      ·rw [Nat.zero_add]
       exact lcut_denL _ h3
     simp only [den,sliceCells,if_true,hc',hcut]
    ·exact h.elim
   ·rename_i n' sz' e' kd hk
    split at h
    ·refine⟨_,_,_,?_,h⟩
     have hc':=(sees_den hw).alive k n' sz' e' kd false hk (by simp)
     simp only [den,sliceCells,if_true,hc',Nat.zero_mul]
     rw [← hnil]
     rfl
    ·exact h.elim
   ·exact h.elim
  ·exact h.elim
 ·rename_i k n sz z
  split at h
  ·rename_i hs
   have hs':=Nat.eq_of_beq_eq_true hs
   subst hs'
   split at h
   ·rename_i n' sz' e kd z' hk
    split at h
    ·rename_i hb
     rw [Bool.and_eq_true]at hb
     have hs':=Nat.eq_of_beq_eq_true hb.1
     subst hs'
     obtain⟨⟨rfl,hrow⟩,h2⟩:=h
     refine⟨_,_,_,?_,h2⟩
     by_cases hd:z=true∧n'=0
     ·rw [show den σ.B.n (.gsl k n' sz' z)=.v (.slice none 0 0)from if_pos hd,hd.2,← hnil]
      rfl
     ·have hz':z'=true→0 < n':=by
       intro e
       subst e
       have:z=true:=by simpa using hb.2
       have:n'≠0:=fun e=>hd ⟨this,e⟩
       omega
      have hc:=(sees_den hw).alive k n' sz' e kd z' hk hz'
      rw [show den σ.B.n (.gsl k n' sz' z)=.sl (σ.B.n+k) 0 n' sz' from if_neg hd]
      simp only [sliceCells,if_true,hc,lcut_full (gcells_len σ.B.n n' sz' e)]
    ·exact h.elim
   ·exact h.elim
  ·exact h.elim
 ·exact h.elim
omit [Env] in
theorem set_self {W W':RW} {b:Nat} {o:RObj} (h:W.get b=some o) (hs:W.set b o=some W'):W'=W:=by
 have hlt:=get_lt h
 rw [RW.set_eq]at hs
 rw [if_pos (by rw [blt_eq]; simpa using hlt)]at hs
 split at hs
 ·rename_i l hl
  obtain⟨h1,h2⟩:=lset_spec _ _ _ hl
  simp only [Option.some.injEq]at hs
  subst hs h2
  have hg:W.l[W.n-1-b]?=some o:=by
   unfold RW.get at h
   rw [blt_eq,lget_eq]at h
   simpa [hlt] using h
  have:W.l.set (W.n-1-b) o=W.l:=by
   apply List.ext_getElem?
   intro q
   rw [List.getElem?_set]
   split
   ·rename_i hq
    subst hq
    simp only [hg]
   ·rfl
  rw [this]
 ·simp at hs
omit [Env] in
theorem spentS_ok {q size:Nat} {x:SV} {K:SMem→Prop} (hw:σ.Wf) (h:spentS σ q size x K):∃σ',spent σ.den size q (den σ.B.n x)=some σ'.den∧σ'.B=σ.B∧σ'.Wf∧K σ':=by
 unfold spentS at h
 split at h
 ·exact⟨σ,rfl,rfl,hw,h⟩
 ·rename_i k o n e
  split at h
  ·rename_i c kd hk
   have hg:σ.den.get (σ.B.n+k)=some (.cells (denL σ.B.n c) kd):=by
    rw [denM_get hw,if_neg (by omega),Nat.add_sub_cancel_left,hk]; rfl
   split at h
   ·obtain⟨σ',h1,h2,h3,h4⟩:=setK_ok hw h
    refine⟨σ',?_,h2,h3,h4⟩
    simp only [den,spent,hg]
    exact h1
   ·obtain⟨⟨h1⟩,h2⟩:=h
    refine⟨σ,?_,rfl,hw,h2⟩
    simp only [den,spent,hg,denL_len]
    rw [if_pos (by rw [blt_eq]; simpa using h1)]
   ·exact h.elim
   ·exact h.elim
  ·rename_i n' sz' e' hk
   obtain⟨σ',h1,h2,h3,h4⟩:=setK_ok hw h
   refine⟨σ',?_,h2,h3,h4⟩
   have hg:σ.den.get (σ.B.n+k)=some (.cells (gcells σ.B.n n' sz' e') .gr):=by
    rw [denM_get hw,if_neg (by omega),Nat.add_sub_cancel_left,hk]
    simp [denO]
   simp only [den,spent,hg]
   exact h1
  ·exact h.elim
 ·rename_i k m sz0 z
  split at h
  ·rename_i m' sz e kd z' hk
   have key:∀ {K':SMem→Prop},kd=.gr→m'=m→z=z'→setK σ k .dead K'→∃σ',spent σ.den size q (den σ.B.n (.gsl k m sz0 z))=some σ'.den∧σ'.B=σ.B∧σ'.Wf∧K' σ':=by
    rintro K' rfl rfl rfl h
    obtain⟨σ',h1,h2,h3,h4⟩:=setK_ok hw h
    refine⟨σ',?_,h2,h3,h4⟩
    by_cases hd:z=true∧m'=0
    ·rw [show den σ.B.n (.gsl k m' sz0 z)=.v (.slice none 0 0)from if_pos hd]
     have hg:σ.den.get (σ.B.n+k)=some .dead:=by
      rw [denM_get hw,if_neg (by omega),Nat.add_sub_cancel_left,hk]
      simp only [Option.map_some,denO]
      rw [if_pos hd]
     rw [set_self hg h1]
     rfl
    ·rw [show den σ.B.n (.gsl k m' sz0 z)=.sl (σ.B.n+k) 0 m' sz0 from if_neg hd]
     have hg:=alive_get hw hk fun e=>by
      have:m'≠0:=fun e2=>hd ⟨e,e2⟩
      omega
     simp only [spent,hg]
     exact h1
   split at h
   ·obtain⟨⟨hm⟩,h⟩:=h
    split at h
    ·exact key rfl hm rfl h
    ·exact key rfl hm rfl h
    ·exact h.elim
   ·split at h
    ·obtain⟨⟨rfl,hlt⟩,h2⟩:=h
     refine⟨σ,?_,rfl,hw,h2⟩
     rw [show den σ.B.n (.gsl k m' sz0 false)=.sl (σ.B.n+k) 0 m' sz0 by simp only [den]; rw [if_neg (by simp)]]
     have hg:=alive_get hw hk (by simp)
     simp only [spent,hg,gcells_len]
     rw [if_pos (by rw [blt_eq]; simpa using hlt)]
    ·exact h.elim
   ·exact h.elim
   ·split at h
    ·obtain⟨⟨rfl,hlt⟩,h2⟩:=h
     refine⟨σ,?_,rfl,hw,h2⟩
     by_cases h0:m'=0
     ·rw [show den σ.B.n (.gsl k m' sz0 true)=.v (.slice none 0 0)from if_pos ⟨rfl,h0⟩]
      rfl
     ·rw [show den σ.B.n (.gsl k m' sz0 true)=.sl (σ.B.n+k) 0 m' sz0 from if_neg (by omega)]
      have hg:=alive_get hw hk (by omega)
      simp only [spent,hg,gcells_len]
      rw [if_pos (by rw [blt_eq]; simpa using hlt)]
    ·obtain⟨⟨rfl,hlt⟩,h2⟩:=h
     refine⟨σ,?_,rfl,hw,h2⟩
     rw [show den σ.B.n (.gsl k m' sz0 false)=.sl (σ.B.n+k) 0 m' sz0 by simp only [den]; rw [if_neg (by simp)]]
     have hg:=alive_get hw hk (by simp)
     simp only [spent,hg,gcells_len]
     rw [if_pos (by rw [blt_eq]; simpa using hlt)]
    ·exact h.elim
  ·exact h.elim
 ·exact h.elim
omit [Env] in
theorem repl_len (l:List RV):∀n,(repl n l).length=n*l.length
 | 0=>by simp [repl]
 | n+1=>by simp [repl,repl_len l n,Nat.add_mul,Nat.add_comm]
omit [Env] in
theorem repl_cut {l:List RV} {sz:Nat} (hl:l.length=sz):∀n i,i < n→lcut (repl n l) (i*sz) sz=some l
 | n+1,i,hi=>by
  have hlen:=repl_len l (n+1)
  rw [hl]at hlen
  have h1:i*sz+sz≤(n+1)*sz:=by
   have:=Nat.mul_le_mul_right sz (show i+1≤n+1 by omega)
   rw [Nat.add_mul,Nat.one_mul]at this
   exact this
  rw [lcut_some (by omega)]
  congr 1
  cases i with
  | zero =>
   simp only [repl,Nat.zero_mul,List.drop_zero]
   rw [← hl,List.take_left]
  | succ i =>
   have ih:=repl_cut hl n i (by omega)
   have hlen2:=repl_len l n
   rw [hl]at hlen2
   have h2:i*sz+sz≤n*sz:=by
    have:=Nat.mul_le_mul_right sz (show i+1≤n by omega)
    rw [Nat.add_mul,Nat.one_mul]at this
    exact this
   rw [lcut_some (by omega)]at ih
   have ih:=Option.some.inj ih
   simp only [repl]
   rw [Nat.add_mul,Nat.one_mul,Nat.add_comm,← List.drop_drop,← hl,List.drop_left,hl]
   exact ih
omit [Env] in
theorem symK_ok:∀ {l:List SV} {K:List SV→Prop},symK l K→∃l',(∀N,denL N l'=denL N l)∧K l'
 | [],K,h=>⟨[],fun _=>rfl,h⟩
 | x :: r,K,h=>by
  have key:∀x',(∀N,den N x'=den N x)→(symK r fun r=>K (x' :: r))→∃l',(∀N,denL N l'=denL N (x :: r))∧K l':=fun x' hx h2=>by
   obtain⟨l',h3,h4⟩:=symK_ok h2
   exact⟨_,fun N=>by simp only [denL,hx N,h3 N],h4⟩
  unfold symK at h
  split at h
  ·split at h
   ·rename_i k z
    exact key (.i k z) (fun _=>rfl) h
   ·rename_i b
    exact key (.p (b=true)) (fun N=>by cases b<;>simp [den]) h
   ·exact key _ (fun _=>rfl) h
  ·exact key _ (fun _=>rfl) h
omit [Env] in
theorem gcells_repl (N n sz:Nat) {z:List SV} (hz:z.length=sz):repl n (denL N z)=gcells N n sz (.fn fun _=>z):=by
 have hl:(denL N z).length=sz:=by rw [denL_len]; exact hz
 have h1:lcut (repl n (denL N z)) 0 (n*sz)=some (gcells N n sz (.fn fun _=>z)):=gcells_rows (Nat.zero_le _) fun i hi=>⟨hz,by
  rw [Nat.zero_add]
  exact repl_cut hl n i hi⟩
 have h2:=repl_len (denL N z) n
 rw [hl]at h2
 rw [← h2,lcut_full rfl]at h1
 exact Option.some.inj h1
theorem wAppend_ok {o:Oper} {tt tx:TypeId} {s x:Operand} {t:List SV} {T:RT} {K:SV→SMem→Prop} (ho:appOf o.op=some (tt,tx,s,x)) (hT:TT σ.B.n t T) (hw:σ.Wf)
  (h:op1 s t fun s=>op1 x t fun x=>wAppend P tt tx s x σ K) :
  ∃op x σ',decOp P o=some op∧effR P ev (op T σ.den) σ.den=some (den σ.B.n x,σ'.den)∧σ'.B=σ.B∧σ'.Wf∧K x σ':=by
 obtain⟨h1,h⟩:=op1_ok h
 obtain⟨h2,h⟩:=op1_ok h
 unfold appOf at ho
 split at ho
 case h_2=>simp at ho
 rename_i c hop
 split at ho
 case h_2=>simp at ho
 rename_i hcal
 split at ho
 case h_2=>simp at ho
 rename_i s' x' t' tx' hargs htys
 simp only [Option.some.injEq,Prod.mk.injEq]at ho
 obtain⟨rfl,rfl,rfl,rfl⟩:=ho
 unfold wAppend at h
 split at h
 ·rename_i e k2 hu1 hu2
  split at h
  case h_2=>exact h.elim
  rename_i inf hinf
  split at h
  case h_2=>exact h.elim
  rename_i z hz
  split at h
  case h_2=>exact h.elim
  rename_i hb
  simp only [Bool.and_eq_true,blt_eq,decide_eq_true_eq]at hb
  have hzl:=Nat.eq_of_beq_eq_true hb.2
  unfold wApz at h
  split at h
  case h_2=>exact h.elim
  rename_i hn
  obtain⟨j,n,hx,h⟩:=asInt_ok h
  split at h
  case h_2=>exact h.elim
  rename_i hj _
  subst hj
  obtain⟨⟨h3,h4⟩,h⟩:=h
  have h7:=pushK_ok h
  obtain⟨q,rfl⟩:=Int.eq_ofNat_of_zero_le (show 0≤n by omega)
  have e1:((q:Int)).toNat=q:=Int.toNat_natCast q
  rw [e1]at h4 h7
  refine⟨fun t W=>xApz W inf.size inf.bytes (denL σ.B.n z) (opd s' t) (opd x' t),_,_,?_,?_,?_,?_,h7⟩
  rotate_left 2
  ·rfl
  ·exact⟨by simp [hw.len]⟩
  ·unfold decOp
   rw [hop]
   simp only [decCall,hcal,decBuiltin,hargs,htys,decAppend,hu1,hu2,hinf,zerosS_ok hz σ.B.n]
   rw [if_pos ⟨hb.1,by rw [denL_len]; exact hzl⟩]
   exact with2_of h1 h2
  ·have hs:opd s' T=.v (.slice none 0 0):=by
    rw [opd_S hT]
    unfold isNilL at hn
    split at hn
    ·rename_i e0; rw [e0]; rfl
    ·simp at hn
   have hx2:opd x' T=.v (.int .i64 (.ofNat q)):=by rw [opd_S hT]; exact hx _
   have hgz:repl q (denL σ.B.n z)=gcells σ.B.n q inf.size (.fn fun _=>symL z):=by
    rw [← symL_den σ.B.n z]
    exact gcells_repl σ.B.n q inf.size (by rw [symL_len]; exact hzl)
   simp only [hs,hx2,xApz]
   rw [if_pos (by simp only [Bool.and_eq_true,blt_eq,decide_eq_true_eq,Nat.ble_eq]; exact⟨by omega,h4⟩)]
   simp only [effR,fnat_eq,den,den_push,denO,hgz,Bool.false_eq_true,false_and,if_false]
   rfl
 case h_3=>exact h.elim
 rename_i e e2 hu1 hu2
 split at h
 case h_2=>exact h.elim
 rename_i inf hinf
 split at h
 case h_2=>exact h.elim
 rename_i z hz
 split at h
 case h_2=>exact h.elim
 rename_i hb
 simp only [Bool.and_eq_true,blt_eq,decide_eq_true_eq]at hb
 rw [fnat_eq]at h
 have hdec:decOp P o=some fun t W=>xApp W inf.size inf.bytes (opd s' t) (opd x' t):=by
  unfold decOp
  rw [hop]
  simp only [decCall,hcal,decBuiltin,hargs,htys,decAppend,hu1,hu2,hinf,zerosS_ok hz σ.B.n]
  rw [if_pos ⟨hb.1,by rw [denL_len]; exact Nat.eq_of_beq_eq_true hb.2⟩]
  exact with2_of h1 h2
 unfold wApp at h
 obtain⟨ln,n,a,hs,h⟩:=asEl_ok hw h
 obtain⟨lm,m,b,hx,h⟩:=asEl_ok hw h
 have hsame:m=0→K (opS s' t) σ→∃op x σ',decOp P o=some op∧effR P ev (op T σ.den) σ.den=some (den σ.B.n x,σ'.den)∧σ'.B=σ.B∧σ'.Wf∧K x σ':=by
  rintro rfl hK
  refine⟨_,opS s' t,σ,hdec,?_,rfl,hw,hK⟩
  unfold xApp
  simp only [opd_S hT,hs,hx]
  rfl
 have hgrow:m≠0→wApp2 σ inf.size inf.bytes (opS s' t) n a m b (n+m) K→∃op x σ',decOp P o=some op∧effR P ev (op T σ.den) σ.den=some (den σ.B.n x,σ'.den)∧σ'.B=σ.B∧σ'.Wf∧K x σ':=by
  rintro hm ⟨⟨hsize⟩,h⟩
  obtain⟨σ1,h3,h4,h5,h6⟩:=spentS_ok hw h
  have h7:=pushK_ok h6
  refine⟨_,SV.gsl σ1.n (n+m) inf.size (nilable (opS s' t)),⟨σ1.B,σ1.n+1,SObj.gr (n+m) inf.size (behind n a m b) Kd.gr (nilable (opS s' t)) :: σ1.L⟩,hdec,?_,h4,⟨by simp [h5.len]⟩,h7⟩
  have hm':Nat.beq m 0=false:=by
   cases hq:Nat.beq m 0 with
   | false=>rfl
   | true=>exact absurd (Nat.eq_of_beq_eq_true hq) hm
  unfold xApp
  simp only [opd_S hT,hs,hx,hm',Bool.false_eq_true,if_false]
  rw [if_pos (by rw [Nat.ble_eq]; exact hsize)]
  have hnz:¬ (nilable (opS s' t)=true∧n+m=0):=by omega
  simp only [h3,fnat_eq,effR,den_push,denO,den]
  rw [if_neg hnz,if_neg hnz,gcells_behind,h4,← h4]
  rfl
 split at h
 ·split at h
  ·rename_i hm
   exact hsame (Nat.eq_of_beq_eq_true hm) h
  ·rename_i hm
   have hm':m≠0:=fun e=>by rw [e]at hm; simp at hm
   split at h
   ·rw [fnat_eq]at h
    exact hgrow hm' h
   ·exact hgrow hm' h
 ·by_cases hm:m=0
  ·exact hsame hm (h.1 hm)
  ·exact hgrow hm (h.2 hm)
omit [Env] in
theorem scan_none {N:Nat} {z:Int}:∀ {ks:List Int} {c:List SV} {i j:Nat},ks.all (fun y=>!(leB z y && leB y z))=true→scanR false [0] (.v (.int .i64 z)) (mapEs N i ks c) j=some none
 | [],_,_,_,_=>by simp [mapEs,scanR]
 | _ :: _,[],_,_,_=>by simp [mapEs,scanR]
 | k :: ks,x :: c,i,j,h=>by
  rw [List.all_cons,Bool.and_eq_true]at h
  unfold mapEs scanR
  rw [same_i64]
  have hne:z≠k:=by
   rintro rfl
   have:=h.1
   simp [leB_eq]at this
  simp only [hne,decide_false]
  exact scan_none h.2
omit [Env] in
theorem mapEs_snoc {N:Nat} {z:Int} {x:SV}:∀ {ks:List Int} {c:List SV} {i:Nat},ks.length=c.length→mapEs N i (ks++[z]) (c++[x])=mapEs N i ks c++[(.v (.int .i64 z),den N x,i+c.length)]
 | [],[],i,_=>by simp [mapEs]
 | k :: ks,y :: c,i,h=>by
  simp only [List.cons_append,mapEs,mapEs_snoc (show ks.length=c.length by simpa using h),List.length_cons]
  rw [show i+1+c.length=i+(c.length+1)by omega]
 | [],_ :: _,_,h=>by simp at h
 | _ :: _,[],_,h=>by simp at h
omit [Env] in
theorem forceL_eq:∀(l:List SV) (K:List SV→Prop),forceL l K=K l
 | [],_=>rfl
 | x :: r,K=>by rw [forceL,forceL_eq r]
omit [Env] in
theorem mkLit_at {size:Nat} {z:List SV} {n:Int} {K:SV→SMem→Prop} {q:Nat}:∀m,mkLit size z n σ K m→q≤m→n=Int.ofNat q→pushK σ (.cells (replS q z) .ex) fun k σ=>K (.sl k 0 q size) σ
 | 0,h,hq,hn=>by
  obtain rfl:q=0:=by omega
  exact h hn
 | m+1,h,hq,hn=>by
  by_cases hqm:q≤m
  ·exact mkLit_at m h.1 hqm hn
  ·obtain rfl:q=m+1:=by omega
   have:=h.2 hn
   rw [forceL_eq]at this
   simpa only [fnat_eq] using this
omit [Env] in
theorem ltake_full {α:Type} {l:List α}:∀ {n:Nat},n=l.length→ltake n l=some l:=by
 induction l with
 | nil=>intro n h; subst h; rfl
 | cons x r ih =>
  intro n h
  subst h
  show Option.rec (motive:=fun _=>Option (List α)) none (fun r'=>some (x :: r')) (ltake r.length r)=some (x :: r)
  rw [ih rfl]
theorem wClp_ok {size:Nat} {x:SV} {a b:Int} {K:SV→SMem→Prop} {k1 k2:IntKind} (hw:σ.Wf) (h:wClp σ size x a b K) :
  ∃y σ',effR P ev (xClip σ.den size (den σ.B.n x) (.v (.int k1 a)) (.v (.int k2 b))) σ.den=some (den σ.B.n y,σ'.den)∧σ'.B=σ.B∧σ'.Wf∧K y σ':=by
 have nil:∀ {x:SV},den σ.B.n x=.v (.slice none 0 0)→a=0∧b=0→K (.v (.slice none 0 0)) σ→∃y σ',effR P ev (xClip σ.den size (den σ.B.n x) (.v (.int k1 a)) (.v (.int k2 b))) σ.den=some (den σ.B.n y,σ'.den)∧σ'.B=σ.B∧σ'.Wf∧K y σ':=by
  rintro x hx ⟨rfl,rfl⟩ h
  exact⟨_,σ,by rw [hx]; rfl,rfl,hw,h⟩
 unfold wClp at h
 split at h
 ·obtain⟨⟨h1⟩,h⟩:=h
  exact nil rfl h1 h
 ·rename_i k n sz z
  split at h
  case h_2=>exact h.elim
  rename_i hs
  have hs:=Nat.eq_of_beq_eq_true hs
  subst hs
  split at h
  case h_2=>exact h.elim
  rename_i n' sz' e kd z' hk
  split at h
  case h_2=>exact h.elim
  rename_i hs2
  have hs2:=Nat.eq_of_beq_eq_true hs2
  subst hs2
  have key:∀ {z:Bool},z'=z→¬ n=0→n'=n→a=n→b=n→(setK σ k (.gr n sz' e .ro z) fun σ=>pushK σ (.gr n sz' e .rx z) fun j σ=>K (.gsl j n sz' z) σ) →
    ∃y σ',effR P ev (xClip σ.den sz' (den σ.B.n (.gsl k n sz' z)) (.v (.int k1 a)) (.v (.int k2 b))) σ.den=some (den σ.B.n y,σ'.den)∧σ'.B=σ.B∧σ'.Wf∧K y σ':=by
   rintro z rfl h0 rfl rfl rfl h
   obtain⟨σ1,h1,h2,h3,h4⟩:=setK_ok hw h
   have h5:=pushK_ok h4
   have hg:=alive_get hw hk fun _=>by omega
   have hd:∀kd,denO σ.B.n (.gr n' sz' e kd z')=.cells (gcells σ.B.n n' sz' e) kd:=fun kd=>if_neg (by omega)
   rw [hd]at h1
   refine⟨_,⟨σ1.B,σ1.n+1,.gr n' sz' e .rx z' :: σ1.L⟩,?_,h2,⟨by simp [h3.len]⟩,h5⟩
   have hn:σ1.den.n=σ.B.n+σ1.n:=by simp [SMem.den,h2]
   have hx:∀m,den σ.B.n (.gsl m n' sz' z')=.sl (σ.B.n+m) 0 n' sz':=fun m=>if_neg (by omega)
   have ht:ltake (0+n'*sz') (gcells σ.B.n n' sz' e)=some (gcells σ.B.n n' sz' e):=ltake_full (by rw [gcells_len,Nat.zero_add])
   have hb:(Nat.beq n' n' && Nat.beq n' n' && Nat.beq sz' sz' && Nat.blt 0 n')=true:=by
    simp only [Nat.beq_refl,Bool.true_and,blt_eq,decide_eq_true_eq]
    omega
   rw [hx,hx]
   show effR P ev (if (Nat.beq n' n' && Nat.beq n' n' && Nat.beq sz' sz' && Nat.blt 0 n')=true then _ else none) σ.den=_
   rw [if_pos hb]
   simp only [hg,ht,h1,effR,pushF_eq,den_push,hn]
   rw [h2,hd]
  split at h
  ·by_cases h0:n=0
   ·obtain⟨⟨h1⟩,h2⟩:=h.1 h0
    exact nil (if_pos ⟨rfl,h0⟩) h1 h2
   ·obtain⟨⟨h1,h2,h3⟩,h4⟩:=h.2 h0
    exact key rfl h0 h1 h2 h3 h4
  ·exact key (by rfl) h.1.1.1 h.1.1.2.1 h.1.1.2.2.1 h.1.1.2.2.2 h.2
  ·exact h.elim
 ·exact h.elim
theorem wEff_ok {o:Oper} {t:List SV} {T:RT} {K:SV→SMem→Prop} (hT:TT σ.B.n t T) (hw:σ.Wf) (h:wEff P o.op t σ K) :
  ∃op x σ',decOp P o=some op∧effR P ev (op T σ.den) σ.den=some (den σ.B.n x,σ'.den)∧σ'.B=σ.B∧σ'.Wf∧K x σ':=by
 unfold wEff at h
 unfold decOp
 split at h<;>rename_i hop<;>(try rw [hop])<;>(try simp only)
 ·rename_i e
  split at h
  ·rename_i i hi
   split at h
   ·rename_i z hz
    have h1:=pushK_ok h
    refine⟨fun _ _=>some (.alloc (.cells (denL σ.B.n z) .ex) fun b=>.ptr b 0),_,_,?_,?_,?_,?_,h1⟩
    ·simp only [decAlloc,hi,zerosS_ok hz σ.B.n]
    ·simp only [effR,fnat_eq,pushF_eq,den,den_push,denO]
     rfl
    ·rfl
    ·exact⟨by simp [hw.len]⟩
   ·exact h.elim
  ·exact h.elim
 ·rename_i e x
  obtain⟨h1,h2⟩:=op1_ok h
  obtain⟨cs,h3,h4⟩:=wCells_ok h2
  have h5:=pushK_ok h4
  obtain⟨h6,h7⟩:=h3 σ.B.n
  refine⟨fun t _=>xBox (opd x t),_,_,?_,?_,?_,?_,h5⟩
  ·simp only [decAlloc]
   exact with1_of h1
  ·simp only [opd_S hT,xBox,h6,h7,if_true,effR,fnat_eq,pushF_eq,den,den_push,denO]
   rfl
  ·rfl
  ·exact⟨by simp [hw.len]⟩
 ·rename_i ty len parts
  split at h
  ·rename_i e hu
   split at h
   ·rename_i i hi
    split at h
    ·rename_i z hz
     split at h
     ·rename_i hcond
      obtain⟨h1,h2⟩:=opsK_ok h
      obtain⟨cs,h3,h4⟩:=fillS_ok (N:=σ.B.n) h2
      have h5:=pushK_ok h4
      have hz2:=zerosS_ok hz σ.B.n
      refine⟨fun t _=>xBsl len i.size (denL σ.B.n z) ((parts.toList.map (·.1)).zipWith (fun k x=>(k*i.size,i.size,x)) ((parts.toList.map (·.2)).map fun x=>opd x t)),_,_,?_,?_,?_,?_,h5⟩
      ·have hc2:len*i.size≤16777216∧0 < i.size∧(0 < len∨parts.size=0)∧(denL σ.B.n z).length=i.size:=by rw [denL_len]; exact hcond
       simp only [decAlloc,hu,hi,hz2,if_pos hc2]
       exact withL_of h1
      ·rw [zip_den σ.B.n (fun k:Nat=>(k*i.size,i.size)),denL_repl,← opds_S hT]at h3
       simp only [xBsl,h3,effR,fnat_eq,pushF_eq,den,den_push,denO]
       rfl
      ·rfl
      ·exact⟨by simp [hw.len]⟩
     ·exact h.elim
    ·exact h.elim
   ·exact h.elim
  ·exact h.elim
 ·rename_i ty l c
  split at h
  ·rename_i e hu
   split at h
   ·rename_i i hi
    split at h
    ·rename_i z hz
     split at h
     ·rename_i hcond
      obtain⟨h1,h2⟩:=op1_ok h
      obtain⟨h3,h4⟩:=op1_ok h2
      obtain⟨j,n,hn,h5⟩:=asInt_ok h4
      obtain⟨k,m,hm,h6⟩:=asInt_ok h5
      split at h6
      ·rename_i hj hk _ _
       subst hj hk
       split at h6
       ·obtain⟨⟨hnm,hn0,hb⟩,h7⟩:=h6
        subst hnm
        obtain⟨q,rfl⟩:=Int.eq_ofNat_of_zero_le (show 0≤n by omega)
        have h8:=pushK_ok h7
        have hz2:=zerosS_ok hz σ.B.n
        refine⟨fun t _=>xMsl i.size i.bytes (denL σ.B.n z) (opd l t) (opd c t),_,_,?_,?_,?_,?_,h8⟩
        ·have hc2:0 < i.size∧(denL σ.B.n z).length=i.size:=by rw [denL_len]; exact hcond
         simp only [decAlloc,hu,hi,hz2,if_pos hc2]
         exact with2_of h1 h3
        ·have e1:((q:Int)).toNat=q:=Int.toNat_natCast q
         rw [e1]at hb
         have e2:opd l T=.v (.int .i64 (.ofNat q)):=by rw [opd_S hT]; exact hn _
         have e3:opd c T=.v (.int .i64 (.ofNat q)):=by rw [opd_S hT]; exact hm _
         simp only [e2,e3,xMsl]
         rw [if_pos ⟨trivial,hb⟩]
         have hgz:repl q (denL σ.B.n z)=gcells σ.B.n q i.size (.fn fun _=>symL z):=by
          rw [← symL_den σ.B.n z]
          exact gcells_repl σ.B.n q i.size (by rw [symL_len]; exact hcond.2)
         simp only [effR,fnat_eq,pushF_eq,den,den_push,denO,e1,hgz,Bool.false_eq_true,false_and,if_false]
         rfl
        ·rfl
        ·exact⟨by simp [hw.len]⟩
       ·obtain⟨⟨hnm,hn0,hb⟩,h7⟩:=h6
        subst hnm
        obtain⟨q,rfl⟩:=Int.eq_ofNat_of_zero_le (show 0≤n by omega)
        have e1:((q:Int)).toNat=q:=Int.toNat_natCast q
        rw [e1]at hb
        have h8:=pushK_ok (mkLit_at 4 h7 (by omega) rfl)
        have hz2:=zerosS_ok hz σ.B.n
        refine⟨fun t _=>xMsl i.size i.bytes (denL σ.B.n z) (opd l t) (opd c t),_,_,?_,?_,?_,?_,h8⟩
        ·have hc2:0 < i.size∧(denL σ.B.n z).length=i.size:=by rw [denL_len]; exact hcond
         simp only [decAlloc,hu,hi,hz2,if_pos hc2]
         exact with2_of h1 h3
        ·have e2:opd l T=.v (.int .i64 (.ofNat q)):=by rw [opd_S hT]; exact hn _
         have e3:opd c T=.v (.int .i64 (.ofNat q)):=by rw [opd_S hT]; exact hm _
         simp only [e2,e3,xMsl]
         rw [if_pos ⟨trivial,hb⟩]
         simp only [effR,fnat_eq,pushF_eq,den,den_push,denO,denL_repl]
         rfl
        ·rfl
        ·exact⟨by simp [hw.len]⟩
      ·exact h6.elim
     ·exact h.elim
    ·exact h.elim
   ·exact h.elim
  ·exact h.elim
 ·rename_i ty a x
  split at h
  ·rename_i i hi
   obtain⟨h1,h2⟩:=op1_ok h
   obtain⟨h3,h40⟩:=op1_ok h2
   obtain⟨a',ha',h4⟩:=gelOf_ok h40
   have hka:=(ha' σ.B.n).symm
   split at h4
   ·rename_i k o
    obtain⟨cs,h5,h6⟩:=wCells_ok h4
    split at h6
    ·rename_i hlen
     split at h6
     ·rename_i c kd hg
      have hkd:kd≠.ro∧kd≠.rx:=⟨by intro e; subst e; exact h6,by intro e; subst e; exact h6⟩
      have h6':(match lput c o cs with
       | some c'=>setK σ k (.cells c' kd) fun σ=>K (.v undef) σ
       | none=>False):=by
       cases kd with
       | ro=>exact absurd rfl hkd.1
       | rx=>exact absurd rfl hkd.2
       | ex=>exact h6
       | gr=>exact h6
      split at h6'
      ·rename_i c' hp
       obtain⟨σ',h7,h8,h9,h10⟩:=setK_ok hw h6'
       obtain⟨h11,h12⟩:=h5 σ.B.n
       refine⟨fun t W=>xSt W i.size (opd a t) (opd x t),.v undef,σ',?_,?_,h8,h9,h10⟩
       ·simp only [hi]
        exact with2_of h1 h3
       ·have hget:σ.den.get (σ.B.n+k)=some (.cells (denL σ.B.n c) kd):=by
         rw [denM_get hw,if_neg (by omega),Nat.add_sub_cancel_left,hg]; rfl
        have hst:storeAt σ.den (σ.B.n+k) o (denL σ.B.n cs)=some (.wr ud σ'.den):=by
         unfold storeAt
         rw [hget]
         cases kd with
         | ro=>exact absurd rfl hkd.1
         | rx=>exact absurd rfl hkd.2
         | ex=>simp only [lput_denL _ hp,show σ.den.set (σ.B.n+k) (.cells (denL σ.B.n c') .ex)=some σ'.den from h7]
         | gr=>simp only [lput_denL _ hp,show σ.den.set (σ.B.n+k) (.cells (denL σ.B.n c') .gr)=some σ'.den from h7]
        simp only [opd_S hT,hka,den,xSt,h11,h12,denL_len,hlen,Bool.and_self,if_true,hst,effR]
        rfl
      ·exact h6'.elim
     ·exact h6.elim
    ·exact h6.elim
   ·rename_i k sz j f
    obtain⟨cs0,h50,h60⟩:=wCells_ok h4
    obtain⟨cs,hcs,h6⟩:=symK_ok h60
    have h5:=fun N=>(⟨(h50 N).1,(h50 N).2.trans (hcs N).symm⟩:flatB (den N (opS x t))=true∧cellsOf (den N (opS x t))=denL N cs)
    split at h6
    ·rename_i hlen
     simp only [Bool.and_eq_true,Nat.ble_eq,blt_eq,decide_eq_true_eq]at hlen
     obtain⟨hlen,hfit,hfs⟩:=hlen
     split at h6
     ·rename_i n sz' e kd z hg
      split at h6
      ·rename_i hs
       have hs':=Nat.eq_of_beq_eq_true hs
       subst hs'
       have hkd:kd≠.ro∧kd≠.rx:=⟨by intro e; subst e; exact h6,by intro e; subst e; exact h6⟩
       have h6':Ob (j < n∧(e.at j).length=sz)∧updK e j f cs fun e=>setK σ k (.gr n sz e kd z) fun σ=>K (.v undef) σ:=by
        cases kd with
        | ro=>exact absurd rfl hkd.1
        | rx=>exact absurd rfl hkd.2
        | ex=>exact h6
        | gr=>exact h6
       obtain⟨⟨hj,hrow⟩,h6'⟩:=h6'
       obtain⟨e2,he2,h6'⟩:=updK_ok (N:=σ.B.n) (n:=n) (sz:=sz) h6'
       obtain⟨σ',h7,h8,h9,h10⟩:=setK_ok hw h6'
       obtain⟨h11,h12⟩:=h5 σ.B.n
       refine⟨fun t W=>xSt W i.size (opd a t) (opd x t),.v undef,σ',?_,?_,h8,h9,h10⟩
       ·simp only [hi]
        exact with2_of h1 h3
       ·have hget:=alive_get hw hg fun _=>by omega
        have hnd:∀e:El,denO σ.B.n (.gr n sz e kd z)=.cells (gcells σ.B.n n sz e) kd:=by
         intro e
         simp only [denO]
         rw [if_neg (by omega)]
        rw [hnd,he2,gcells_updL hj hfit hrow]at h7
        have hp:=lput_setAll (ys:=denL σ.B.n cs) (l:=gcells σ.B.n n sz e) (o:=j*sz+f) (by
         rw [gcells_len,denL_len]
         have h:(j+1)*sz≤n*sz:=Nat.mul_le_mul_right sz hj
         rw [Nat.add_mul,Nat.one_mul]at h
         omega)
        have hst:storeAt σ.den (σ.B.n+k) (j*sz+f) (denL σ.B.n cs)=some (.wr ud σ'.den):=by
         unfold storeAt
         rw [hget]
         cases kd with
         | ro=>exact absurd rfl hkd.1
         | rx=>exact absurd rfl hkd.2
         | ex=>simp only [hp,h7]
         | gr=>simp only [hp,h7]
        simp only [opd_S hT,hka,den,xSt,h11,h12,denL_len,hlen,Bool.and_self,if_true,hst,effR]
        rfl
      ·exact h6.elim
     ·exact h6.elim
    ·exact h6.elim
   ·exact h4.elim
  ·exact h.elim
 ·rename_i ty x hi mx
  split at h
  case h_2=>exact h.elim
  rename_i e hu
  split at h
  case h_2=>exact h.elim
  rename_i i hi'
  split at h
  case h_2=>exact h.elim
  rename_i h0
  obtain⟨h1,h⟩:=op1_ok h
  obtain⟨h2,h⟩:=op1_ok h
  obtain⟨h3,h⟩:=op1_ok h
  obtain⟨k1,a,ha,h⟩:=asInt_ok h
  obtain⟨k2,b,hb,h⟩:=asInt_ok h
  obtain⟨y,σ',g1,g2,g3,g4⟩:=wClp_ok (P:=P) (ev:=ev) (k1:=k1) (k2:=k2) hw h
  refine⟨fun t W=>xClip W i.size (opd x t) (opd hi t) (opd mx t),y,σ',?_,?_,g2,g3,g4⟩
  ·simp only [decClip,hu,hi']
   rw [if_pos (by simpa [blt_eq] using h0)]
   exact with3_of h1 h2 h3
  ·simp only [opd_S hT,ha,hb]
   exact g1
 ·have h1:=pushK_ok h
  refine⟨fun _ _=>some (.alloc (.map [] 0 false) fun b=>.mp b),_,_,?_,?_,?_,?_,h1⟩
  rotate_left 2
  ·rfl
  ·exact⟨by simp [hw.len]⟩
  ·simp only [decAlloc]
  ·simp only [effR,fnat_eq,pushF_eq,den,den_push,denO]
   rfl
 ·rename_i ty m k x
  split at h
  case h_2=>exact h.elim
  rename_i hm
  obtain⟨kt,e,i,z0,g1,g2,g3,g4,g5⟩:=isIntMap_ok hm
  obtain⟨o1,h⟩:=op1_ok h
  obtain⟨o2,h⟩:=op1_ok h
  obtain⟨o3,h⟩:=op1_ok h
  split at h
  case h_2=>exact h.elim
  rename_i b hb
  split at h
  case h_2=>exact h.elim
  rename_i z hk
  split at h
  case h_2=>exact h.elim
  rename_i ks c hg
  split at h
  case h_2=>exact h.elim
  rename_i hall
  simp only [Bool.and_eq_true]at hall
  obtain⟨hall,hlen⟩:=hall
  have hlen:=Nat.eq_of_beq_eq_true hlen
  obtain⟨σ',h1,h2,h3,h4⟩:=setK_ok hw h
  refine⟨fun t W=>xMup W false [0] (opd m t) (opd k t) (opd x t),.v undef,σ',?_,?_,h2,h3,h4⟩
  ·simp only [decMapUpdate,g1,g3]
   exact with3_of o1 o2 o3
  ·have hget:σ.den.get (σ.B.n+b)=some (.map (mapEs σ.B.n 0 ks c) c.length false):=by
    rw [denM_get hw,if_neg (by omega),Nat.add_sub_cancel_left,hg]; rfl
   have hf:findKeyR false [0] (.v (.int .i64 z)) (mapEs σ.B.n 0 ks c)=some none:=by
    unfold findKeyR
    rw [same_i64]
    simp only [decide_true]
    exact scan_none hall
   have hset:σ.den.set (σ.B.n+b) (.map (mapEs σ.B.n 0 ks c++[(.v (.int .i64 z),den σ.B.n (opS x t),c.length)]) (c.length+1) false)=some σ'.den:=by
    rw [← h1]
    congr 1
    simp only [denO,mapEs_snoc hlen,List.length_append,List.length_cons,List.length_nil,Nat.zero_add]
   simp only [opd_S hT,hb,hk,den,xMup,mapAt,hget,hf,wset,hset,effR]
   rfl
 ·exact h.elim
end
end Go.Rv
namespace Go.Rv
open Go
theorem rowSet_some (f:Row→RV→Row):∀(l:List Row) (i:Nat) (y:RV),i < l.length→∃l',rowSet f l i y=some l'∧l'.length=l.length
 | [],i,y,h=>by simp at h
 | x :: r,0,y,h=>⟨f x y :: r,rfl,rfl⟩
 | x :: r,i+1,y,h=>by
  obtain⟨l',h1,h2⟩:=rowSet_some f r i y (by simpa using h)
  refine⟨x :: l',?_,by simp [h2]⟩
  show Option.rec (motive:=fun _=>Option (List Row)) none (fun r'=>some (x :: r')) (rowSet f r i y)=_
  rw [h1]
theorem putIn_some (i j:Nat) (f:Row→RV→Row):∃g,putIn i j f=⟨g⟩∧∀(T:RT) (x:RV),i < T.n→j < T.rows.length→∃T',g T x=some T'∧T'.rows.length=T.rows.length:=by
 refine⟨_,rfl,?_⟩
 intro T x h1 h2
 obtain⟨n,rows⟩:=T
 obtain⟨l',h3,h4⟩:=rowSet_some f rows j x h2
 refine⟨⟨n,l'⟩,?_,h4⟩
 have h5:Nat.blt i n=true:=by rw [blt_eq]; simpa using h1
 simp only [h5,h3]
theorem putB_some (i:Nat) {g:Put} (hg:putB (some i)=⟨g⟩) (T:RT) (x:RV) (h1:i < T.n) (h2:i / 8 < T.rows.length):∃T',g T x=some T'∧T'.rows.length=T.rows.length:=by
 have key:∀f,putB (some i)=putIn i (i / 8) f→∃T',g T x=some T'∧T'.rows.length=T.rows.length:=by
  intro f hf
  obtain⟨g',h3,h4⟩:=putIn_some i (i / 8) f
  rw [hf,h3]at hg
  simp only [PutB.mk.injEq]at hg
  subst hg
  exact h4 T x h1 h2
 have:i % 8=0∨i % 8=1∨i % 8=2∨i % 8=3∨i % 8=4∨i % 8=5∨i % 8=6∨i % 8=7:=by omega
 rcases this with h | h | h | h | h | h | h | h<;>exact key _ (by unfold putB; simp only [fnat_eq,h]; rfl)
theorem lsetK_ok:∀ {l:List SV} {i:Nat} {x:SV} {K:List SV→Prop},lsetK l i x K→i < l.length∧K (l.set i x)
 | [],i,x,K,h=>h.elim
 | y :: r,0,x,K,h=>⟨by simp,h⟩
 | y :: r,i+1,x,K,h=>by
  obtain⟨h1,h2⟩:=lsetK_ok (l:=r) h
  exact⟨by simpa using h1,h2⟩
theorem putS_ok {N:Nat} {d:Option Nat} {t:List SV} {T:RT} {x:SV} {K:List SV→Prop} {g:Put} (hT:TT N t T) (hg:putB d=⟨g⟩) (h:putS d t x K):∃t' T',g T (den N x)=some T'∧TT N t' T'∧K t':=by
 cases d with
 | none =>
  have:g=fun t _=>some t:=by
   unfold putB at hg
   simp only [PutB.mk.injEq]at hg
   exact hg.symm
  subst this
  exact⟨t,T,rfl,hT,h⟩
 | some i =>
  obtain⟨h1,h2⟩:=lsetK_ok h
  have hi:i < T.n:=by rw [hT.n]; exact h1
  have hr:=hT.rows
  obtain⟨T',h3,h4⟩:=putB_some i hg T (den N x) hi (by omega)
  obtain⟨g',hg',hok⟩:=putB_ok (some i)
  rw [hg]at hg'
  simp only [PutB.mk.injEq]at hg'
  subst hg'
  obtain⟨h5,h6,h7⟩:=hok T T' _ h3
  refine⟨t.set i x,T',h3,⟨by rw [h5,hT.n,List.length_set],by rw [h5,h4]; exact hr,fun j=>?_⟩,h2⟩
  rw [h7 j]
  by_cases hj:i=j
  ·subst hj
   simp [h1]
  ·rw [if_neg (by simpa using hj),hT.get j,List.getElem?_set_ne hj]
section
variable [Env] {P:Program} {ev:Ev}
theorem decOper_put {ops:Array Oper} {o:Oper} {r:ROper} (h:decOper P ops o=some r):putB o.dst=⟨r.put⟩:=by
 unfold decOper at h
 split at h
 ·split at h
  rename_i put hput
  rw [hput]
  split at h
  ·rw [fst_eq]at h
   simp only [Option.some.injEq]at h
   subst h
   rfl
  ·split at h
   ·rw [tmpB_eq]at h
    simp only [fst_eq,Option.some.injEq]at h
    subst h
    rfl
   ·simp at h
 ·simp at h
theorem TT.know {N:Nat} {t:List SV} {T:RT} {d:Nat} {x y:SV} (hT:TT N t T) (hd:opS (.tmp d) t=x) (hx:den N x=den N y) (hl:d < t.length):TT N (t.set d y) T:=by
 refine⟨by rw [hT.n,List.length_set],hT.rows,fun i=>?_⟩
 by_cases hi:d=i
 ·subst hi
  rw [hT.get d]
  simp only [opS,lget_eq]at hd
  rw [List.getElem?_eq_getElem hl]at hd ⊢
  simp only at hd
  simp only [Option.getD_some,List.getElem?_set_self hl,hd,hx]
 ·rw [hT.get i,List.getElem?_set_ne hi]
theorem guardS_ok {N:Nat} {ops:Array Oper} {o:Oper} {r:ROper} {t:List SV} {T:RT} {go skip:List SV→Prop} (hT:TT N t T) (hr:OpOk P ops o r) (h:guardS ops o t go skip) :
  ∃t1,TT N t1 T∧((wantedR T r.guard=true∧go t1)∨(wantedR T r.guard=false∧skip t1)):=by
 unfold guardS at h
 rcases hr.guard with ⟨h1,h2⟩ | ⟨j,b,d,h1,h2,h3⟩
 ·rw [h1]at h
  rw [h2]
  exact⟨t,hT,.inl ⟨rfl,h⟩⟩
 ·rw [h1]at h
  simp only [h2]at h
  rw [h3]
  have hget:=opd_S hT (.tmp d)
  simp only [opd,opdB,tmpB_eq]at hget
  unfold wantedR
  simp only [hget]
  split at h
  ·rename_i c hc
   rw [hc]
   simp only [den]
   split at h
   ·rename_i hcb
    exact⟨t,hT,.inl ⟨hcb,h⟩⟩
   ·rename_i hcb
    exact⟨t,hT,.inr ⟨hcb,h⟩⟩
  ·rename_i c hc
   rw [hc]
   simp only [den]
   by_cases hcc:c
   ·have hd1:=@decide_eq_true c (Classical.propDecidable c) hcc
    rw [hd1]
    have key:∀ {K:List SV→Prop},lsetK t d (.v (.bool true)) K→∃t1,TT N t1 T∧K t1:=by
     intro K hK
     obtain⟨h4,h5⟩:=lsetK_ok hK
     exact⟨_,hT.know hc (by simp only [den,hd1]) h4,h5⟩
    split at h
    ·obtain⟨t1,h4,h5⟩:=key (h.1 hcc)
     exact⟨t1,h4,.inl ⟨rfl,h5⟩⟩
    ·obtain⟨t1,h4,h5⟩:=key (h.2 hcc)
     exact⟨t1,h4,.inr ⟨rfl,h5⟩⟩
   ·have hd1:=@decide_eq_false c (Classical.propDecidable c) hcc
    rw [hd1]
    have key:∀ {K:List SV→Prop},lsetK t d (.v (.bool false)) K→∃t1,TT N t1 T∧K t1:=by
     intro K hK
     obtain⟨h4,h5⟩:=lsetK_ok hK
     exact⟨_,hT.know hc (by simp only [den,hd1]) h4,h5⟩
    split at h
    ·obtain⟨t1,h4,h5⟩:=key (h.2 hcc)
     exact⟨t1,h4,.inr ⟨rfl,h5⟩⟩
    ·obtain⟨t1,h4,h5⟩:=key (h.1 hcc)
     exact⟨t1,h4,.inl ⟨rfl,h5⟩⟩
  ·rename_i c hc
   rw [hc]
   exact⟨t,hT,.inr ⟨rfl,h⟩⟩
  ·exact h.elim
structure BOk (B:RW):Prop where
 wf:B.wf
 lt:∀b o,B.get b=some o→o.lt B.n
 glb:∀(i g:Nat),Env.ids[i]?=some g→i < B.n
theorem BOk.of {m:Nat→Loc} {B:RW} {w:World} (h:Rel m B w):BOk B:=⟨h.wf,h.lt,fun i g hi=>(h.glb i g hi).1⟩
def CallTo (P:Program) (g:FuncId) (args:List RV) (W:RW) (Q:RV→RW→Prop):Prop:=
 ∀(m:Nat→Loc) (w:World) (cs:List Frame),Rel m W w→belowL W.n args=true →
  ∃x W' m' w' fr,Q x W'∧Steps P (lone (Frame.enter P g (args.map (rv m)).toArray .normal) cs w) (lone fr cs w')∧fr.leaving P w' (.returned (rv m' x))∧fr.fn=g ∧
   Rel m' W' w'∧Post m W w m' W' w'∧below W'.n x=true
def YdOk (P:Program) (Y:Yd):Prop:=∀(args:List SV) (σ:SMem) (K:SV→SMem→Prop),σ.B=Y.B→σ.Wf→BOk σ.B→Y.run args σ K →
 ∀(m:Nat→Loc) (w:World) (fr:Frame) (cs:List Frame),Rel m σ.den w→belowL σ.den.n (denL σ.B.n args)=true →
  ∃x σ' m' w',K x σ'∧σ'.B=σ.B∧σ'.Wf∧CallRun P fr cs (callSem m (.yld (σ.B.n+Y.l)) (denL σ.B.n args)) w (rv m' (den σ.B.n x)) w'∧Rel m' σ'.den w'∧Post m σ.den w m' σ'.den w'∧below σ'.den.n (den σ.B.n x)=true
theorem YdOk.no:YdOk P Yd.no:=fun _ _ _ _ _ _ h=>by simp [Yd.no]at h
structure OraOk (P:Program) (V:Ora):Prop where
 c:∀Y,YdOk P Y→∀(g:FuncId) (args:List SV) (σ:SMem) (K:SV→SMem→Prop),V.has g=true→σ.Wf→BOk σ.B→V.run Y g args σ K →
  (∃fn,P.funcs[g]?=some fn∧fn.body.isSome=true)∧CallTo P g (denL σ.B.n args) σ.den fun x W=>∃y σ',x=den σ.B.n y∧W=σ'.den∧σ'.B=σ.B∧σ'.Wf∧K y σ'
 y:YdOk P V.y
theorem OraOk.no:OraOk P Ora.no:=⟨fun _ _ _ _ _ _ h=>by simp [Ora.no]at h,YdOk.no⟩
structure KnowOk (P:Program) (ev:Ev) (C:Know):Prop where
 c:ConsOk P ev C.C
 v:OraOk P C.V
 e:∀con∈C.E,∀(args:List SV) (σ:SMem) (K:SV→SMem→Prop),σ.Wf→con.w args σ K →
  ∃x σ',callF P ev con.g (denL σ.B.n args) σ.den=some (den σ.B.n x,σ'.den)∧σ'.B=σ.B∧σ'.Wf∧K x σ'
omit [Env] in
theorem conOfE_mem:∀ {C:List ConE} {g:FuncId} {con:ConE},conOfE C g=some con→con∈C∧con.g=g
 | [],g,con,h=>by simp [conOfE]at h
 | c :: r,g,con,h=>by
  unfold conOfE at h
  split at h
  ·rename_i hg
   simp only [Option.some.injEq]at h
   subst h
   exact⟨List.mem_cons_self,Nat.eq_of_beq_eq_true hg⟩
  ·obtain⟨h1,h2⟩:=conOfE_mem h
   exact⟨List.mem_cons_of_mem _ h1,h2⟩
theorem effCall_ok {C:Know} (hC:KnowOk P ev C) {o:Oper} {con:ConE} {xs:List Operand} (h:effCall C.E o.op=some (con,xs)) {t:List SV} {T:RT} {σ:SMem} {K:SV→SMem→Prop} (hT:TT σ.B.n t T) (hw:σ.Wf)
  (hk:opsK xs t fun args=>con.w args σ K):∃op x σ',decOp P o=some op∧effR P ev (op T σ.den) σ.den=some (den σ.B.n x,σ'.den)∧σ'.B=σ.B∧σ'.Wf∧K x σ':=by
 unfold effCall at h
 split at h
 ·rename_i c hop
  split at h
  ·rename_i g hg
   split at h
   ·rename_i con' hcon
    simp only [Option.some.injEq,Prod.mk.injEq]at h
    obtain⟨rfl,rfl⟩:=h
    obtain⟨h1,rfl⟩:=conOfE_mem hcon
    obtain⟨h2,h3⟩:=opsK_ok hk
    obtain⟨x,σ',h4,h5,h6,h7⟩:=hC.e con' h1 _ σ K hw h3
    refine⟨fun t _=>xCall (((Operand.func con'.g) :: c.args.toList).map fun x=>opd x t),x,σ',?_,?_,h5,h6,h7⟩
    ·unfold decOp
     rw [hop]
     simp only [decCall,hg]
     exact withL_of (by simp only [List.all_cons,h2,Bool.and_true]; rfl)
    ·show callF P ev con'.g ((#[]:Array Value).toList.map RV.v++(c.args.toList.map fun x=>opd x T)++(#[]:Array Value).toList.map RV.v) σ.den=_
     rw [opds_S hT]
     simp only [List.map_nil,List.nil_append,List.append_nil]
     exact h4
   ·simp at h
  ·simp at h
 ·simp at h
theorem wOne_ok {C:Know} (hC:KnowOk P ev C) {ops:Array Oper} {o:Oper} {r:ROper} (hd:decOper P ops o=some r) {t:List SV} {T:RT} {σ:SMem} {K:Kt} (hT:TT σ.B.n t T) (hw:σ.Wf)
  (h:wOne P C ops o t σ K):∃t' T' σ',oneR P ev r T σ.den=some (T',σ'.den)∧TT σ.B.n t' T'∧σ'.B=σ.B∧σ'.Wf∧K t' σ':=by
 have hok:=decOper_ok hd
 have hput:=decOper_put hd
 unfold oneR
 obtain⟨t,hT,hh⟩:=guardS_ok hT hok h
 rcases hh with ⟨hw1,hgo⟩ | ⟨hw1,hsk⟩
 ·rw [if_pos hw1]
  split at hgo
  ·rename_i con xs hcon
   obtain⟨op,x,σ',h1,h2,h3,h4,h5⟩:=effCall_ok hC hcon hT hw hgo
   rw [hok.op]at h1
   simp only [Option.some.injEq]at h1
   subst h1
   rw [fsv_eq]at h5
   obtain⟨t',T',h6,h7,h8⟩:=putS_ok hT hput h5
   exact⟨t',T',σ',by simp only [doneR,h2,h6],h7,h3,h4,h8⟩
  split at hgo
  ·rename_i tt tx s x happ
   have hgo':op1 s t fun s=>op1 x t fun x=>wAppend P tt tx s x σ fun x σ=>fsv x fun x=>putS o.dst t x fun t=>K t σ:=hgo
   obtain⟨op,x,σ',h1,h2,h3,h4,h5⟩:=wAppend_ok (ev:=ev) happ hT hw hgo'
   rw [hok.op]at h1
   simp only [Option.some.injEq]at h1
   subst h1
   rw [fsv_eq]at h5
   obtain⟨t',T',h6,h7,h8⟩:=putS_ok hT hput h5
   exact⟨t',T',σ',by simp only [doneR,h2,h6],h7,h3,h4,h8⟩
  split at hgo
  ·obtain⟨op,x,h1,h2,h3⟩:=wVal_ok hC.c hT (sees_den hw) hgo
   rw [hok.op]at h1
   simp only [Option.some.injEq]at h1
   subst h1
   obtain⟨t',T',h4,h5,h6⟩:=putS_ok hT hput h3
   have he:effR P ev (r.op T σ.den) σ.den=some (den σ.B.n x,σ.den):=by
    rcases h2 with h2 | ⟨f,args,h2,h7⟩
    ·rw [h2]; rfl
    ·rw [h2]; exact h7
   exact⟨t',T',σ,by simp only [doneR,he,h4],h5,rfl,hw,h6⟩
  ·obtain⟨op,x,σ',h1,h2,h3,h4,h5⟩:=wEff_ok (ev:=ev) hT hw hgo
   rw [hok.op]at h1
   simp only [Option.some.injEq]at h1
   subst h1
   obtain⟨t',T',h6,h7,h8⟩:=putS_ok hT hput h5
   exact⟨t',T',σ',by simp only [doneR,h2,h6],h7,h3,h4,h8⟩
 ·rw [hw1]
  obtain⟨t',T',h4,h5,h6⟩:=putS_ok hT hput hsk
  have h4':r.put T ud=some T':=h4
  exact⟨t',T',σ,by simp only [Bool.false_eq_true,if_false,doneR,h4'],h5,rfl,hw,h6⟩
theorem wSeq_ok {C:Know} (hC:KnowOk P ev C) {ops:Array Oper}:∀ {os:List Oper} {rs:List ROper} {t:List SV} {T:RT} {σ:SMem} {K:Kt},omap (decOper P ops) os=some rs→TT σ.B.n t T→σ.Wf →
  wSeq P C ops os t σ K→∃t' T' σ',seqR P ev rs T σ.den=some (T',σ'.den)∧TT σ.B.n t' T'∧σ'.B=σ.B∧σ'.Wf∧K t' σ'
 | [],rs,t,T,σ,K,hd,hT,hw,h=>by
  simp only [omap,Option.some.injEq]at hd
  subst hd
  exact⟨t,T,σ,rfl,hT,rfl,hw,h⟩
 | o :: os,rs,t,T,σ,K,hd,hT,hw,h=>by
  simp only [omap]at hd
  split at hd
  ·rename_i r rs' h1 h2
   simp only [Option.some.injEq]at hd
   subst hd
   obtain⟨t1,T1,σ1,h3,h4,h5,h6,h7⟩:=wOne_ok hC h1 hT hw h
   rw [← h5]at h4
   obtain⟨t2,T2,σ2,h8,h9,h10,h11,h12⟩:=wSeq_ok hC h2 h4 h6 h7
   refine⟨t2,T2,σ2,?_,by rw [← h5]; exact h9,h10.trans h5,h11,h12⟩
   show Option.rec (motive:=fun _=>Option (RT×RW)) none (fun q=>seqR P ev rs' q.1 q.2) (oneR P ev r T σ.den)=_
   rw [h3]
   exact h8
  ·simp at hd
omit [Env] in
theorem names_fn {p:Nat→Bool} {f:Fn} {N:Nat}:∀ {ks:List Nat},(∀k∈ks,p (N+k)=true)→namesB p (.fn f [] (ks.map fun k=>RV.ptr (N+k) 0))=true
 | [],_=>rfl
 | k :: r,h=>by
  have e:namesB p (.fn f [] ((k :: r).map fun k=>RV.ptr (N+k) 0))=(p (N+k) && namesB p (.fn f [] (r.map fun k=>RV.ptr (N+k) 0))):=rfl
  rw [e,h k List.mem_cons_self,names_fn fun x hx=>h x (List.mem_cons_of_mem _ hx)]
  rfl
omit [Env] in
theorem below_fn {n N:Nat} {f:Fn} {ks:List Nat}:below n (.fn f [] (ks.map fun k=>RV.ptr (N+k) 0))=true↔∀k∈ks,N+k < n:=by
 show(belowL n [] && belowL n _)=true↔_
 rw [Bool.and_eq_true,belowL_iff,belowL_iff]
 constructor
 ·intro h k hk
  have:=h.2 (.ptr (N+k) 0) (List.mem_map.2 ⟨k,hk,rfl⟩)
  simpa [below,blt_eq] using this
 ·intro h
  refine⟨by simp,fun x hx=>?_⟩
  obtain⟨k,hk,rfl⟩:=List.mem_map.1 hx
  simp only [below,blt_eq,decide_eq_true_eq]
  exact h k hk
omit [Env] in
theorem visS_ok {σ:SMem} {x:SV} {p:Prop} (_:σ.Wf) (b:Nat) (h:visS σ x p):below σ.den.n (den σ.B.n x)=true∧namesB (visN σ.den.n b []) (den σ.B.n x)=true∧p:=by
 have hn:∀c,c < σ.den.n→visN σ.den.n b [] c=true:=by
  intro c hc
  unfold visN
  rw [blt_eq]
  simp [hc]
 have hL:σ.den.n=σ.B.n+σ.n:=rfl
 unfold visS at h
 split at h
 ·rename_i y
  split at h
  ·exact h.elim
  ·rename_i hy
   refine⟨?_,rfl,h⟩
   cases y<;>simp_all [den,below]
 ·exact⟨rfl,rfl,h⟩
 ·exact⟨rfl,rfl,h⟩
 ·rename_i k o
  split at h
  ·rename_i hk
   rw [blt_eq,decide_eq_true_eq]at hk
   refine⟨?_,hn _ (by omega),h⟩
   simp only [den,below,blt_eq,decide_eq_true_eq]
   omega
  ·exact h.elim
 ·rename_i k o n e
  split at h
  ·rename_i hk
   rw [blt_eq,decide_eq_true_eq]at hk
   refine⟨?_,hn _ (by omega),h⟩
   simp only [den,below,blt_eq,decide_eq_true_eq]
   omega
  ·exact h.elim
 ·rename_i k n sz z
  split at h
  ·rename_i hk
   rw [blt_eq,decide_eq_true_eq]at hk
   by_cases hd:z=true∧n=0
   ·rw [show den σ.B.n (.gsl k n sz z)=.v (.slice none 0 0)from if_pos hd]
    exact⟨rfl,rfl,h⟩
   ·rw [show den σ.B.n (.gsl k n sz z)=.sl (σ.B.n+k) 0 n sz from if_neg hd]
    refine⟨?_,hn _ (by omega),h⟩
    simp only [below,blt_eq,decide_eq_true_eq]
    omega
  ·exact h.elim
 ·rename_i k sz i f
  split at h
  ·rename_i hk
   rw [blt_eq,decide_eq_true_eq]at hk
   refine⟨?_,hn _ (by omega),h⟩
   simp only [den,below,blt_eq,decide_eq_true_eq]
   omega
  ·exact h.elim
 ·rename_i g ks
  split at h
  ·rename_i hk
   rw [List.all_eq_true]at hk
   have hk2:∀k∈ks,σ.B.n+k < σ.den.n:=fun k hkk=>by
    have:=hk k hkk
    rw [blt_eq,decide_eq_true_eq]at this
    omega
   exact⟨below_fn.2 hk2,names_fn fun k hkk=>hn _ (hk2 k hkk),h⟩
  ·exact h.elim
 ·rename_i k
  split at h
  ·rename_i hk
   rw [blt_eq,decide_eq_true_eq]at hk
   refine⟨?_,hn _ (by omega),h⟩
   simp only [den,below,blt_eq,decide_eq_true_eq]
   omega
  ·exact h.elim
 ·rename_i k
  split at h
  ·rename_i hk
   rw [blt_eq,decide_eq_true_eq]at hk
   refine⟨?_,hn _ (by omega),h⟩
   simp only [den,below,blt_eq,decide_eq_true_eq]
   omega
  ·exact h.elim
 ·split at h
  ·rename_i k o
   split at h
   ·rename_i hk
    rw [blt_eq,decide_eq_true_eq]at hk
    refine⟨?_,?_,h⟩
    ·simp only [den,below,belowL,blt_eq,Bool.and_true,decide_eq_true_eq]
     omega
    ·have:=hn (σ.B.n+k) (by omega)
     simp only [den,namesB]
     simp only [this,Bool.and_self]
   ·exact h.elim
  ·exact h.elim
 ·rename_i y n sz e
  obtain⟨⟨h1⟩,h2⟩:=h
  rcases h1 with ⟨rfl,_⟩ | ⟨b',o,c,rfl,hc,_⟩
  ·exact⟨rfl,rfl,h2⟩
  ·have:=cellsAt_lt hc
   refine⟨?_,hn _ (by omega),h2⟩
   simp only [den,below,blt_eq,decide_eq_true_eq]
   omega
 ·rename_i y n sz e i f
  obtain⟨⟨h1,h3⟩,h2⟩:=h
  rcases h1 with ⟨rfl,h4⟩ | ⟨b',o,c,rfl,hc,_⟩
  ·omega
  ·have:=cellsAt_lt hc
   refine⟨?_,hn _ (by simp only [blkOf]; omega),h2⟩
   simp only [den,blkOf,below,blt_eq,decide_eq_true_eq]
   omega
 ·exact h.elim
omit [Env] in
theorem visC_ok {σ:SMem} (hw:σ.Wf) (b:Nat):∀ {l:List SV} {p:Prop},visC σ l p→belowC σ.den.n (denL σ.B.n l)=true∧(denL σ.B.n l).all (namesB (visN σ.den.n b []))=true∧p
 | [],p,h=>⟨rfl,rfl,h⟩
 | x :: r,p,h=>by
  simp only [visC]at h
  split at h
  ·rename_i hf
   obtain⟨h1,h2,h3⟩:=visS_ok hw b h
   obtain⟨h4,h5,h6⟩:=visC_ok hw b h3
   refine⟨?_,?_,h6⟩
   ·simp only [denL,belowC,h1,h4,Bool.and_true]
    cases x with
    | lst y n sz e =>
     have h':Ob (IsLst σ.B y n sz e)∧_:=h
     rcases h'.1.h with ⟨rfl,_⟩ | ⟨b',o,c,rfl,hc,_⟩<;>rfl
    | gsl k n sz z =>
     by_cases hd:z=true∧n=0
     ·rw [show den σ.B.n (.gsl k n sz z)=.v (.slice none 0 0)from if_pos hd]; rfl
     ·rw [show den σ.B.n (.gsl k n sz z)=.sl (σ.B.n+k) 0 n sz from if_neg hd]; rfl
    | _=>simp_all [flatS,den,oneB,oneV]
   ·simp only [denL,List.all_cons,h2,h5,Bool.and_self]
  ·exact h.elim
omit [Env] in
theorem visT_ok {σ:SMem} (hw:σ.Wf) (b:Nat):∀ {l:List SV} {p:Prop},visT σ l p→belowL σ.den.n (denL σ.B.n l)=true∧(denL σ.B.n l).all (namesB (visN σ.den.n b []))=true∧p
 | [],p,h=>⟨rfl,rfl,h⟩
 | x :: r,p,h=>by
  have key:visS σ x (visT σ r p)→belowL σ.den.n (denL σ.B.n (x :: r))=true∧(denL σ.B.n (x :: r)).all (namesB (visN σ.den.n b []))=true∧p:=by
   intro h
   obtain⟨h1,h2,h3⟩:=visS_ok hw b h
   obtain⟨h4,h5,h6⟩:=visT_ok hw b h3
   exact⟨by simp only [denL,belowL,h1,h4,Bool.and_self],by simp only [denL,List.all_cons,h2,h5,Bool.and_self],h6⟩
  cases x with
  | agg cs =>
   obtain⟨h1,h2,h3⟩:=visC_ok hw b (show visC σ cs (visT σ r p)from h)
   obtain⟨h4,h5,h6⟩:=visT_ok hw b h3
   refine⟨by simp only [denL,den,belowL,below,h1,h4,Bool.and_self],?_,h6⟩
   simp only [denL,den,List.all_cons,h5,Bool.and_true]
   exact(namesB_all _).trans h2
  | _=>exact key h
omit [Env] in
theorem visK_ok {σ:SMem} {x:SV} {p:Prop} (hw:σ.Wf) (b:Nat) (h:visK σ x p):below σ.den.n (den σ.B.n x)=true∧namesB (visN σ.den.n b []) (den σ.B.n x)=true∧p:=by
 cases x with
 | agg cs =>
  obtain⟨h1,h2,h3⟩:=visC_ok hw b (show visC σ cs p from h)
  exact⟨h1,(namesB_all _).trans h2,h3⟩
 | tup cs =>
  obtain⟨h1,h2,h3⟩:=visT_ok hw b (show visT σ cs p from h)
  exact⟨h1,(namesB_all _).trans h2,h3⟩
 | _=>exact visS_ok hw b h
omit [Env] in
theorem sees_ro {σ:SMem} (hw:σ.Wf):Sees ⟨σ.den.n,σ.den.l.map RObj.toRo⟩ σ:=by
 have hs:=sees_den hw
 have key:∀b c,cellsAt σ.den b=some c→cellsAt ⟨σ.den.n,σ.den.l.map RObj.toRo⟩ b=some c:=by
  intro b c h
  obtain⟨k,hk⟩:=cellsAt_spec h
  unfold cellsAt
  rw [get_map RObj.toRo b,rw_eta,hk]
  rfl
 exact⟨rfl,fun k c kd hk=>key _ _ (hs.loc k c kd hk),fun b c hb=>key _ _ (hs.base b c hb),fun k n sz e kd z hk hz=>key _ _ (hs.alive k n sz e kd z hk hz),fun k ks c ro hk=>by
  obtain⟨ro',h⟩:=hs.maps k ks c ro hk
  refine⟨true,?_⟩
  rw [get_map RObj.toRo _,rw_eta,h]
  rfl⟩
omit [Env] in
theorem isVal_store {o:Op} [Env] (h:isVal o=true):storeTo o=none:=by
 cases o<;>first | rfl | (simp [isVal]at h)
theorem wPre_ok {C:Know} (hC:KnowOk P ev C) {ops:Array Oper}:∀ {os:List Oper} {q:List (ROper×Nat)} {t:List SV} {T:RT} {σ:SMem} {K:Kt} (i:Nat),os.length=q.length →
  (∀(j:Nat) (o:Oper) (x:ROper×Nat),os[j]?=some o→q[j]?=some x→decOper P ops o=some x.1)→TT σ.B.n t T→σ.Wf→wPre P C ops os t σ K →
  ∃t' T',preR P ev σ.den.n [] q i ⟨T,[],σ.den.l⟩=some ⟨T',[],σ.den.l⟩∧TT σ.B.n t' T'∧K t' σ
 | [],q,t,T,σ,K,i,hl,hd,hT,hw,h=>by
  have:q=[]:=List.eq_nil_of_length_eq_zero hl.symm
  subst this
  exact⟨t,T,rfl,hT,h⟩
 | o :: os,q,t,T,σ,K,i,hl,hd,hT,hw,h=>by
  cases q with
  | nil=>simp at hl
  | cons x q =>
   obtain⟨r,b⟩:=x
   have hr:decOper P ops o=some r:=hd 0 o (r,b) rfl rfl
   have hok:=decOper_ok hr
   have hput:=decOper_put hr
   have key:∃t1 T1,preOne P ev σ.den.n [] r b i ⟨T,[],σ.den.l⟩=some ⟨T1,[],σ.den.l⟩∧TT σ.B.n t1 T1∧wPre P C ops os t1 σ K:=by
    unfold preOne
    obtain⟨t,hT,hh⟩:=guardS_ok hT hok h
    rcases hh with ⟨hw1,hgo⟩ | ⟨hw1,hsk⟩
    ·rw [if_pos hw1]
     split at hgo
     ·rename_i hv
      have hst:r.st=none:=hok.st.trans (isVal_store hv)
      have hview:viewOf σ.den.n b i [] r.st ⟨T,[],σ.den.l⟩=⟨σ.den.n,σ.den.l.map RObj.toRo⟩:=by
       rw [hst]; rfl
      obtain⟨op,y,h1,h2,h3⟩:=wVal_ok hC.c hT (sees_ro hw) hgo
      rw [hok.op]at h1
      simp only [Option.some.injEq]at h1
      subst h1
      obtain⟨h4,h5,h6⟩:=visK_ok hw b h3
      obtain⟨t',T',h7,h8,h9⟩:=putS_ok hT hput h6
      refine⟨t',T',?_,h8,h9⟩
      rw [hview,hst]
      rcases h2 with h2 | ⟨f,args,h2,h10⟩
      ·simp only [h2,preE,h4,h5,Bool.and_self,if_true,h7]
      ·simp only [h2,preE,h10,preC,List.length_nil,Nat.add_zero,h4,h5,Bool.and_self,if_true,h7]
     ·exact hgo.elim
    ·rw [hw1]
     obtain⟨t',T',h4,h5,h6⟩:=putS_ok hT hput hsk
     have h4':r.put T ud=some T':=h4
     exact⟨t',T',by simp only [Bool.false_eq_true,if_false,h4'],h5,h6⟩
   obtain⟨t1,T1,h1,h2,h3⟩:=key
   obtain⟨t2,T2,h4,h5,h6⟩:=wPre_ok hC (i+1) (by simpa using hl) (fun j o x h1 h2=>hd (j+1) o x (by simpa using h1) (by simpa using h2)) h2 hw h3
   refine⟨t2,T2,?_,h5,h6⟩
   show Option.rec (motive:=fun _=>Option PS) none (fun s=>fnat i fun i=>preR P ev σ.den.n [] q (i+1) s) (preOne P ev σ.den.n [] r b i ⟨T,[],σ.den.l⟩)=_
   rw [h1]
   simp only [fnat_eq]
   exact h4
omit [Env] in
theorem omap_take {α β:Type} {f:α→Option β}:∀ {l:List α} {r:List β} (k:Nat),omap f l=some r→omap f (l.drop k)=some (r.drop k)
 | l,r,0,h=>h
 | [],r,k+1,h=>by
  simp only [omap,Option.some.injEq]at h
  subst h
  rfl
 | x :: l,r,k+1,h=>by
  simp only [omap]at h
  split at h
  ·rename_i y ys h1 h2
   simp only [Option.some.injEq]at h
   subst h
   exact omap_take k h2
  ·simp at h
theorem wReg_ok {C:Know} (hC:KnowOk P ev C) {ops:Array Oper} {draw:Bool} {t:List SV} {T:RT} {σ:SMem} {K:Kt} (hT:TT σ.B.n t T) (hw:σ.Wf) (h:wReg P C ops draw t σ K) :
  ∃r t' T' σ',decReg P ops draw=some r∧regR P ev r T σ.den=some (T',σ'.den)∧TT σ.B.n t' T'∧σ'.B=σ.B∧σ'.Wf∧K t' σ':=by
 unfold wReg at h
 split at h
 ·rename_i l hdec
  have hom:omap (decOper P ops) ops.toList=some l:=by
   unfold decReg at hdec
   split at hdec
   ·rename_i l' hl'
    cases draw with
    | false =>
     simp only [Bool.false_eq_true,if_false,Option.some.injEq,RReg.seq.injEq]at hdec
     rw [← hdec]; exact hl'
    | true =>
     simp only [if_true]at hdec
     split at hdec
     ·split at hdec
      ·split at hdec
       ·simp at hdec
       ·simp [fbool_eq]at hdec
      ·simp at hdec
     ·simp at hdec
   ·simp at hdec
  obtain⟨t',T',σ',h1,h2,h3,h4,h5⟩:=wSeq_ok hC hom hT hw h
  exact⟨_,t',T',σ',hdec,h1,h2,h3,h4,h5⟩
 ·rename_i pre post hdec
  rw [fnat_eq]at h
  unfold decReg at hdec
  split at hdec
  ·rename_i l hom
   cases draw with
   | false=>simp at hdec
   | true =>
    simp only [if_true]at hdec
    split at hdec
    ·rename_i hchk
     split at hdec
     ·rename_i pre' post' hpre hpost
      split at hdec
      ·simp at hdec
      rename_i hmx
      simp only [fbool_eq,Option.some.injEq,RReg.draw.injEq]at hdec
      obtain⟨rfl,rfl,hhs⟩:=hdec
      obtain⟨hk1,rfl⟩:=ltake_spec _ _ hpre
      obtain⟨hk2,rfl⟩:=ldrop_spec _ _ hpost
      have hlen:l.length=ops.toList.length:=omap_length hom
      have hbl:(Region.before ops).toList.length=ops.size:=by simp [before_size]
      generalize hk:planTail (Region.before ops).toList ops.size=k at *
      obtain⟨t1,T1,h1,h2,h3⟩:=wPre_ok (q:=(l.zip (Region.before ops).toList).take k) hC 0 (by
        simp only [List.length_take,List.length_zip,hlen,hbl]
        simp) (by
        intro j o x hj hx
        rw [List.getElem?_take]at hj hx
        by_cases hjk:j < k
        ·rw [if_pos hjk]at hj hx
         obtain⟨y,hy1,hy2⟩:=omap_get hom j o hj
         have hx1:l[j]?=some x.1:=by
          rw [List.getElem?_zip_eq_some]at hx
          exact hx.1
         rw [hy1]at hx1
         simp only [Option.some.injEq]at hx1
         rw [← hx1]; exact hy2
        ·rw [if_neg hjk]at hj
         simp at hj) hT hw h
      obtain⟨t2,T2,σ2,h4,h5,h6,h7,h8⟩:=wSeq_ok hC (omap_take k hom) h2 hw h3
      refine⟨.draw ((l.zip (Region.before ops).toList).take k) (l.drop k) false,t2,T2,σ2,?_,?_,h5,h6,h7,h8⟩
      ·unfold decReg
       rw [hom]
       simp only [if_true,hk,hchk,hpre,hpost,hmx,fbool_eq,hhs]
      ·show drawR P ev _ _ [] T σ.den=_
       unfold drawR
       rw [h1]
       simp only [fnat_eq,List.length_nil,Nat.add_zero,List.map_nil,List.nil_append]
       exact h4
     ·simp at hdec
    ·simp at hdec
  ·simp at hdec
 ·exact h.elim
end
end Go.Rv
namespace Go.Rv
open Go
variable [Env]
section
variable {P:Program}
structure PostN (n:Nat) (m:Nat→Loc) (W:RW) (w:World) (m':Nat→Loc) (W':RW) (w':World):Prop where
 ag:Agree n m m'
 mono:n≤W'.n
 size:w.heap.size≤w'.heap.size
 keep:∀r,r < w.heap.size→(∀b o,W.get b=some o→o.own=true→(m b).blk≠r)→w'.heap[r]?=w.heap[r]?
 own:∀b o,W'.get b=some o→o.own=true→w.heap.size≤(m' b).blk∨∃a x,W.get a=some x∧x.own=true∧(m a).blk=(m' b).blk
 os:w'.os=w.os
 tape:w'.tape=w.tape
 output:w'.output=w.output
omit [Env] in
theorem Post.at {n:Nat} {m m':Nat→Loc} {W W':RW} {w w':World} (h:Post m W w m' W' w') (hn:n≤W.n):PostN n m W w m' W' w':=
 ⟨fun b hb=>h.ag b (Nat.lt_of_lt_of_le hb hn),Nat.le_trans hn h.mono,h.size,h.keep,h.own,h.os,h.tape,h.output⟩
omit [Env] in
theorem PostN.all {m m':Nat→Loc} {W W':RW} {w w':World} (h:PostN W.n m W w m' W' w'):Post m W w m' W' w':=
 ⟨h.ag,h.mono,h.size,h.keep,h.own,h.os,h.tape,h.output⟩
omit [Env] in
theorem PostN.trans {n:Nat} {m m1 m2:Nat→Loc} {W W1 W2:RW} {w w1 w2:World} (h:PostN n m W w m1 W1 w1) (k:PostN n m1 W1 w1 m2 W2 w2):PostN n m W w m2 W2 w2:=by
 refine⟨fun b hb=>(k.ag b hb).trans (h.ag b hb),k.mono,Nat.le_trans h.size k.size,?_,?_,k.os.trans h.os,k.tape.trans h.tape,k.output.trans h.output⟩
 ·intro r hr hn
  rw [k.keep r (Nat.lt_of_lt_of_le hr h.size),h.keep r hr hn]
  intro b o hb ho hbr
  rcases h.own b o hb ho with h1 | ⟨a,x,h1,h2,h3⟩
  ·omega
  ·exact hn a x h1 h2 (h3.trans hbr)
 ·intro b o hb ho
  rcases k.own b o hb ho with h1 | ⟨a,x,h1,h2,h3⟩
  ·exact .inl (Nat.le_trans h.size h1)
  ·rcases h.own a x h1 h2 with h4 | ⟨a',x',h4,h5,h6⟩
   ·exact .inl (by omega)
   ·exact .inr ⟨a',x',h4,h5,h6.trans h3⟩
omit [Env] in
theorem PostN.seen {n:Nat} {m m2:Nat→Loc} {W W2:RW} {w:World} (ha:Agree n m m2) (hn:n≤W2.n) (ho:∀b o,W2.get b=some o→o.own=true→∃a x,W.get a=some x∧x.own=true∧(m a).blk=(m2 b).blk):PostN n m W w m2 W2 w:=
 ⟨ha,hn,Nat.le_refl _,fun _ _ _=>rfl,fun b o hb hown=>.inr (ho b o hb hown),rfl,rfl,rfl⟩
structure FrX (h0:Nat) (m:Nat→Loc) (s:St) (fr:Frame) (f:FuncId) (rd:Option Nat) (w:World):Prop where
 mode:fr.mode=.run
 fn:fr.fn=f
 rnd:fr.roundOf=rd.map fun l=>(m l).blk
 tr:TR m s.t fr.tmps
 rlt:∀l,rd=some l→l < s.W.n
 le:h0≤w.heap.size
 mks:∀e∈fr.defers,∃r,e={ target:=.collected r,args:=#[] }∧h0≤r∧w.heap[r]?=some (.deferred (some []))∧∀b o,s.W.get b=some o→o.own=true→(m b).blk≠r
 nd:fr.defers.Nodup
omit [Env] in
theorem FrX.todo {h0:Nat} {m:Nat→Loc} {s:St} {fr:Frame} {f:FuncId} {rd:Option Nat} {w:World} (h:FrX h0 m s fr f rd w) (k:List Item):FrX h0 m s { fr with todo:=k } f rd w:=
 ⟨h.mode,h.fn,h.rnd,h.tr,h.rlt,h.le,h.mks,h.nd⟩
omit [Env] in
theorem marks_next {n h0:Nat} {m m':Nat→Loc} {W W':RW} {w w':World} (hp:PostN n m W w m' W' w') {ds:List Deferred}
  (h:∀e∈ds,∃r,e={ target:=.collected r,args:=#[] }∧h0≤r∧w.heap[r]?=some (.deferred (some []))∧∀b o,W.get b=some o→o.own=true→(m b).blk≠r) :
  ∀e∈ds,∃r,e={ target:=.collected r,args:=#[] }∧h0≤r∧w'.heap[r]?=some (.deferred (some []))∧∀b o,W'.get b=some o→o.own=true→(m' b).blk≠r:=by
 intro e he
 obtain⟨r,h1,h2,h3,h4⟩:=h e he
 have hr:r < w.heap.size:=(Array.getElem?_eq_some_iff.1 h3).1
 refine⟨r,h1,h2,by rw [hp.keep r hr h4]; exact h3,fun b o hb ho hbr=>?_⟩
 rcases hp.own b o hb ho with h5 | ⟨a,x,h5,h6,h7⟩
 ·omega
 ·exact h4 a x h5 h6 (h7.trans hbr)
omit [Env] in
theorem FrX.next {n h0:Nat} {m m':Nat→Loc} {s:St} {fr:Frame} {f:FuncId} {rd:Option Nat} {W W':RW} {w w':World} (h:FrX h0 m s fr f rd w) (hW:W=s.W) (hp:PostN n m W w m' W' w') (hn:∀l,rd=some l→l < n) {t':RT} {tm:Array Value} (ht:TR m' t' tm) (ds:List Nat) (k:List Item) :
  FrX h0 m' ⟨t',W',ds⟩ { fr with tmps:=tm,todo:=k } f rd w':=by
 subst hW
 refine⟨h.mode,h.fn,?_,ht,fun l hl=>Nat.lt_of_lt_of_le (hn l hl) hp.mono,Nat.le_trans h.le hp.size,marks_next hp h.mks,h.nd⟩
 show fr.roundOf=_
 rw [h.rnd]
 cases rd with
 | none=>rfl
 | some l=>simp [hp.ag l (hn l rfl)]
def CodeTo (n:Nat) (P:Program) (f:FuncId) (rd:Option Nat) (c:Code) (s:St) (Q:Ex→St→Prop):Prop:=
 ∀(h0:Nat) (m:Nat→Loc) (w:World) (fr:Frame) (cs:List Frame) (k:List Item),n≤s.W.n→(∀l,rd=some l→l < n)→Rel m s.W w→tlt s.W.n s.t→FrX h0 m s fr f rd w→fr.todo=.code c :: k →
  ∃ex s' m' w' fr2,Q ex s'∧Steps P (lone fr cs w) (lone fr2 cs w')∧Rel m' s'.W w'∧tlt s'.W.n s'.t∧FrX h0 m' s' fr2 f rd w'∧PostN n m s.W w m' s'.W w'∧fr2.kind=fr.kind∧Left ex fr2.todo k
def Viewed (n:Nat) (s:St) (Q:St→Prop):Prop:=
 ∀(m:Nat→Loc) (w:World) (arr:Array Value),n≤s.W.n→Rel m s.W w→tlt s.W.n s.t→TR m s.t arr →
  ∃m2 s2,Q s2∧Agree n m m2∧Rel m2 s2.W w∧tlt s2.W.n s2.t∧TR m2 s2.t arr∧n≤s2.W.n∧∀b o,s2.W.get b=some o→o.own=true→∃a x,s.W.get a=some x∧x.own=true∧(m a).blk=(m2 b).blk
def thenQ (cont:St→Prop) (Q:Ex→St→Prop):Ex→St→Prop:=fun ex s=>match ex with
 | .nrm=>cont s
 | e=>Q e s
variable {n0:Nat} {f:FuncId} {rd:Option Nat} {Q:Ex→St→Prop}
omit [Env] in
theorem frame_view {h0:Nat} {m m2:Nat→Loc} {s s2:St} {fr:Frame} {w:World} (h:FrX h0 m s fr f rd w) (hrd:∀l,rd=some l→l < n0) (ha:Agree n0 m m2) (ht:TR m2 s2.t fr.tmps) (hn:n0≤s2.W.n)
  (ho:∀b o,s2.W.get b=some o→o.own=true→∃a x,s.W.get a=some x∧x.own=true∧(m a).blk=(m2 b).blk):FrX h0 m2 s2 fr f rd w:=
 (h.next rfl (PostN.seen ha hn ho) hrd ht s2.ds fr.todo)
theorem reflTo {c:Code} {s:St} {ex:Ex} (h:∀(_:Nat→Loc) (w:World) (fr:Frame) (cs:List Frame) (k:List Item),fr.mode=.run→fr.todo=.code c :: k →
  ∃todo,Steps P (lone fr cs w) (lone { fr with todo:=todo } cs w)∧Left ex todo k) (hQ:Q ex s):CodeTo n0 P f rd c s Q:=by
 intro h0 m w fr cs k hn hrd hr hl hfr htd
 obtain⟨todo,st,hleft⟩:=h m w fr cs k hfr.mode htd
 exact⟨ex,s,m,w,_,hQ,st,hr,hl,hfr.todo _,(Post.refl _ _ _).at hn,rfl,hleft⟩
def RegRun (P:Program) (id:Nat) (ops:Array Oper) (draw:Bool) (T:RT) (W:RW) (T':RT) (W':RW):Prop:=
 ∀(m:Nat→Loc) (w:World) (fr:Frame) (cs:List Frame) (k:List Item),Rel m W w→tlt W.n T→TR m T fr.tmps→fr.mode=.run→fr.todo=.code (.region id ops draw) :: k →
  ∃m' w' tm,Steps P (lone fr cs w) (lone { fr with tmps:=tm,todo:=k } cs w')∧Rel m' W' w'∧Post m W w m' W' w'∧tlt W'.n T'∧TR m' T' tm
theorem regTo {id:Nat} {ops:Array Oper} {draw:Bool} {T T':RT} {W W':RW} {ds:List Nat} (h:RegRun P id ops draw T W T' W') (hQ:Q .nrm ⟨T',W',ds⟩):CodeTo n0 P f rd (.region id ops draw) ⟨T,W,ds⟩ Q:=by
 intro h0 m w fr cs k hn hrd hr hl hfr htd
 obtain⟨m',w',tm,st,h1,h2,h3,h4⟩:=h m w fr cs k hr hl hfr.tr hfr.mode htd
 exact⟨.nrm,_,m',w',_,hQ,st,h1,h3,hfr.next rfl (h2.at hn) hrd h4 ds k,h2.at hn,rfl,rfl⟩
theorem regRun_ok {ev:Ev} (hev:EvOk P ev) (hN:NoOwn P) (hD:DrawOk P) {id:Nat} {ops:Array Oper} {draw:Bool} {T T':RT} {W W':RW} {r:RReg} (hdec:decReg P ops draw=some r) (hq:regR P ev r T W=some (T',W')):RegRun P id ops draw T W T' W':=by
 intro m w fr cs k hr hl htr hm htd
 cases draw with
 | true =>
  obtain⟨tp,st1⟩:=s_draw (P:=P) (cs:=cs) (w:=w) hm htd
  obtain⟨m',w',tm,st2,hr',hp',hl',ht'⟩:=hD ev hev ops r T T' W W' hdec hq m { w with drawn:=w.drawn+1 } { fr with todo:=.inRegion ops (Region.schedule (P.follows .mixedOrders) ops tp) :: k } cs k tp (hr.same rfl) hl htr hm rfl
  exact⟨m',w',_,st1.trans st2,hr',hp'.drew,hl',ht'⟩
 | false =>
  unfold decReg at hdec
  split at hdec
  ·rename_i l hl2
   simp only [Bool.false_eq_true,if_false,Option.some.injEq]at hdec
   subst hdec
   obtain⟨hlen,hall⟩:=decRegs_ok hl2
   have st1:=s_region (P:=P) (cs:=cs) (w:=w) hm htd
   obtain⟨m',w',tm,st2,hr',hp',hl',ht'⟩:=seqR_ok hev hN l (List.range ops.size) T T' W W' hq (by simp [hlen]) (fun j i r hi hrr=>by
    have hji:j=i:=by
     have:=(List.getElem?_eq_some_iff.1 hi).2
     simpa using this
    subst hji
    exact hall j r hrr) m w { fr with todo:=.inRegion ops (List.range ops.size) :: k } cs k hr hl htr hm rfl
   exact⟨m',w',_,st1.trans st2,hr',hp',hl',ht'⟩
  ·simp at hdec
theorem CodeTo.mono {c:Code} {s:St} {Q':Ex→St→Prop} (h:CodeTo n0 P f rd c s Q) (hQ:∀ex s,Q ex s→Q' ex s):CodeTo n0 P f rd c s Q':=by
 intro h0 m w fr cs k hn hrd hr hl hfr htd
 obtain⟨ex,s',m',w',fr2,h1,h2⟩:=h h0 m w fr cs k hn hrd hr hl hfr htd
 exact⟨ex,s',m',w',fr2,hQ _ _ h1,h2⟩
theorem viewTo {c:Code} {s:St} (h:Viewed n0 s fun s2=>CodeTo n0 P f rd c s2 Q):CodeTo n0 P f rd c s Q:=by
 intro h0 m w fr cs k hn hrd hr hl hfr htd
 obtain⟨m2,s2,h1,ha,h2,h3,h4,h6,h8⟩:=h m w fr.tmps hn hr hl hfr.tr
 have hfr2:FrX h0 m2 s2 fr f rd w:=frame_view hfr hrd ha h4 h6 h8
 obtain⟨ex,s',m',w',fr2,g1,g2,g3,g4,g5,g6,g7,g8⟩:=h1 h0 m2 w fr cs k h6 hrd h2 h3 hfr2 htd
 exact⟨ex,s',m',w',fr2,g1,g2,g3,g4,g5,(PostN.seen ha h6 h8).trans g6,g7,g8⟩
theorem seqTo {a b:Code} {s:St} (h:CodeTo n0 P f rd a s (thenQ (fun s1=>CodeTo n0 P f rd b s1 Q) Q)):CodeTo n0 P f rd (.seq a b) s Q:=by
 intro h0 m w fr cs k hn hrd hr hl hfr htd
 obtain⟨ex,s1,m1,w1,fr1,h1,st1,hr1,hl1,hfr1,hp1,hk1,hleft1⟩:=h h0 m w { fr with todo:=.code a :: .code b :: k } cs (.code b :: k) hn hrd hr hl (hfr.todo _) rfl
 have st0:=s_seq (P:=P) (cs:=cs) (w:=w) hfr.mode htd
 have hx:(∀id,Item.code b≠.inBlock id)∧(∀c,Item.code b≠.inScope c):=⟨by simp,by simp⟩
 cases ex with
 | nrm =>
  have h1':CodeTo n0 P f rd b s1 Q:=h1
  have htd1:fr1.todo=.code b :: k:=hleft1
  obtain⟨ex2,s2,m2,w2,fr2,g1,g2,g3,g4,g5,g6,g7,g8⟩:=h1' h0 m1 w1 fr1 cs k hp1.mono hrd hr1 hl1 hfr1 htd1
  exact⟨ex2,s2,m2,w2,fr2,g1,st0.trans (st1.trans g2),g3,g4,g5,hp1.trans g6,g7.trans hk1,g8⟩
 | exit id=>exact⟨_,s1,m1,w1,fr1,h1,st0.trans st1,hr1,hl1,hfr1,hp1,hk1,hleft1.pass hx (by simp)⟩
 | ret=>exact⟨_,s1,m1,w1,fr1,h1,st0.trans st1,hr1,hl1,hfr1,hp1,hk1,hleft1.pass hx (by simp)⟩
 | goto l=>exact⟨_,s1,m1,w1,fr1,h1,st0.trans st1,hr1,hl1,hfr1,hp1,hk1,hleft1.pass hx (by simp)⟩
theorem startTo {c c2:Code} {s:St} (hs:∀(m:Nat→Loc) (fr:Frame) (cs:List Frame) (w:World) (k:List Item),Rel m s.W w→tlt s.W.n s.t→TR m s.t fr.tmps→fr.mode=.run→fr.todo=.code c2 :: k→Steps P (lone fr cs w) (lone { fr with todo:=.code c :: k } cs w))
  (h:CodeTo n0 P f rd c s Q):CodeTo n0 P f rd c2 s Q:=by
 intro h0 m w fr cs k hn hrd hr hl hfr htd
 obtain⟨ex,s',m',w',fr2,h1,st,h2⟩:=h h0 m w { fr with todo:=.code c :: k } cs k hn hrd hr hl (hfr.todo _) rfl
 exact⟨ex,s',m',w',fr2,h1,(hs m fr cs w k hr hl hfr.tr hfr.mode htd).trans st,h2⟩
theorem condTo {c:Operand} {a b:Code} {s:St} {v:Bool} (hc:okO c=true) (hv:opd c s.t=.v (.bool v)) (h:CodeTo n0 P f rd (if v then a else b) s Q):CodeTo n0 P f rd (.cond c a b) s Q:=by
 refine startTo (fun m fr cs w k hr hl ht hm htd=>?_) h
 have hcond:evV fr.tmps c=.bool v:=by
  rw [← (opd_ok (⟨ht,hl,hr⟩:Cx m s.t s.W fr.tmps w) hc).1,hv]; rfl
 exact s_cond hm htd hcond
theorem blockTo {id:Nat} {c:Code} {s:St} (h:CodeTo n0 P f rd c s fun ex s1=>match ex with
  | .exit id'=>if Nat.beq id' id then Q .nrm s1 else Q (.exit id') s1
  | e=>Q e s1):CodeTo n0 P f rd (.block id c) s Q:=by
 intro h0 m w fr cs k hn hrd hr hl hfr htd
 obtain⟨ex,s1,m1,w1,fr1,h1,st1,hr1,hl1,hfr1,hp1,hk1,hleft1⟩:=h h0 m w { fr with todo:=.code c :: .inBlock id :: k } cs (.inBlock id :: k) hn hrd hr hl (hfr.todo _) rfl
 have st0:=s_block (P:=P) (cs:=cs) (w:=w) hfr.mode htd
 cases ex with
 | nrm =>
  have htd1:fr1.todo=.inBlock id :: k:=hleft1
  exact⟨.nrm,s1,m1,w1,{ fr1 with todo:=k },h1,st0.trans (st1.trans (s_inBlock hfr1.mode htd1)),hr1,hl1,hfr1.todo _,hp1,hk1,rfl⟩
 | exit id' =>
  obtain⟨k2,g1,g2⟩:=hleft1
  simp only at h1
  split at h1
  ·rename_i hid
   have hid':id'=id:=Nat.eq_of_beq_eq_true hid
   subst hid'
   have h3:exitTo id' k2=some k:=by rw [g2]; simp [exitTo]
   exact⟨.nrm,s1,m1,w1,{ fr1 with todo:=k },h1,st0.trans (st1.trans (s_exit hfr1.mode g1 h3)),hr1,hl1,hfr1.todo _,hp1,hk1,rfl⟩
  ·rename_i hid
   have hid':id'≠id:=fun e=>hid (by rw [e]; exact Nat.beq_refl _)
   refine⟨_,s1,m1,w1,fr1,h1,st0.trans st1,hr1,hl1,hfr1,hp1,hk1,k2,g1,g2.trans ?_⟩
   simp [exitTo,Ne.symm hid']
 | ret=>exact⟨_,s1,m1,w1,fr1,h1,st0.trans st1,hr1,hl1,hfr1,hp1,hk1,hleft1⟩
 | goto l =>
  obtain⟨k2,g1,g2⟩:=hleft1
  exact⟨_,s1,m1,w1,fr1,h1,st0.trans st1,hr1,hl1,hfr1,hp1,hk1,k2,g1,g2.trans (by simp [gotoIn])⟩
theorem scopeTo {c:Code} {s:St} (h:CodeTo n0 P f rd c s fun ex s1=>match ex with
  | .goto _=>False
  | e=>Q e s1):CodeTo n0 P f rd (.scope c) s Q:=by
 intro h0 m w fr cs k hn hrd hr hl hfr htd
 obtain⟨ex,s1,m1,w1,fr1,h1,st1,hr1,hl1,hfr1,hp1,hk1,hleft1⟩:=h h0 m w { fr with todo:=.code c :: .inScope c :: k } cs (.inScope c :: k) hn hrd hr hl (hfr.todo _) rfl
 have st0:=s_scope (P:=P) (cs:=cs) (w:=w) hfr.mode htd
 cases ex with
 | nrm =>
  have htd1:fr1.todo=.inScope c :: k:=hleft1
  exact⟨.nrm,s1,m1,w1,{ fr1 with todo:=k },h1,st0.trans (st1.trans (s_inScope hfr1.mode htd1)),hr1,hl1,hfr1.todo _,hp1,hk1,rfl⟩
 | exit id' =>
  obtain⟨k2,g1,g2⟩:=hleft1
  exact⟨_,s1,m1,w1,fr1,h1,st0.trans st1,hr1,hl1,hfr1,hp1,hk1,k2,g1,g2.trans (by simp [exitTo])⟩
 | ret=>exact⟨_,s1,m1,w1,fr1,h1,st0.trans st1,hr1,hl1,hfr1,hp1,hk1,hleft1⟩
 | goto l=>exact h1.elim
theorem loopTo {c:Code} {I:Nat→St→Prop} (hb:∀n s,I n s→CodeTo n0 P f rd c s (thenQ (fun s1=>Viewed n0 s1 fun s2=>∃n',n' < n∧I n' s2) Q)):∀n s,I n s→CodeTo n0 P f rd (.loop c) s Q:=by
 intro n
 induction n using Nat.strongRecOn with
 | _ n ih =>
  intro s hs h0 m w fr cs k hn hrd hr hl hfr htd
  obtain⟨ex,s1,m1,w1,fr1,h1,st1,hr1,hl1,hfr1,hp1,hk1,hleft1⟩:=hb n s hs h0 m w { fr with todo:=.code c :: .inLoop c :: k } cs (.inLoop c :: k) hn hrd hr hl (hfr.todo _) rfl
  have st0:=s_loop (P:=P) (cs:=cs) (w:=w) hfr.mode htd
  have hx:(∀id,Item.inLoop c≠.inBlock id)∧(∀c',Item.inLoop c≠.inScope c'):=⟨by simp,by simp⟩
  cases ex with
  | nrm =>
   have h1':Viewed n0 s1 fun s2=>∃n',n' < n∧I n' s2:=h1
   have htd1:fr1.todo=.inLoop c :: k:=hleft1
   obtain⟨m2,s2,⟨n',hn',hI⟩,ha,g2,g3,g4,g6,g8⟩:=h1' m1 w1 fr1.tmps hp1.mono hr1 hl1 hfr1.tr
   have hfr2:FrX h0 m2 s2 { fr1 with todo:=.code (.loop c) :: k } f rd w1:=(frame_view hfr1 hrd ha g4 g6 g8).todo _
   obtain⟨ex2,s3,m3,w3,fr3,k1,k2,k3,k4,k5,k6,k7,k8⟩:=ih n' hn' s2 hI h0 m2 w1 { fr1 with todo:=.code (.loop c) :: k } cs k g6 hrd g2 g3 hfr2 rfl
   refine⟨ex2,s3,m3,w3,fr3,k1,st0.trans (st1.trans ?_),k3,k4,k5,hp1.trans ((PostN.seen ha g6 g8).trans k6),k7.trans hk1,k8⟩
   have e1:lone fr1 cs w1=lone { fr1 with todo:=.inLoop c :: k } cs w1:=by
    congr 1
    cases fr1
    simp at htd1
    subst htd1
    rfl
   rw [e1]
   refine steps_same k2 ?_ ?_
   ·intro heq
    have:=lone_inj heq
    rw [← this]at k8
    exact left_ne k8
   ·have hm:=hfr1.mode
    have q1:step P (lone { fr1 with todo:=.code (.loop c) :: k } cs w1)=.next (lone { fr1 with todo:=.code c :: .inLoop c :: k } cs w1):=by
     apply step_lone_go
     simp [stepG,stepG.exec,hm]
    have q2:step P (lone { fr1 with todo:=.inLoop c :: k } cs w1)=.next (lone { fr1 with todo:=.code c :: .inLoop c :: k } cs w1):=by
     apply step_lone_go
     simp [stepG,stepG.exec,hm]
    rw [q1,q2]
  | exit id=>exact⟨_,s1,m1,w1,fr1,h1,st0.trans st1,hr1,hl1,hfr1,hp1,hk1,hleft1.pass hx (by simp)⟩
  | ret=>exact⟨_,s1,m1,w1,fr1,h1,st0.trans st1,hr1,hl1,hfr1,hp1,hk1,hleft1.pass hx (by simp)⟩
  | goto l=>exact⟨_,s1,m1,w1,fr1,h1,st0.trans st1,hr1,hl1,hfr1,hp1,hk1,hleft1.pass hx (by simp)⟩
theorem dropMarks {n:Nat} {W W0:RW} {m m0:Nat→Loc} {w0:World} {h0:Nat}:∀(ds:List Deferred) (w:World) (fr:Frame) (cs:List Frame),Rel m W w→PostN n m0 W0 w0 m W w→fr.mode=.returning→fr.defers=ds→ds.Nodup→w0.heap.size=h0 →
  (∀e∈ds,∃r,e={ target:=.collected r,args:=#[] }∧h0≤r∧w.heap[r]?=some (.deferred (some []))∧∀b o,W.get b=some o→o.own=true→(m b).blk≠r) →
  ∃w',Steps P (lone fr cs w) (lone { fr with defers:=[] } cs w')∧Rel m W w'∧PostN n m0 W0 w0 m W w'
 | [],w,fr,cs,hr,hp,hm,hd,_,_,_=>by
  refine⟨w,?_,hr,hp⟩
  have:({ fr with defers:=[] }:Frame)=fr:=by
   cases fr
   simp at hd
   subst hd
   rfl
  rw [this]
  exact Steps.refl _ _
 | e :: ds,w,fr,cs,hr,hp,hm,hd,hnd,hsz,hmk=>by
  obtain⟨r,he,hle,hh,hun⟩:=hmk e List.mem_cons_self
  subst he
  have hrs:r < w.heap.size:=(Array.getElem?_eq_some_iff.1 hh).1
  have hoth:∀q,q≠r→({ w with heap:=w.heap.setIfInBounds r (.deferred none) }:World).heap[q]?=w.heap[q]?:=fun q hq=>by
   simp [Array.getElem?_setIfInBounds_ne (Ne.symm hq)]
  have hlive:∀b o,W.get b=some o→o.live=true→(m b).blk≠r:=by
   intro b o hb hlv hbr
   have ho:=hr.obj b o hb
   by_cases hown:o.own=true
   ·exact hun b o hb hown hbr
   ·have key:∀x,w.heap[(m b).blk]?=some x→x=.deferred (some []):=fun x hx=>by rw [hbr,hh]at hx; exact(Option.some.inj hx).symm
    cases o with
    | dead=>simp [RObj.live]at hlv
    | cells c k=>obtain⟨_,_,_,h1,_⟩:=ho; exact absurd (key _ h1) (by simp)
    | map es clock ro=>exact absurd (key _ ho) (by simp)
    | miter b since seen stepped=>exact absurd (key _ ho) (by simp)
    | siter s pos=>exact absurd (key _ ho) (by simp)
    | loop st pend fn t params assign body d=>obtain⟨_,_,h2⟩:=ho; exact absurd (key _ h2) (by simp)
    | dfr taken=>exact hown rfl
  have hr1:Rel m W { w with heap:=w.heap.setIfInBounds r (.deferred none) }:=by
   refine⟨hr.wf,fun b o hb=>(hr.obj b o hb).heap fun hlv=>hoth _ (hlive b o hb hlv),hr.lt,hr.inj,hr.glb⟩
  have hp1:PostN n m0 W0 w0 m W { w with heap:=w.heap.setIfInBounds r (.deferred none) }:=by
   refine⟨hp.ag,hp.mono,by simpa using hp.size,?_,hp.own,hp.os,hp.tape,hp.output⟩
   intro q hq hn
   rw [hoth q (by omega)]
   exact hp.keep q hq hn
  have hnd':=List.nodup_cons.1 hnd
  obtain⟨w2,st2,hr2,hp2⟩:=dropMarks ds _ { fr with defers:=ds } cs hr1 hp1 hm rfl hnd'.2 hsz (fun e' he'=>by
   obtain⟨r',h1,h2,h3,h4⟩:=hmk e' (List.mem_cons_of_mem _ he')
   refine⟨r',h1,h2,?_,h4⟩
   rw [hoth r' (fun hrr=>hnd'.1 (by rw [← hrr,← h1]; exact he'))]
   exact h3)
  refine⟨w2,Steps.trans ?_ st2,hr2,hp2⟩
  apply step_unwind hm
  have htd:(Instr.takeDeferred r).run P w=.ok [] { w with heap:=w.heap.setIfInBounds r (.deferred none) }:=by
   simp [Instr.takeDeferred,getObj,setObj,Sem.run,hh]
  unfold unwind
  rw [hd]
  simp [htd]
theorem leaveTo {g:FuncId} {fn:Func} {n:Nat} (hfn:P.funcs[g]?=some fn) {ex:Ex} {s:St} {m m0:Nat→Loc} {w w0:World} {W0:RW} {fr:Frame} {cs:List Frame} {xs:List RV} (hex:ex=.nrm∨ex=.ret) (hr:Rel m s.W w) (hl:tlt s.W.n s.t) (hfr:FrX w0.heap.size m s fr g none w)
  (hp:PostN n m0 W0 w0 m s.W w) (hk:fr.kind=.normal) (hleft:Left ex fr.todo []) (hxs:resultsR P s.t s.W fn.results.toList=some xs) :
  ∃w' fr2,Steps P (lone fr cs w) (lone fr2 cs w')∧fr2.leaving P w' (.returned (rv m (one xs)))∧fr2.fn=g∧Rel m s.W w'∧PostN n m0 W0 w0 m s.W w'∧below s.W.n (one xs)=true:=by
 have htd:fr.todo=[]∨∃k,fr.todo=.code .ret :: k:=by
  rcases hex with rfl | rfl
  ·exact .inl hleft
  ·exact .inr hleft
 have st2:=s_return (P:=P) (cs:=cs) (w:=w) hfr.mode htd hfr.rnd
 obtain⟨w2,st3,hr2,hp2⟩:=dropMarks (P:=P) fr.defers w { fr with mode:=.returning } cs hr hp rfl rfl hfr.nd rfl hfr.mks
 obtain⟨r1,r2⟩:=results_ok (P:=P) (fn:=fn) hr2 hfr.tr hl hxs
 refine⟨w2,_,st2.trans st3,⟨rfl,rfl,hk,fn,?_,r1⟩,hfr.fn,hr2,hp2,r2⟩
 rw [← hfr.fn]at hfn; exact hfn
omit [Env] in
theorem FrX.enter {g:FuncId} {fn:Func} (hfn:P.funcs[g]?=some fn) {m:Nat→Loc} {w:World} {args:List RV} {W:RW} {T:RT} (hT:∀i,T.get i=(args[i]?).getD ud) (hTn:T.n=max args.length fn.ntmps) :
  FrX w.heap.size m ⟨T,W,[]⟩ (Frame.enter P g (args.map (rv m)).toArray .normal) g none w:=by
 refine⟨rfl,rfl,rfl,⟨?_,?_⟩,by simp,Nat.le_refl _,fun e he=>by simp [Frame.enter]at he,List.nodup_nil⟩
 ·simp [Frame.enter,hfn,hTn]; omega
 ·intro i
  rw [hT]
  simp only [Frame.enter,hfn,Option.map_some,Option.getD_some]
  rw [enter_get,List.getElem?_map]
  cases args[i]?<;>rfl
theorem CallTo.ok {g:FuncId} {args:List RV} {W W':RW} {x:RV} (h:CallTo P g args W fun y V=>y=x∧V=W'):CallOk P g args W x W':=by
 intro m w cs hr hb
 obtain⟨y,V,m',w',fr,⟨rfl,rfl⟩,h1⟩:=h m w cs hr hb
 exact⟨m',w',fr,h1⟩
end
end Go.Rv
namespace Go.Rv
open Go
noncomputable section
section
variable [Env] (P:Program)
def inCall (V:Ora) (o:Op) (t:List SV):Option (FuncId×List SV×List SV×List Operand):=match o with
 | .call c=>match c.callee with
  | .value f=>match okO f with
   | true=>match opS f t with
    | .v (.func (.func g) a cs)=>match a.toList,cs.toList with
     | [],[]=>match V.has g with
      | true=>some (g,[],[],c.args.toList)
      | false=>none
     | _,_=>none
    | .fv g ks=>match V.has g with
     | true=>some (g,[],ks.map fun k=>.ptr k 0,c.args.toList)
     | false=>none
    | .bf g s=>match V.has g with
     | true=>some (g,[s],[],c.args.toList)
     | false=>none
    | _=>none
   | false=>none
  | _=>none
 | _=>none
def yCall (V:Ora) (o:Op) (t:List SV):Option (List Operand):=match V.y.on with
 | false=>none
 | true=>match o with
  | .call c=>match c.callee with
   | .value f=>match okO f with
    | true=>match opS f t with
     | .yl k=>match Nat.beq k V.y.l with
      | true=>some c.args.toList
      | false=>none
     | _=>none
    | false=>none
   | _=>none
  | _=>none
def yRun (Y:Yd) (args:List SV) (σ:SMem) (K:SV→SMem→Prop):Prop:=match Y with
 | ⟨_,B,_,run⟩=>Ob (σ.B=B)∧run args σ K
def inOp (V:Ora) (o:Op):Bool:=match o with
 | .call c=>match c.callee with
  | .value f=>match f with
   | .func g=>V.has g
   | .tmp _=>true
   | _=>false
  | _=>false
 | _=>false
def inReg (V:Ora) (ops:Array Oper):Bool:=match V.on || V.y.on with
 | true=>ops.toList.any fun o=>inOp V o.op
 | false=>false
def wGo (C:Know) (o:Oper) (t:List SV) (σ:SMem) (K:Kt):Prop:=match effCall C.E o.op with
 | some (con,xs)=>opsK xs t fun args=>con.w args σ fun x σ=>fsv x fun x=>putS o.dst t x fun t=>K t σ
 | none=>match appOf o.op with
 | some (ty,tx,s,x)=>op1 s t fun s=>op1 x t fun x=>wAppend P ty tx s x σ fun x σ=>fsv x fun x=>putS o.dst t x fun t=>K t σ
 | none=>match isVal o.op with
 | true=>wVal P C.C o.op t σ fun x=>putS o.dst t x fun t=>K t σ
 | false=>wEff P o.op t σ fun x σ=>putS o.dst t x fun t=>K t σ
def wOneI (C:Know) (ops:Array Oper) (o:Oper) (t:List SV) (σ:SMem) (K:Kt):Prop:=
 guardS ops o t
  (fun t=>match yCall C.V o.op t with
   | some xs=>opsK xs t fun args=>yRun C.V.y args σ fun x σ=>fsv x fun x=>putS o.dst t x fun t=>K t σ
   | none=>match inCall C.V o.op t with
    | some (g,fs,cs,xs)=>opsK xs t fun args=>C.V.run Yd.no g (fs++(args++cs)) σ fun x σ=>fsv x fun x=>putS o.dst t x fun t=>K t σ
    | none=>wGo P C o t σ K)
  (fun t=>putS o.dst t (.v undef) fun t=>K t σ)
def wSeqI (C:Know) (ops:Array Oper):List Oper→List SV→SMem→Kt→Prop
 | [],t,σ,K=>K t σ
 | o :: r,t,σ,K=>wOneI P C ops o t σ fun t σ=>wSeqI C ops r t σ K
def wRegI (C:Know) (ops:Array Oper) (draw:Bool) (t:List SV) (σ:SMem) (K:Kt):Prop:=match decReg P ops draw with
 | some (.seq _)=>wSeqI P C ops ops.toList t σ K
 | some (.draw _ _ false)=>fnat (planTail (Region.before ops).toList ops.size) fun k =>
   wPre P C ops (ops.toList.take k) t σ fun t σ=>wSeqI P C ops (ops.toList.drop k) t σ K
 | _=>False
end
end
section
variable [Env] {P:Program} {ev:Ev}
def OpTo (P:Program) (ops:Array Oper) (o:Oper) (T:RT) (W:RW) (Q:RT→RW→Prop):Prop:=
 ∀(m:Nat→Loc) (w:World) (fr:Frame) (cs:List Frame) (i:Nat) (rest:List Nat) (k:List Item),Rel m W w→tlt W.n T→TR m T fr.tmps→fr.mode=.run→fr.todo=.inRegion ops (i :: rest) :: k→ops[i]?=some o →
  ∃T' W' m' w' tm,Q T' W'∧Steps P (lone fr cs w) (lone { fr with tmps:=tm,todo:=.inRegion ops rest :: k } cs w')∧Rel m' W' w'∧Post m W w m' W' w'∧tlt W'.n T'∧TR m' T' tm
def RegTo (P:Program) (ops:Array Oper) (is:List Nat) (T:RT) (W:RW) (Q:RT→RW→Prop):Prop:=
 ∀(m:Nat→Loc) (w:World) (fr:Frame) (cs:List Frame) (k:List Item),Rel m W w→tlt W.n T→TR m T fr.tmps→fr.mode=.run→fr.todo=.inRegion ops is :: k →
  ∃T' W' m' w' tm,Q T' W'∧Steps P (lone fr cs w) (lone { fr with tmps:=tm,todo:=k } cs w')∧Rel m' W' w'∧Post m W w m' W' w'∧tlt W'.n T'∧TR m' T' tm
theorem OpTo.one (hev:EvOk P ev) (hN:NoOwn P) {ops:Array Oper} {o:Oper} {r:ROper} (hok:OpOk P ops o r) {T T':RT} {W W':RW} {Q:RT→RW→Prop} (h:oneR P ev r T W=some (T',W')) (hQ:Q T' W'):OpTo P ops o T W Q:=by
 intro m w fr cs i rest k hr hl htr hm ht ho
 obtain⟨m',w',tm,h1,h2,h3,h4,h5⟩:=oneR_ok hev hN hok h (cs:=cs) hr hl htr hm ht ho
 exact⟨T',W',m',w',tm,hQ,h1,h2,h3,h4,h5⟩
omit [Env] in
theorem denL_caps (N:Nat):∀ks:List Nat,denL N (ks.map fun k=>.ptr k 0)=ks.map fun k=>RV.ptr (N+k) 0
 | []=>rfl
 | k :: r=>by simp only [List.map_cons,denL,den,denL_caps N r]
omit [Env] in
theorem denL_apps (N:Nat) (a b:List SV):denL N (a++b)=denL N a++denL N b:=by
 rw [denL_eq,denL_eq,denL_eq,List.map_append]
theorem inCall_ok {V:Ora} {o:Op} {t:List SV} {g:FuncId} {fs cs:List SV} {xs:List Operand} (h:inCall V o t=some (g,fs,cs,xs)) :
  ∃c f,o=.call c∧c.callee=.value f∧okO f=true∧xs=c.args.toList∧V.has g=true ∧
   ((∃a b,opS f t=.v (.func (.func g) a b)∧a.toList=[]∧b.toList=[]∧fs=[]∧cs=[])∨(∃ks,opS f t=.fv g ks∧fs=[]∧cs=ks.map fun k=>.ptr k 0)∨∃s,opS f t=.bf g s∧fs=[s]∧cs=[]):=by
 unfold inCall at h
 split at h
 ·rename_i c
  split at h
  ·rename_i f hf
   split at h
   ·rename_i hok
    split at h
    ·rename_i g' a b hop
     split at h
     ·rename_i ha hb
      split at h
      ·rename_i hh
       simp only [Option.some.injEq,Prod.mk.injEq]at h
       obtain⟨rfl,rfl,rfl,rfl⟩:=h
       exact⟨c,f,rfl,hf,hok,rfl,hh,.inl ⟨a,b,hop,ha,hb,rfl,rfl⟩⟩
      ·simp at h
     ·simp at h
    ·rename_i g' ks hop
     split at h
     ·rename_i hh
      simp only [Option.some.injEq,Prod.mk.injEq]at h
      obtain⟨rfl,rfl,rfl,rfl⟩:=h
      exact⟨c,f,rfl,hf,hok,rfl,hh,.inr (.inl ⟨ks,hop,rfl,rfl⟩)⟩
     ·simp at h
    ·rename_i g' s hop
     split at h
     ·rename_i hh
      simp only [Option.some.injEq,Prod.mk.injEq]at h
      obtain⟨rfl,rfl,rfl,rfl⟩:=h
      exact⟨c,f,rfl,hf,hok,rfl,hh,.inr (.inr ⟨s,hop,rfl,rfl⟩)⟩
     ·simp at h
    ·simp at h
   ·simp at h
  ·simp at h
 ·simp at h
theorem OpTo.call (hN:NoOwn P) {V:Ora} (hV:OraOk P V) {ops:Array Oper} {o:Oper} {r:ROper} (hd:decOper P ops o=some r) {t:List SV} {T:RT} {σ:SMem} {K:SV→SMem→Prop} {g:FuncId} {fs cs:List SV} {xs:List Operand} {Q:RT→RW→Prop}
  (hi:inCall V o.op t=some (g,fs,cs,xs)) (hT:TT σ.B.n t T) (hw:σ.Wf) (hB:BOk σ.B) (hwant:wantedR T r.guard=true) (h:opsK xs t fun args=>V.run Yd.no g (fs++(args++cs)) σ K)
  (hQ:∀x σ',σ'.B=σ.B→σ'.Wf→K x σ'→∃T',r.put T (den σ.B.n x)=some T'∧Q T' σ'.den):OpTo P ops o T σ.den Q:=by
 have hok:=decOper_ok hd
 obtain⟨c,f,hop,hcal,hokf,rfl,hhas,hf⟩:=inCall_ok hi
 obtain⟨h1,h2⟩:=opsK_ok h
 obtain⟨⟨fn,hfn,hbody⟩,hcall⟩:=hV.c _ YdOk.no g _ σ K hhas hw hB h2
 have hrop:r.op=fun t _=>xCall ((f :: c.args.toList).map fun x=>opd x t):=by
  have hdo:decOp P o=some (fun t _=>xCall ((f :: c.args.toList).map fun x=>opd x t)):=by
   unfold decOp
   rw [hop]
   simp only [decCall,hcal]
   exact withL_of (by simp only [List.all_cons,hokf,h1,Bool.and_self])
  rw [hok.op]at hdo
  exact Option.some.inj hdo
 intro m w fr frs i rest k hr hl htr hm ht ho
 have hwr:Region.wanted o (yielded ops fr.tmps)=true:=by rw [wanted_ok hok htr]; exact hwant
 have hdf:=noDefer hok.op
 have he:r.op T σ.den=some (.call (opd f T) (c.args.toList.map fun x=>opd x T)):=by
  rw [hrop]
  rfl
 obtain⟨b1,b2,b3⟩:=decOp_ok (w:=w) ⟨htr,hl,hr⟩ hok.op he
 rw [opds_S hT]at b2 b3
 rw [opd_S hT]at b1 b3
 have hsem:∀w,(callSem m (den σ.B.n (opS f t)) (denL σ.B.n (c.args.toList.map fun x=>opS x t))).run P w=(callFunc g ((denL σ.B.n (fs++((c.args.toList.map fun x=>opS x t)++cs))).map (rv m)).toArray).run P w ∧
   belowL σ.den.n (denL σ.B.n (fs++((c.args.toList.map fun x=>opS x t)++cs)))=true:=by
  intro w
  rcases hf with ⟨a,b,hop1,ha,hb,rfl,rfl⟩ | ⟨ks,hop1,rfl,rfl⟩ | ⟨s,hop1,rfl,rfl⟩
  ·rw [hop1,List.append_nil,List.nil_append]
   refine⟨?_,b2⟩
   simp only [callSem,den,rv,Deferred.ofValue,invoke,Sem.run_bind,Sem.run_pure,Result.andThen_ok]
   congr 2
   apply Array.ext'
   simp only [Array.toList_append,ha,hb,List.nil_append,List.append_nil]
  ·rw [hop1]at b1
   rw [hop1,List.nil_append,denL_apps,denL_caps]
   refine⟨?_,?_⟩
   ·simp only [callSem,den,rv,Deferred.ofValue,invoke,Sem.run_bind,Sem.run_pure,Result.andThen_ok]
    congr 2
    apply Array.ext'
    simp only [List.map_append,rvL_eq,Array.toList_append,List.map_nil,List.nil_append]
   ·have hb2:belowL σ.den.n []=true∧belowL σ.den.n (ks.map fun k=>RV.ptr (σ.B.n+k) 0)=true:=by simpa [den,below] using b1
    rw [belowL_iff]at b2 ⊢
    intro y hy
    rcases List.mem_append.1 hy with hy | hy
    ·exact b2 y hy
    ·exact(belowL_iff _ _).1 hb2.2 y hy
  ·rw [hop1]at b1
   rw [hop1,List.append_nil]
   refine⟨?_,?_⟩
   ·simp only [callSem,den,rv,Deferred.ofValue,invoke,Sem.run_bind,Sem.run_pure,Result.andThen_ok]
    congr 2
    apply Array.ext'
    simp only [List.map_cons,List.cons_append,denL,rvL,Array.toList_append,List.nil_append,List.append_nil]
   ·have hb2:belowL σ.den.n [den σ.B.n s]=true∧belowL σ.den.n []=true:=by simpa [den,below] using b1
    rw [belowL_iff]at b2 ⊢
    intro y hy
    rcases List.mem_cons.1 hy with rfl | hy
    ·exact(belowL_iff _ _).1 hb2.1 _ List.mem_cons_self
    ·exact b2 y hy
 obtain⟨x,W',m',w',fr2,⟨y,σ',rfl,rfl,hσ,hwf,hK⟩,st,hlv,_,hr',hp,hx⟩:=hcall m w (fr :: frs) hr (hsem w).2
 have hrun:(execOp (evV fr.tmps) o).run P w=.ok (.enter g ((denL σ.B.n (fs++((c.args.toList.map fun x=>opS x t)++cs))).map (rv m)).toArray) w:=by
  rw [b3]
  exact((hsem w).1.trans (run_callFunc hN hfn hbody _ w))
 have st1:=(step_enter (cs:=frs) hm ht ho hwr hdf hrun).trans (st.trans (.one (step_leave_returned hlv)))
 rw [finish_region ht ho]at st1
 obtain⟨T',hput,hQ'⟩:=hQ y σ' hσ hwf hK
 have hl':tlt σ'.den.n T:=fun i=>below_mono hp.mono _ (hl i)
 obtain⟨g1,g2⟩:=put_TR hok.put hput (htr.agree hl hp.ag) hl' hx
 exact⟨T',σ'.den,m',w',_,hQ',st1,hr',hp,g2,g1⟩
theorem yCall_ok {V:Ora} {o:Op} {t:List SV} {xs:List Operand} (h:yCall V o t=some xs):∃c f,o=.call c∧c.callee=.value f∧okO f=true∧xs=c.args.toList∧opS f t=.yl V.y.l:=by
 unfold yCall at h
 split at h
 ·simp at h
 split at h
 ·rename_i c
  split at h
  ·rename_i f hf
   split at h
   ·rename_i hok
    split at h
    ·rename_i k hop
     split at h
     ·rename_i hk
      simp only [Option.some.injEq]at h
      subst h
      have:=Nat.eq_of_beq_eq_true hk
      subst this
      exact⟨c,f,rfl,hf,hok,rfl,hop⟩
     ·simp at h
    ·simp at h
   ·simp at h
  ·simp at h
 ·simp at h
theorem OpTo.yld {V:Ora} (hV:OraOk P V) {ops:Array Oper} {o:Oper} {r:ROper} (hd:decOper P ops o=some r) {t:List SV} {T:RT} {σ:SMem} {K:SV→SMem→Prop} {xs:List Operand} {Q:RT→RW→Prop}
  (hi:yCall V o.op t=some xs) (hT:TT σ.B.n t T) (hw:σ.Wf) (hB:BOk σ.B) (hwant:wantedR T r.guard=true) (h:opsK xs t fun args=>yRun V.y args σ K)
  (hQ:∀x σ',σ'.B=σ.B→σ'.Wf→K x σ'→∃T',r.put T (den σ.B.n x)=some T'∧Q T' σ'.den):OpTo P ops o T σ.den Q:=by
 have hok:=decOper_ok hd
 obtain⟨c,f,hop,hcal,hokf,rfl,hf⟩:=yCall_ok hi
 obtain⟨h1,⟨hB1⟩,h2⟩:=opsK_ok h
 have hrop:r.op=fun t _=>xCall ((f :: c.args.toList).map fun x=>opd x t):=by
  have hdo:decOp P o=some (fun t _=>xCall ((f :: c.args.toList).map fun x=>opd x t)):=by
   unfold decOp
   rw [hop]
   simp only [decCall,hcal]
   exact withL_of (by simp only [List.all_cons,hokf,h1,Bool.and_self])
  rw [hok.op]at hdo
  exact Option.some.inj hdo
 intro m w fr fs i rest k hr hl htr hm ht ho
 have hwr:Region.wanted o (yielded ops fr.tmps)=true:=by rw [wanted_ok hok htr]; exact hwant
 have hdf:=noDefer hok.op
 have he:r.op T σ.den=some (.call (opd f T) (c.args.toList.map fun x=>opd x T)):=by
  rw [hrop]
  rfl
 obtain⟨b1,b2,b3⟩:=decOp_ok (w:=w) ⟨htr,hl,hr⟩ hok.op he
 rw [opds_S hT]at b2 b3
 rw [opd_S hT,hf]at b3
 obtain⟨y,σ',m',w',hK,hσ,hwf,hcr,hr',hp,hx⟩:=hV.y _ σ K hB1 hw hB h2 m w fr fs hr b2
 have hsem:(execOp (evV fr.tmps) o).run P w=(callSem m (.yld (σ.B.n+V.y.l)) (denL σ.B.n (c.args.toList.map fun x=>opS x t))).run P w:=by
  rw [b3]
  rfl
 have st1:Steps P (lone fr fs w) (lone (fr.finish (rv m' (den σ.B.n y))) fs w'):=by
  rcases hcr with ⟨g,args,hrun,st⟩ | ⟨l,f',tm,a,b,hrun,st⟩
  ·exact(step_enter (cs:=fs) hm ht ho hwr hdf (hsem.trans hrun)).trans st
  ·exact(step_round (cs:=fs) hm ht ho hwr hdf (hsem.trans hrun)).trans st
 rw [finish_region ht ho]at st1
 obtain⟨T',hput,hQ'⟩:=hQ y σ' hσ hwf hK
 have hl':tlt σ'.den.n T:=fun i=>below_mono hp.mono _ (hl i)
 obtain⟨g1,g2⟩:=put_TR hok.put hput (htr.agree hl hp.ag) hl' hx
 exact⟨T',σ'.den,m',w',_,hQ',st1,hr',hp,g2,g1⟩
theorem wGo_ok {C:Know} (hC:KnowOk P ev C) {ops:Array Oper} {o:Oper} {r:ROper} (hd:decOper P ops o=some r) {t:List SV} {T:RT} {σ:SMem} {K:Kt} (hT:TT σ.B.n t T) (hw:σ.Wf) (hw1:wantedR T r.guard=true)
  (hgo:wGo P C o t σ K):∃t' T' σ',oneR P ev r T σ.den=some (T',σ'.den)∧TT σ.B.n t' T'∧σ'.B=σ.B∧σ'.Wf∧K t' σ':=by
 have hok:=decOper_ok hd
 have hput:=decOper_put hd
 unfold oneR
 rw [if_pos hw1]
 unfold wGo at hgo
 split at hgo
 ·rename_i con xs hcon
  obtain⟨op,x,σ',h1,h2,h3,h4,h5⟩:=effCall_ok hC hcon hT hw hgo
  rw [hok.op]at h1
  simp only [Option.some.injEq]at h1
  subst h1
  rw [fsv_eq]at h5
  obtain⟨t',T',h6,h7,h8⟩:=putS_ok hT hput h5
  exact⟨t',T',σ',by simp only [doneR,h2,h6],h7,h3,h4,h8⟩
 split at hgo
 ·rename_i tt tx s x happ
  have hgo':op1 s t fun s=>op1 x t fun x=>wAppend P tt tx s x σ fun x σ=>fsv x fun x=>putS o.dst t x fun t=>K t σ:=hgo
  obtain⟨op,x,σ',h1,h2,h3,h4,h5⟩:=wAppend_ok (ev:=ev) happ hT hw hgo'
  rw [hok.op]at h1
  simp only [Option.some.injEq]at h1
  subst h1
  rw [fsv_eq]at h5
  obtain⟨t',T',h6,h7,h8⟩:=putS_ok hT hput h5
  exact⟨t',T',σ',by simp only [doneR,h2,h6],h7,h3,h4,h8⟩
 split at hgo
 ·obtain⟨op,x,h1,h2,h3⟩:=wVal_ok hC.c hT (sees_den hw) hgo
  rw [hok.op]at h1
  simp only [Option.some.injEq]at h1
  subst h1
  obtain⟨t',T',h4,h5,h6⟩:=putS_ok hT hput h3
  have he:effR P ev (r.op T σ.den) σ.den=some (den σ.B.n x,σ.den):=by
   rcases h2 with h2 | ⟨f,args,h2,h7⟩
   ·rw [h2]; rfl
   ·rw [h2]; exact h7
  exact⟨t',T',σ,by simp only [doneR,he,h4],h5,rfl,hw,h6⟩
 ·obtain⟨op,x,σ',h1,h2,h3,h4,h5⟩:=wEff_ok (ev:=ev) hT hw hgo
  rw [hok.op]at h1
  simp only [Option.some.injEq]at h1
  subst h1
  obtain⟨t',T',h6,h7,h8⟩:=putS_ok hT hput h5
  exact⟨t',T',σ',by simp only [doneR,h2,h6],h7,h3,h4,h8⟩
def SymTo (B:RW) (K:Kt) (T:RT) (W:RW):Prop:=∃t σ,W=σ.den∧TT B.n t T∧σ.B=B∧σ.Wf∧K t σ
theorem wOneI_ok (hev:EvOk P ev) (hN:NoOwn P) {C:Know} (hC:KnowOk P ev C) {ops:Array Oper} {o:Oper} {r:ROper} (hd:decOper P ops o=some r) {t:List SV} {T:RT} {σ:SMem} {K:Kt} (hT:TT σ.B.n t T) (hw:σ.Wf) (hB:BOk σ.B)
  (h:wOneI P C ops o t σ K):OpTo P ops o T σ.den (SymTo σ.B K):=by
 have hok:=decOper_ok hd
 have hput:=decOper_put hd
 obtain⟨t1,hT1,hh⟩:=guardS_ok hT hok h
 rcases hh with ⟨hw1,hgo⟩ | ⟨hw1,hsk⟩
 ·split at hgo
  ·rename_i xs hi
   refine OpTo.yld hC.v hd hi hT1 hw hB hw1 hgo ?_
   intro x σ' hσ hwf hK
   rw [fsv_eq]at hK
   obtain⟨t',T',h6,h7,h8⟩:=putS_ok hT1 hput hK
   exact⟨T',h6,t',σ',rfl,h7,hσ,hwf,h8⟩
  split at hgo
  ·rename_i g cs xs hi
   refine OpTo.call hN hC.v hd hi hT1 hw hB hw1 hgo ?_
   intro x σ' hσ hwf hK
   rw [fsv_eq]at hK
   obtain⟨t',T',h6,h7,h8⟩:=putS_ok hT1 hput hK
   exact⟨T',h6,t',σ',rfl,h7,hσ,hwf,h8⟩
  ·obtain⟨t',T',σ',h1,h2,h3,h4,h5⟩:=wGo_ok hC hd hT1 hw hw1 hgo
   exact OpTo.one hev hN hok h1 ⟨t',σ',rfl,h2,h3,h4,h5⟩
 ·obtain⟨t',T',h4,h5,h6⟩:=putS_ok hT1 hput hsk
  have h4':r.put T ud=some T':=h4
  refine OpTo.one hev hN hok (T':=T') (W':=σ.den) ?_ ⟨t',σ,rfl,h5,rfl,hw,h6⟩
  unfold oneR
  rw [hw1]
  simp only [Bool.false_eq_true,if_false,doneR,h4']
theorem wSeqI_ok (hev:EvOk P ev) (hN:NoOwn P) {C:Know} (hC:KnowOk P ev C) {ops:Array Oper}:∀ {os:List Oper} {rs:List ROper} {is:List Nat} {t:List SV} {T:RT} {σ:SMem} {K:Kt},omap (decOper P ops) os=some rs →
  is.length=os.length→(∀(j i:Nat) (o:Oper),is[j]?=some i→os[j]?=some o→ops[i]?=some o)→TT σ.B.n t T→σ.Wf→BOk σ.B→wSeqI P C ops os t σ K→RegTo P ops is T σ.den (SymTo σ.B K)
 | [],rs,is,t,T,σ,K,hd,hlen,hall,hT,hw,hB,h=>by
  intro m w fr cs k hr hl htr hm htd
  have:is=[]:=List.eq_nil_of_length_eq_zero hlen
  subst this
  exact⟨T,σ.den,m,w,fr.tmps,⟨t,σ,rfl,hT,rfl,hw,h⟩,s_regionEnd hm htd,hr,Post.refl _ _ _,hl,htr⟩
 | o :: os,rs,is,t,T,σ,K,hd,hlen,hall,hT,hw,hB,h=>by
  simp only [omap]at hd
  split at hd
  ·rename_i r rs' h1 h2
   simp only [Option.some.injEq]at hd
   subst hd
   intro m w fr cs k hr hl htr hm htd
   cases is with
   | nil=>simp at hlen
   | cons i is =>
    have ho:=hall 0 i o rfl rfl
    obtain⟨T1,W1,m1,w1,tm1,⟨t1,σ1,rfl,hT1,hσ1,hw1,hK1⟩,st1,hr1,hp1,hl1,ht1⟩:=wOneI_ok hev hN hC h1 hT hw hB h m w fr cs i is k hr hl htr hm htd ho
    rw [← hσ1]at hT1 hB
    obtain⟨T2,W2,m2,w2,tm2,⟨t2,σ2,rfl,hT2,hσ2,hw2,hK2⟩,st2,hr2,hp2,hl2,ht2⟩:=wSeqI_ok hev hN hC (is:=is) h2 (by simpa using hlen) (fun j i o hi ho=>hall (j+1) i o (by simpa using hi) (by simpa using ho)) hT1 hw1 hB hK1 m1 w1 { fr with tmps:=tm1,todo:=.inRegion ops is :: k } cs k hr1 hl1 ht1 hm rfl
    exact⟨T2,σ2.den,m2,w2,tm2,⟨t2,σ2,rfl,by rw [← hσ1]; exact hT2,hσ2.trans hσ1,hw2,hK2⟩,st1.trans st2,hr2,hp1.trans hp2,hl2,ht2⟩
  ·simp at hd
theorem drawPre_ok (hev:EvOk P ev) (hN:NoOwn P) {ops:Array Oper} {W:RW} {w:World} {l:List ROper} (hl2:omap (decOper P ops) ops.toList=some l) (hcheck1:edgesB P ops=true)
  (hcheck2:allBut (List.take (planTail (Region.before ops).toList ops.size) (ops.toList.zip (Region.before ops).toList)) ops=true)
  {pre:List (ROper×Nat)} (hpre:ltake (planTail (Region.before ops).toList ops.size) (l.zip (Region.before ops).toList)=some pre)
  {t t1:RT} (hpr:preR P ev W.n [] pre 0 ⟨t,[],W.l⟩=some ⟨t1,[],W.l⟩) {m:Nat→Loc} {fr:Frame} {cs:List Frame} {K:List Item} {tp:Nat} (hr:Rel m W w) (hl:tlt W.n t) (htr:TR m t fr.tmps) (hm:fr.mode=.run)
  (htd:fr.todo=.inRegion ops (Region.schedule (P.follows .mixedOrders) ops tp) :: K) :
  ∃m1 w1 arr1,Steps P (lone fr cs w) (lone { fr with tmps:=arr1,todo:=.inRegion ops (List.range' (planTail (Region.before ops).toList ops.size) (ops.size-planTail (Region.before ops).toList ops.size)) :: K } cs w1)∧Rel m1 W w1∧Post m W w m1 W w1∧tlt W.n t1∧TR m1 t1 arr1:=by
 obtain⟨hlen,hlall⟩:=decRegs_ok hl2
 obtain⟨hE,hmix⟩:=edges_ok hcheck1
 obtain⟨hp1,hp2⟩:=ltake_spec _ _ hpre
 exact(by
  obtain⟨sl,hsl⟩:∃sl:List (Nat×RObj),sl=[]:=⟨_,rfl⟩
  obtain⟨V1,hV1⟩:∃V1:List RObj,V1=W.l:=⟨_,rfl⟩
  have hpr:preR P ev W.n [] pre 0 ⟨t,[],W.l⟩=some ⟨t1,sl,V1⟩:=by rw [hsl,hV1]; exact hpr
  obtain⟨Tr,ht0,htk,htrace⟩:=preR_trace W.n [] pre 0 _ _ hpr
  have hk:planTail (Region.before ops).toList ops.size≤ops.size:=planTail_le _ _
  have hzip:(l.zip (Region.before ops).toList).length=ops.size:=by simp [hlen,before_size]
  have hprelen:pre.length=planTail (Region.before ops).toList ops.size:=by rw [hp2,List.length_take]; omega
  have hget:∀j,j < planTail (Region.before ops).toList ops.size→∃o ro,ops[j]?=some o∧OpOk P ops o ro∧pre[j]?=some (ro,(Region.before ops).getD j 0):=by
   intro j hj
   have hjl:j < l.length:=by omega
   have hjb:j < (Region.before ops).toList.length:=by rw [Array.length_toList,before_size]; omega
   obtain⟨o,ho,hok⟩:=hlall j l[j] (List.getElem?_eq_getElem hjl)
   refine⟨o,l[j],ho,hok,?_⟩
   rw [hp2,List.getElem?_take,if_pos hj,List.getElem?_zip_eq_some (z:=(l[j],(Region.before ops).toList[j])) |>.2 ⟨List.getElem?_eq_getElem hjl,List.getElem?_eq_getElem hjb⟩]
   rw [Array.getD_eq_getD_getElem?,← Array.getElem?_toList,List.getElem?_eq_getElem hjb]
   rfl
  have hP:Pre P ev ops (planTail (Region.before ops).toList ops.size) W.n [] Tr:=by
   refine⟨?_,?_,by rw [ht0],fun i c bi j d bj h=>absurd h (by simp)⟩
   ·intro j hj
    obtain⟨o,ro,ho,hok,hpj⟩:=hget j hj
    have h1:=htrace j _ hpj
    rw [Nat.zero_add]at h1
    obtain⟨x,hx⟩:=preOne_ok (o:=o) hok.put h1
    exact⟨o,ro,x,ho,hok,hx⟩
   ·intro i j oi oj hi hj hij hoi hoj d hd
    have hel:∀n on,n < planTail (Region.before ops).toList ops.size→ops[n]?=some on→((ops.toList.zip (Region.before ops).toList).take (planTail (Region.before ops).toList ops.size))[n]?=some (on,(Region.before ops).getD n 0):=by
     intro n on hn hon
     have hnb:n < (Region.before ops).toList.length:=by rw [Array.length_toList,before_size]; omega
     rw [List.getElem?_take,if_pos hn,List.getElem?_zip_eq_some (z:=(on,(Region.before ops).toList[n])) |>.2 ⟨by simpa using hon,List.getElem?_eq_getElem hnb⟩]
     rw [Array.getD_eq_getD_getElem?,← Array.getElem?_toList,List.getElem?_eq_getElem hnb]
     rfl
    exact allBut_ok hcheck2 (hel i oi hi hoi) (hel j oj hj hoj) hij hd
  have hT0:(Tr 0).t=t:=by rw [ht0]
  have hV0:(Tr 0).V=W.l:=by rw [ht0]
  have hTk:(Tr (planTail (Region.before ops).toList ops.size)).t=t1:=by rw [← hprelen,htk]
  have hSk:(Tr (planTail (Region.before ops).toList ops.size)).sl=sl:=by rw [← hprelen,htk]
  have hVk:(Tr (planTail (Region.before ops).toList ops.size)).V=V1:=by rw [← hprelen,htk]
  have hoff:∀i,(Array.replicate ops.size false).getD i false=false:=fun i=>by
   rcases Nat.lt_or_ge i ops.size with h | h
   ·simp [h]
   ·simp [h]
  have hget0:∀b o,(WS ⟨W.n,(Tr 0).V⟩ sl (Array.replicate ops.size false)).get b=some o→W.get b=some o∨o=.dead:=by
   intro b o hb
   rw [WS_get]at hb
   simp only [hV0]at hb
   split at hb
   ·exact .inl hb
   ·cases hx:sl.reverse[b-W.n]? with
    | none=>rw [hx]at hb; simp at hb
    | some y =>
     rw [hx]at hb
     simp only [Option.map_some,hoff,Option.some.injEq]at hb
     exact .inr hb.symm
  have hle0:W.n≤(WS ⟨W.n,(Tr 0).V⟩ sl (Array.replicate ops.size false)).n:=Nat.le_add_right _ _
  have inv0:Inv ops (planTail (Region.before ops).toList ops.size) [] Tr m W w (Array.replicate ops.size false) m w fr.tmps 0:=by
   refine⟨Nat.zero_le _,fun j c hj=>absurd hj (Nat.not_lt_zero j),fun j c _ _ _=>hoff j,?_,?_,?_,?_,?_⟩
   ·rw [hSk]
    refine⟨WS_wf (by show(Tr 0).V.length=W.n; rw [hV0]; exact hr.wf) _ _,?_,?_,?_,fun i g hi=>⟨Nat.lt_of_lt_of_le (hr.glb i g hi).1 hle0,(hr.glb i g hi).2⟩⟩
    ·intro b o hb
     rcases hget0 b o hb with h1 | rfl
     ·exact hr.obj b o h1
     ·trivial
    ·intro b o hb
     rcases hget0 b o hb with h1 | rfl
     ·exact RObj.lt_mono hle0 (hr.lt b o h1)
     ·trivial
    ·intro a b x y ha hb hx hy hab
     rcases hget0 a x ha with h1 | rfl
     ·rcases hget0 b y hb with h2 | rfl
      ·exact hr.inj a b x y h1 h2 hx hy hab
      ·simp [RObj.live]at hy
     ·simp [RObj.own]at hx
   ·rw [hT0]; exact htr.size
   ·intro j o d _ hlj _ _
    rw [hoff]at hlj
    simp at hlj
   ·intro d _
    rw [hT0]; exact htr.get d
   ·rw [hSk]
    refine⟨fun _ _=>rfl,hle0,Nat.le_refl _,fun _ _ _=>rfl,?_,rfl,rfl,rfl⟩
    intro b o hb ho
    rcases hget0 b o hb with h1 | rfl
    ·exact .inr ⟨b,o,h1,ho,rfl⟩
    ·simp [RObj.own]at ho
  have hsched:∃tp',Region.schedule (P.follows .mixedOrders) ops tp=Region.linearise.go .any ops ops.size tp' (Array.replicate ops.size false) []:=by
   unfold Region.schedule
   rw [if_pos hmix]
   exact⟨_,rfl⟩
  obtain⟨tp',hs2⟩:=hsched
  rw [hs2]at htd
  obtain⟨m1,w1,arr1,listed1,th1,st1,hall1,inv1⟩:=hP.all hev hN hE rfl hr (by rw [hT0]; exact hl) hV0 cs K ops.size tp' _ m w fr 0 (unl_le _ _) inv0
   (fun j oj _ hlj=>by rw [hoff]at hlj; simp at hlj) (by simp) (fun i _ hi=>by simp [hi]) hm htd
  have hth:(Tr th1).V=V1:=by
   have hle:=inv1.le
   have:=hP.vsame (i:=th1) (planTail (Region.before ops).toList ops.size-th1) (by omega) fun j c h1 h2 hw=>by
    have h3:=inv1.didnt j c h1 (by omega) hw
    rw [hall1 j (by omega)]at h3
    simp at h3
   rw [show th1+(planTail (Region.before ops).toList ops.size-th1)=planTail (Region.before ops).toList ops.size by omega,hVk]at this
   exact this.symm
  have hW1:WS ⟨W.n,(Tr th1).V⟩ sl listed1=⟨W.n+sl.length,sl.map (·.2)++V1⟩:=by
   unfold WS
   rw [hth]
   congr 2
   apply List.map_congr_left
   intro y hy
   obtain⟨j,ob⟩:=y
   obtain⟨q,hq⟩:=List.getElem?_of_mem (List.mem_reverse.2 hy)
   obtain⟨h3,_⟩:=hP.entry _ (Nat.le_refl _) q j ob (by rw [hSk]; exact hq)
   simp only [hall1 j h3,if_true]
  have hrel1:=inv1.rel
  have hpost1:=inv1.post
  rw [hSk,hW1]at hrel1 hpost1
  have htr1:TR m1 t1 arr1:=by
   refine⟨?_,fun d=>?_⟩
   ·have h2:=hP.num _ (Nat.le_refl _)
    rw [inv1.size,← h2,hTk]
   ·by_cases hw:∃j oj,j < planTail (Region.before ops).toList ops.size∧ops[j]?=some oj∧oj.dst=some d
    ·obtain⟨j,oj,hj,hoj,hdj⟩:=hw
     rw [inv1.wrote j oj d hj (hall1 j hj) hoj hdj,hTk]
    ·have hno:∀j oj,j < planTail (Region.before ops).toList ops.size→ops[j]?=some oj→oj.dst≠some d:=fun j oj hj hoj hdj=>hw ⟨j,oj,hj,hoj,hdj⟩
     rw [inv1.same d fun j oj hj _ hoj=>hno j oj hj hoj,← hP.first (Nat.le_refl _) hno,hTk]
  have hlt1:tlt (W.n+sl.length) t1:=by
   have:=hP.lows (by rw [hT0]; exact hl) _ (Nat.le_refl _)
   rw [hSk,hTk]at this
   exact this
  have hWW:(⟨W.n+sl.length,sl.map (·.2)++V1⟩:RW)=W:=by rw [hsl,hV1]; rfl
  rw [hWW]at hrel1 hpost1
  rw [hsl]at hlt1
  exact⟨m1,w1,arr1,st1,hrel1,hpost1,hlt1,htr1⟩)
theorem wRegI_ok (hev:EvOk P ev) (hN:NoOwn P) {C:Know} (hC:KnowOk P ev C) {ops:Array Oper} {draw:Bool} {t:List SV} {T:RT} {σ:SMem} {K:Kt} (hT:TT σ.B.n t T) (hw:σ.Wf) (hB:BOk σ.B) (h:wRegI P C ops draw t σ K) :
  (draw=false→RegTo P ops (List.range ops.size) T σ.den (SymTo σ.B K))∧(draw=true→∀tp,RegTo P ops (Region.schedule (P.follows .mixedOrders) ops tp) T σ.den (SymTo σ.B K)):=by
 unfold wRegI at h
 split at h
 ·rename_i l hdec
  unfold decReg at hdec
  split at hdec
  ·rename_i l' hl'
   cases draw with
   | false =>
    refine⟨fun _=>?_,fun h=>by simp at h⟩
    refine wSeqI_ok hev hN hC hl' (by simp) ?_ hT hw hB h
    intro j i o hi ho
    have hji:j=i:=by
     have:=(List.getElem?_eq_some_iff.1 hi).2
     simpa using this
    subst hji
    simpa using ho
   | true =>
    simp only [if_true]at hdec
    split at hdec
    ·split at hdec
     ·split at hdec
      ·simp at hdec
      ·simp [fbool_eq]at hdec
     ·simp at hdec
    ·simp at hdec
  ·simp at hdec
 ·rename_i pre post hdec
  rw [fnat_eq]at h
  unfold decReg at hdec
  split at hdec
  ·rename_i l hom
   cases draw with
   | false=>simp at hdec
   | true =>
    refine⟨fun h=>by simp at h,fun _ tp=>?_⟩
    simp only [if_true]at hdec
    split at hdec
    ·rename_i hchk
     split at hdec
     ·rename_i pre' post' hpre hpost
      split at hdec
      ·simp at hdec
      simp only [fbool_eq,Option.some.injEq,RReg.draw.injEq]at hdec
      obtain⟨rfl,rfl,_⟩:=hdec
      have hchk':edgesB P ops=true∧allBut (List.take (planTail (Region.before ops).toList ops.size) (ops.toList.zip (Region.before ops).toList)) ops=true:=by
       simpa using hchk
      have hpre0:=hpre
      obtain⟨hk1,rfl⟩:=ltake_spec _ _ hpre
      have hlen:l.length=ops.toList.length:=omap_length hom
      have hbl:(Region.before ops).toList.length=ops.size:=by simp [before_size]
      obtain⟨t1,T1,h1,h2,h3⟩:=wPre_ok (q:=(l.zip (Region.before ops).toList).take (planTail (Region.before ops).toList ops.size)) hC 0 (by
        simp only [List.length_take,List.length_zip,hlen,hbl]
        simp) (by
        intro j o x hj hx
        rw [List.getElem?_take]at hj hx
        by_cases hjk:j < planTail (Region.before ops).toList ops.size
        ·rw [if_pos hjk]at hj hx
         obtain⟨y,hy1,hy2⟩:=omap_get hom j o hj
         have hz:=(List.getElem?_zip_eq_some.1 hx).1
         rw [hy1]at hz
         simp only [Option.some.injEq]at hz
         rw [← hz]
         exact hy2
        ·rw [if_neg hjk]at hj
         simp at hj) hT hw h
      intro m w fr cs k hr hl htr hm htd
      obtain⟨m1,w1,arr1,st1,hr1,hp1,hl1,ht1⟩:=drawPre_ok hev hN hom hchk'.1 hchk'.2 hpre0 h1 (cs:=cs) hr hl htr hm htd
      have hkle:planTail (Region.before ops).toList ops.size≤ops.size:=planTail_le _ _
      obtain⟨T2,W2,m2,w2,tm2,hQ,st2,hr2,hp2,hl2,ht2⟩:=wSeqI_ok hev hN hC (is:=List.range' (planTail (Region.before ops).toList ops.size) (ops.size-planTail (Region.before ops).toList ops.size)) (omap_take _ hom) (by simp) (by
       intro j i o hi ho
       have hij:i=planTail (Region.before ops).toList ops.size+j:=by
        have:=(List.getElem?_eq_some_iff.1 hi).2
        simp at this
        exact this.symm
       subst hij
       rw [List.getElem?_drop]at ho
       simpa using ho) h2 hw hB h3 m1 w1 { fr with tmps:=arr1,todo:=.inRegion ops (List.range' (planTail (Region.before ops).toList ops.size) (ops.size-planTail (Region.before ops).toList ops.size)) :: k } cs k hr1 hl1 ht1 hm rfl
      exact⟨T2,W2,m2,w2,tm2,hQ,st1.trans st2,hr2,hp1.trans hp2,hl2,ht2⟩
     ·simp at hdec
    ·simp at hdec
  ·simp at hdec
 ·exact h.elim
theorem regionTo (hev:EvOk P ev) (hN:NoOwn P) {C:Know} (hC:KnowOk P ev C) {n0:Nat} {f:FuncId} {rd:Option Nat} {id:Nat} {ops:Array Oper} {draw:Bool} {t:List SV} {T:RT} {σ:SMem} {ds:List Nat} {K:Kt} {Q:Ex→St→Prop} (hT:TT σ.B.n t T) (hw:σ.Wf) (hB:BOk σ.B) (h:wRegI P C ops draw t σ K)
  (hQ:∀T' W',SymTo σ.B K T' W'→Q .nrm ⟨T',W',ds⟩):CodeTo n0 P f rd (.region id ops draw) ⟨T,σ.den,ds⟩ Q:=by
 obtain⟨g1,g2⟩:=wRegI_ok hev hN hC hT hw hB h
 intro h0 m w fr cs k hn hrd hr hl hfr htd
 cases draw with
 | true =>
  obtain⟨tp,st1⟩:=s_draw (P:=P) (cs:=cs) (w:=w) hfr.mode htd
  obtain⟨T',W',m',w',tm,hS,st2,hr',hp',hl',ht'⟩:=g2 rfl tp m { w with drawn:=w.drawn+1 } { fr with todo:=.inRegion ops (Region.schedule (P.follows .mixedOrders) ops tp) :: k } cs k (hr.same rfl) hl hfr.tr hfr.mode rfl
  exact⟨.nrm,⟨T',W',ds⟩,m',w',_,hQ _ _ hS,st1.trans st2,hr',hl',hfr.next rfl (hp'.drew.at hn) hrd ht' ds k,hp'.drew.at hn,rfl,rfl⟩
 | false =>
  have st1:=s_region (P:=P) (cs:=cs) (w:=w) hfr.mode htd
  obtain⟨T',W',m',w',tm,hS,st2,hr',hp',hl',ht'⟩:=g1 rfl m w { fr with todo:=.inRegion ops (List.range ops.size) :: k } cs k hr hl hfr.tr hfr.mode rfl
  exact⟨.nrm,⟨T',W',ds⟩,m',w',_,hQ _ _ hS,st1.trans st2,hr',hl',hfr.next rfl (hp'.at hn) hrd ht' ds k,hp'.at hn,rfl,rfl⟩
end
end Go.Rv
namespace Go.Rv
open Go
section
variable [Env] {P:Program} {ev:Ev} {ops:Array Oper}
theorem any_of {n0 k:Nat} {T:Nat→RT} {M:Nat→RW} {E:Nat→Ent} {D F N:Nat→Nat→Bool} (hk:k≤ops.size)
  (hS:∀j,j < k→∃o ro x,ops[j]?=some o∧OpOk P ops o ro∧(E j).j=j∧(E j).bits=bitsOf ops j∧(E j).lo=(M j).n∧(E j).hi=(M (j+1)).n ∧
   (∀c,hasN (E j).wr c=true→c < (M j).n)∧AStep n0 P ev (T j) (T (j+1)) (M j) (M (j+1)) (D j) (F j) (N j) o ro x)
  (hD:∀j c,j < k→D j c=true→hasN (E j).wr c=true∨((M j).n≤c∧c < (M (j+1)).n))
  (hF:∀j c,j < k→F j c=true→c < n0∨(touchB (E j) c=true∧((E j).al=true→N j c=true)∧((E j).al=false→hasN (E j).rd c=true∨hasN (E j).wr c=true)))
  (hNn:∀j c,j < k→N j c=true→c < (M 0).n∨∃i,i < j∧(M i).n≤c∧c < (M (i+1)).n∧(bitsOf ops j).testBit i=true)
  (hpair:∀i j,i < j→j < k→apartE (E i) (E j)=true)
  (hab:allBut (List.take k (ops.toList.zip (Region.before ops).toList)) ops=true):Any n0 P ev ops k T M D F N:=by
 have hmono:∀i j,i≤j→j≤k→(M i).n≤(M j).n:=by
  intro i j hij
  induction j with
  | zero=>intro _; rw [show i=0 by omega]; exact Nat.le_refl _
  | succ j ih =>
   intro hj
   rcases Nat.lt_or_ge i (j+1)with h1 | h1
   ·obtain⟨_,_,_,_,_,_,_,_,_,_,st⟩:=hS j (by omega)
    exact Nat.le_trans (ih (by omega) (by omega)) st.mono
   ·rw [show i=j+1 by omega]; exact Nat.le_refl _
 have hrange:∀(lo hi c:Nat),(Nat.ble lo c && Nat.blt c hi)=true↔lo≤c∧c < hi:=by
  intro lo hi c
  rw [Bool.and_eq_true,blt_eq,decide_eq_true_eq]
  exact⟨fun h=>⟨Nat.le_of_ble_eq_true h.1,h.2⟩,fun h=>⟨Nat.ble_eq_true_of_le h.1,h.2⟩⟩
 have hseen:∀i j b,i < k→j < k→N j b=true→(M i).n≤b→b < (M (i+1)).n→(bitsOf ops j).testBit i=true:=by
  intro i j b hi hj hs h1 h2
  have hWi:=hmono 0 i (by omega) (by omega)
  rcases hNn j b hj hs with h3 | ⟨i2,h3,h4,h5,h6⟩
  ·omega
  ·have:i2=i:=by
    rcases Nat.lt_trichotomy i2 i with h7 | h7 | h7
    ·have:=hmono (i2+1) i (by omega) (by omega); omega
    ·exact h7
    ·have:=hmono (i+1) i2 (by omega) (by omega); omega
   rw [← this]; exact h6
 refine⟨hk,?_,?_,?_,?_⟩
 ·intro i hi
  obtain⟨o,ro,x,ho,hok,_,_,_,_,_,st⟩:=hS i hi
  exact⟨o,ro,x,ho,hok,st⟩
 ·intro i j oi oj hi hj hij hoi hoj d hd
  have hel:∀n on,n < k→ops[n]?=some on→((ops.toList.zip (Region.before ops).toList).take k)[n]?=some (on,(Region.before ops).getD n 0):=by
   intro n on hn hon
   have hnb:n < (Region.before ops).toList.length:=by rw [Array.length_toList,before_size]; omega
   rw [List.getElem?_take,if_pos hn,List.getElem?_zip_eq_some (z:=(on,(Region.before ops).toList[n])) |>.2 ⟨by simpa using hon,List.getElem?_eq_getElem hnb⟩]
   rw [Array.getD_eq_getD_getElem?,← Array.getElem?_toList,List.getElem?_eq_getElem hnb]
   rfl
  exact allBut_ok hab (hel i oi hi hoi) (hel j oj hj hoj) hij hd
 ·intro i j b hi hj hij hd hdf
  obtain⟨_,_,_,_,_,i1,i2,i3,i4,i6,sti⟩:=hS i hi
  obtain⟨_,_,_,_,_,j1,j2,j3,j4,j6,stj⟩:=hS j hj
  have hb0:¬ b < n0:=fun h=>by rw [sti.base b h]at hd; simp at hd
  have htouchw:∀n:Nat,hasN (E n).wr b=true→touchB (E n) b=true:=fun n h=>by unfold touchB; rw [h]; rfl
  have hnot:∀ {l:List Nat} {q:Nat→Bool},l.all (fun c=>!q c)=true→hasN l b=true→q b=false:=by
   intro l q h1 h2
   have:=List.all_eq_true.1 h1 b (hasN_iff.1 h2)
   simpa using this
  have hlook:∀n:Nat,n < k→F n b=true→touchB (E n) b=true∧((E n).al=true→N n b=true)∧((E n).al=false→hasN (E n).rd b=true∨hasN (E n).wr b=true):=by
   intro n hn h
   rcases hF n b hn h with h1 | h1
   ·exact absurd h1 hb0
   ·exact h1
  rcases Nat.lt_or_gt_of_ne hij with hlt | hlt
  ·have hp:=hpair i j hlt hj
   unfold apartE at hp
   rw [Bool.or_eq_true,j2,i1]at hp
   rcases hp with hp | hp
   ·exact .inl hp
   ·simp only [Bool.and_eq_true]at hp
    obtain⟨⟨q1,q2⟩,q3,q4⟩:=hp
    have hmij:=hmono (i+1) j (by omega) (by omega)
    rcases hD i b hi hd with hw | hn
    ·exfalso
     have hbi:=i6 b hw
     have ht:=hnot q1 hw
     have hmi:=hmono i j (by omega) (by omega)
     rcases hdf with hdf | hdf
     ·rcases hD j b hj hdf with hw2 | hn2
      ·rw [htouchw j hw2]at ht; simp at ht
      ·omega
     ·rw [(hlook j hj hdf).1]at ht; simp at ht
    ·have hin:(Nat.ble (E i).lo b && Nat.blt b (E i).hi)=true:=by rw [hrange,i3,i4]; exact hn
     have noW:hasN (E j).wr b=true→False:=fun hw2=>by
      have:=hnot q3 hw2
      rw [hin]at this; simp at this
     rcases hdf with hdf | hdf
     ·rcases hD j b hj hdf with hw2 | hn2
      ·exact(noW hw2).elim
      ·omega
     ·obtain⟨f2,f3,f4⟩:=hlook j hj hdf
      cases hal:(E j).al with
      | true=>exact .inl (hseen i j b hi hj (f3 hal) hn.1 hn.2)
      | false =>
       rcases f4 hal with hr2 | hw2
       ·rw [hal,Bool.false_or]at q4
        have:=hnot q4 hr2
        rw [hin]at this; simp at this
       ·exact(noW hw2).elim
  ·have hp:=hpair j i hlt hi
   unfold apartE at hp
   rw [Bool.or_eq_true,i2,j1]at hp
   rcases hp with hp | hp
   ·exact .inr hp
   ·exfalso
    simp only [Bool.and_eq_true]at hp
    obtain⟨⟨q1,q2⟩,q3,q4⟩:=hp
    have hmij:=hmono (j+1) i (by omega) (by omega)
    have hmji:=hmono j i (by omega) (by omega)
    rcases hD i b hi hd with hw | hn
    ·have ht:=hnot q2 hw
     rcases hdf with hdf | hdf
     ·rcases hD j b hj hdf with hw2 | hn2
      ·rw [htouchw j hw2]at ht; simp at ht
      ·have h3:=hnot q3 hw
       have hin:(Nat.ble (E j).lo b && Nat.blt b (E j).hi)=true:=by rw [hrange,j3,j4]; exact hn2
       rw [hin]at h3; simp at h3
     ·rw [(hlook j hj hdf).1]at ht; simp at ht
    ·rcases hdf with hdf | hdf
     ·rcases hD j b hj hdf with hw2 | hn2
      ·have:=j6 b hw2; omega
      ·omega
     ·have:=stj.fl b hdf; omega
 ·intro i j b hi hj hs h1 h2
  exact hseen i j b hi hj hs h1 h2
theorem Any.code {n0 k:Nat} {T:Nat→RT} {M:Nat→RW} {D F N:Nat→Nat→Bool} (hev:EvOk P ev) (hN:NoOwn P) (h:Any n0 P ev ops k T M D F N) (hk:k=planTail (Region.before ops).toList ops.size) (hE:edgesB P ops=true)
  {l:List ROper} (hl2:omap (decOper P ops) ops.toList=some l) {T':RT} {W':RW} (hpost:seqR P ev (l.drop k) (T k) (M k)=some (T',W')) {id:Nat} :
  RegRun P id ops true (T 0) (M 0) T' W':=by
 intro m w fr cs K hr hl htr0 hm0 htd
 obtain⟨hE1,hmix⟩:=edges_ok hE
 obtain⟨hlen,hlall⟩:=decRegs_ok hl2
 obtain⟨tp,st1⟩:=s_draw (P:=P) (cs:=cs) (w:=w) hm0 htd
 have hsched:∃tp',Region.schedule (P.follows .mixedOrders) ops tp=Region.linearise.go .any ops ops.size tp' (Array.replicate ops.size false) []:=by
  unfold Region.schedule
  rw [if_pos hmix]
  exact⟨_,rfl⟩
 obtain⟨tp',hs2⟩:=hsched
 rw [hs2]at st1
 obtain⟨m1,w1,arr1,st2,hr1,hp1,hlt1,htr1⟩:=h.first_ok hev hN hE1 hk (m:=m) (fr:={ fr with todo:=.inRegion ops (Region.linearise.go .any ops ops.size tp' (Array.replicate ops.size false) []) :: K }) (cs:=cs) (K:=K) (tp:=tp') (w:={ w with drawn:=w.drawn+1 }) (hr.same rfl) hl htr0 hm0 rfl
 have hle:=h.le
 obtain⟨m2,w2,tm,st3,hr2,hp2,hl3,ht3⟩:=seqR_ok hev hN (l.drop k) (List.range' k (ops.size-k)) (T k) T' _ W' hpost (by rw [List.length_drop,hlen]; simp) (fun j i ro hi hro=>by
  have hij:i=k+j:=by
   have:=(List.getElem?_eq_some_iff.1 hi).2
   simp at this
   exact this.symm
  subst hij
  rw [List.getElem?_drop]at hro
  exact hlall _ ro hro) m1 w1 { fr with tmps:=arr1,todo:=.inRegion ops (List.range' k (ops.size-k)) :: K } cs K hr1 hlt1 htr1 hm0 rfl
 exact⟨m2,w2,_,st1.trans (st2.trans st3),hr2,(hp1.trans hp2).drew,hl3,ht3⟩
end
noncomputable section
def plain1 (x:SV):Prop:=match x with
 | .i _ _=>True
 | .p _=>True
 | .v y=>oneV y=true
 | _=>False
def PlainE (n:Nat) (e:El):Prop:=∀i,i < n→∀y∈e.at i,plain1 y
def locS (x:SV):List Nat:=match x with
 | .ptr k _=>[k]
 | .sl k _ _ _=>[k]
 | .gsl k _ _ _=>[k]
 | .gel k _ _ _=>[k]
 | .fv _ ks=>ks
 | .yl k=>[k]
 | .mp k=>[k]
 | .bf _ s=>match s with
  | .ptr k _=>[k]
  | _=>[]
 | _=>[]
def locF:List SV→List Nat
 | []=>[]
 | x :: r=>locS x++locF r
def locL:List SV→List Nat
 | []=>[]
 | x :: r=>(match x with
  | .agg cs=>locF cs
  | x=>locS x)++locL r
section
variable [Env] (P:Program)
def opsOf (xs:List Operand) (t:List SV):List SV:=xs.map fun x=>opS x t
def footS (o:Op) (t:List SV):List Nat×List Nat:=match o with
 | .load _ a=>(locS (opS a t),[])
 | .lookup _ m _ _=>(locS (opS m t),[])
 | .store _ a _=>([],locS (opS a t))
 | .call c=>match c.callee with
  | .builtin b=>match b,c.args.toList with
   | .append,[s,x]=>(locS (opS x t),locS (opS s t))
   | _,_=>([],[])
  | .value _=>match opsOf c.args.toList t with
   | .ptr k 0 :: r=>(locL r,[k])
   | xs=>(locL xs,[])
  | _=>([],[])
 | _=>([],[])
def fnats (l:List Nat) (K:List Nat→Prop):Prop:=match l with
 | []=>K []
 | x :: r=>fnat x fun x=>fnats r fun r=>K (x :: r)
def SObj.toRo:SObj→SObj
 | .dead=>.dead
 | .cells c _=>.cells c .ro
 | .gr n sz e _ z=>.gr n sz e .ro z
 | .lp _ _ _=>.dead
 | .mp ks c _=>.mp ks c true
def maskL (rd wr:List Nat):List SObj→Nat→List SObj
 | [],_=>[]
 | _ :: _,0=>[]
 | o :: r,n+1=>(match hasN wr n with
  | true=>o
  | false=>match hasN rd n with
   | true=>o.toRo
   | false=>.dead) :: maskL rd wr r n
def mergeK (wr:List Nat):List SObj→List SObj→Nat→(List SObj→Prop)→Prop
 | o :: r,o1 :: r1,n+1,K=>mergeK wr r r1 n fun l=>match hasN wr n with
  | true=>K (o1 :: l)
  | false=>K (o :: l)
 | _,_,_,K=>K []
def mergeL (wr:List Nat):List SObj→List SObj→Nat→List SObj
 | o :: r,o1 :: r1,n+1=>(if hasN wr n then o1 else o) :: mergeL wr r r1 n
 | _,_,_=>[]
def overK:Nat→List SObj→(List SObj→List SObj→Prop)→Prop
 | 0,l,K=>K [] l
 | n+1,o :: r,K=>overK n r fun a b=>K (o :: a) b
 | _+1,[],_=>False
def ownK (k:Kd):Bool:=match k with
 | .ex=>true
 | .gr=>true
 | _=>false
def namC (q:Nat→Bool):List SV→Bool
 | []=>true
 | x :: r=>(locS x).all q && namC q r
def namT (q:Nat→Bool):List SV→Bool
 | []=>true
 | x :: r=>(match x with
  | .agg cs=>namC q cs
  | x=>(locS x).all q) && namT q r
def namS (q:Nat→Bool) (x:SV):Bool:=match x with
 | .agg cs=>namC q cs
 | .tup cs=>namT q cs
 | x=>(locS x).all q
def chkObj (q:Nat→Bool) (σ:SMem) (o:SObj) (p:Prop):Prop:=match o with
 | .dead=>p
 | .cells c kd=>match ownK kd && namC q c with
  | true=>visC σ c p
  | false=>False
 | .gr n _ e kd _=>match ownK kd with
  | true=>Ob (PlainE n e)∧p
  | false=>False
 | .lp _ _ _=>False
 | .mp _ c ro=>match !ro && namC q c with
  | true=>visC σ c p
  | false=>False
def chkL (q:Nat→Bool) (σ:SMem) (wr:List Nat) (lo:Nat):List SObj→Nat→Prop→Prop
 | o :: r,n+1,p=>match hasN wr n || Nat.ble lo n with
  | true=>chkObj q σ o (chkL q σ wr lo r n p)
  | false=>chkL q σ wr lo r n p
 | _,_,p=>p
def chkX (q:Nat→Bool) (σ:SMem) (o:Oper) (t:List SV) (p:Prop):Prop:=match o.dst with
 | some d=>match lget t d with
  | some x=>match namS q x with
   | true=>visK σ x p
   | false=>False
  | none=>False
 | none=>match isStore o.op with
  | true=>p
  | false=>False
def wA1 (C:Know) (ops:Array Oper) (L0:Nat) (o:Oper) (b i:Nat) (t:List SV) (σ:SMem) (log:List Ent) (K:List SV→SMem→Ent→Prop):Prop:=match σ with
 | ⟨B,n,L⟩=>fnats (footS o.op t).1 fun rd=>fnats (footS o.op t).2 fun wr=>match wr.all (fun c=>Nat.blt c n)with
  | true=>wOne P C ops o t ⟨B,n,maskL rd wr L n⟩ fun t' σ1=>match σ1 with
   | ⟨_,n1,L1⟩=>match Nat.ble n n1 with
    | true=>overK (n1-n) L1 fun new old=>mergeK wr L old n fun old' =>
      chkX (fun c=>seenA L0 b log c || (Nat.ble n c && Nat.blt c n1)) ⟨B,n1,new++old'⟩ o t'
       (chkL (fun c=>seenA L0 b log c || (Nat.ble n c && Nat.blt c n1)) ⟨B,n1,new++old'⟩ wr n (new++old') n1
        (K t' ⟨B,n1,new++old'⟩ ⟨i,b,n,n1,rd,wr,false,[]⟩))
    | false=>False
  | false=>False
def wA (C:Know) (ops:Array Oper) (L0:Nat):List (Oper×Nat)→Nat→List SV→SMem→List Ent→Kt→Prop
 | [],_,t,σ,log,K=>match apartL log with
  | true=>K t σ
  | false=>False
 | (o,b) :: r,i,t,σ,log,K=>wA1 P C ops L0 o b i t σ log fun t' σ' e=>fnat i fun i=>wA C ops L0 r (i+1) t' σ' (e :: log) K
def wAnyT (C:Know) (ops:Array Oper) (t:List SV) (σ:SMem) (K:Kt):Prop:=match omap (decOper P ops) ops.toList with
 | some _=>match edgesB P ops with
  | true=>fnat (planTail (Region.before ops).toList ops.size) fun k=>match allBut (List.take k (ops.toList.zip (Region.before ops).toList)) ops with
   | true=>fnat σ.n fun L0=>wA P C ops L0 ((ops.toList.zip (Region.before ops).toList).take k) 0 t σ [] K
   | false=>False
  | false=>False
 | none=>False
def wAny (C:Know) (ops:Array Oper) (t:List SV) (σ:SMem) (K:Kt):Prop:=wAnyT P C ops t σ fun t σ=>fnat (planTail (Region.before ops).toList ops.size) fun k=>wSeq P C ops (ops.toList.drop k) t σ K
def wAnyI (C:Know) (ops:Array Oper) (t:List SV) (σ:SMem) (K:Kt):Prop:=wAnyT P C ops t σ fun t σ=>fnat (planTail (Region.before ops).toList ops.size) fun k=>wSeqI P C ops (ops.toList.drop k) t σ K
def useAny (C:Know) (ops:Array Oper) (draw:Bool):Bool:=match draw with
 | true=>fnat (planTail (Region.before ops).toList ops.size) fun k=>(ops.toList.take k).any fun o=>!isVal o.op || isApp o.op || (effCall C.E o.op).isSome
 | false=>false
end
end
section
theorem fnats_eq:∀(l:List Nat) (K:List Nat→Prop),fnats l K=K l
 | [],K=>rfl
 | x :: r,K=>by unfold fnats; rw [fnat_eq,fnats_eq r]
theorem mergeK_eq (wr:List Nat):∀(a b:List SObj) (n:Nat) (K:List SObj→Prop),mergeK wr a b n K=K (mergeL wr a b n)
 | [],_,_,K=>by unfold mergeK mergeL; rfl
 | o :: r,[],n,K=>by unfold mergeK mergeL; rfl
 | o :: r,o1 :: r1,0,K=>by unfold mergeK mergeL; rfl
 | o :: r,o1 :: r1,n+1,K=>by
  unfold mergeK mergeL
  rw [mergeK_eq wr r r1 n]
  cases hasN wr n<;>simp
theorem overK_ok:∀ {n:Nat} {l:List SObj} {K:List SObj→List SObj→Prop},overK n l K→n≤l.length∧K (l.take n) (l.drop n)
 | 0,l,K,h=>⟨Nat.zero_le _,by simp only [List.take_zero,List.drop_zero]; unfold overK at h; exact h⟩
 | n+1,o :: r,K,h=>by
  obtain⟨h1,h2⟩:=overK_ok (K:=fun a b=>K (o :: a) b) h
  exact⟨by simp; omega,by simpa using h2⟩
 | n+1,[],K,h=>h.elim
theorem mergeL_at (wr:List Nat):∀(a b:List SObj) (n:Nat),a.length=n→b.length=n→∀i,(mergeL wr a b n)[i]?=if hasN wr (n-1-i)then b[i]? else a[i]?
 | [],b,n,ha,hb,i=>by
  have:b=[]:=List.eq_nil_of_length_eq_zero (by rw [hb,← ha]; rfl)
  subst this
  simp [mergeL]
 | o :: r,[],n,ha,hb,i=>by simp at ha hb; omega
 | o :: r,o1 :: r1,0,ha,hb,i=>by simp at ha
 | o :: r,o1 :: r1,n+1,ha,hb,i=>by
  have ha':r.length=n:=by simpa using ha
  have hb':r1.length=n:=by simpa using hb
  unfold mergeL
  cases i with
  | zero=>simp only [List.getElem?_cons_zero,Nat.sub_zero,Nat.add_sub_cancel]; split<;>rfl
  | succ i =>
   simp only [List.getElem?_cons_succ]
   rw [mergeL_at wr r r1 n ha' hb',show n+1-1-(i+1)=n-1-i by omega]
theorem mergeL_len (wr:List Nat):∀(a b:List SObj) (n:Nat),a.length=n→b.length=n→(mergeL wr a b n).length=n
 | [],b,n,ha,hb=>by simpa [mergeL] using ha
 | o :: r,[],n,ha,hb=>by simp at ha hb; omega
 | o :: r,o1 :: r1,0,ha,hb=>by simp at ha
 | o :: r,o1 :: r1,n+1,ha,hb=>by
  unfold mergeL
  simp [mergeL_len wr r r1 n (by simpa using ha) (by simpa using hb)]
theorem maskL_at (rd wr:List Nat):∀(l:List SObj) (n:Nat),l.length=n→∀i,(maskL rd wr l n)[i]?=(l[i]?).map fun o=>if hasN wr (n-1-i)then o else if hasN rd (n-1-i)then o.toRo else .dead
 | [],n,h,i=>by simp [maskL]
 | o :: r,0,h,i=>by simp at h
 | o :: r,n+1,h,i=>by
  have hr:r.length=n:=by simpa using h
  unfold maskL
  cases i with
  | zero =>
   simp only [List.getElem?_cons_zero,Option.map_some,Nat.sub_zero,Nat.add_sub_cancel]
   congr 1
   cases hasN wr n<;>cases hasN rd n<;>simp
  | succ i =>
   simp only [List.getElem?_cons_succ]
   rw [maskL_at rd wr r n hr,show n+1-1-(i+1)=n-1-i by omega]
theorem maskL_len (rd wr:List Nat):∀(l:List SObj) (n:Nat),l.length=n→(maskL rd wr l n).length=n
 | [],n,h=>by simpa [maskL] using h
 | o :: r,0,h=>by simp at h
 | o :: r,n+1,h=>by
  unfold maskL
  simp [maskL_len rd wr r n (by simpa using h)]
theorem toRo_den (N:Nat) (o:SObj):denO N o.toRo=(denO N o).toRo∨denO N o.toRo=.dead:=by
 cases o with
 | dead=>exact .inl rfl
 | cells c k=>exact .inl rfl
 | gr n sz e k z =>
  simp only [SObj.toRo,denO]
  split
  ·exact .inr rfl
  ·exact .inl rfl
 | lp st p R=>exact .inr rfl
 | mp ks c ro=>exact .inl rfl
theorem mapEs_mem {N:Nat}:∀ {ks:List Int} {c:List SV} {i:Nat} {e:RV×RV×Nat},e∈mapEs N i ks c→∃k x,x∈c∧e.1=.v (.int .i64 k)∧e.2.1=den N x
 | k :: ks,x :: c,i,e,h=>by
  unfold mapEs at h
  rcases List.mem_cons.1 h with rfl | h
  ·exact⟨k,x,List.mem_cons_self,rfl,rfl⟩
  ·obtain⟨k2,y,h1,h2⟩:=mapEs_mem h
   exact⟨k2,y,List.mem_cons_of_mem _ h1,h2⟩
 | [],_,_,_,h=>by simp [mapEs]at h
 | _ :: _,[],_,_,h=>by simp [mapEs]at h
theorem sget (σ:SMem) (k:Nat):σ.get k=if k < σ.n then σ.L[σ.n-1-k]? else none:=by
 unfold SMem.get
 simp only [blt_eq,decide_eq_true_eq,lget_eq]
theorem visS_names {σ:SMem} {x:SV} {p:Prop} {q r:Nat→Bool} (h:visS σ x p) (hv:∀c,c < σ.B.n→r c=true) (hq:∀k,q k=true→r (σ.B.n+k)=true) (hl:(locS x).all q=true):namesB r (den σ.B.n x)=true:=by
 cases x with
 | v y=>rfl
 | i k z=>rfl
 | p c=>rfl
 | ptr k o=>simp only [locS,List.all_cons,List.all_nil,Bool.and_true]at hl; exact hq k hl
 | sl k o n e=>simp only [locS,List.all_cons,List.all_nil,Bool.and_true]at hl; exact hq k hl
 | lst y n sz e =>
  have h':Ob (IsLst σ.B y n sz e)∧p:=h
  rcases h'.1.h with ⟨rfl,_⟩ | ⟨b',o,c,rfl,hc,_⟩
  ·rfl
  ·exact hv _ (cellsAt_lt hc)
 | elm y n sz e i f =>
  have h':Ob (IsLst σ.B y n sz e∧i < n)∧p:=h
  rcases h'.1.h.1 with ⟨rfl,h4⟩ | ⟨b',o,c,rfl,hc,_⟩
  ·have:=h'.1.h.2; omega
  ·exact hv _ (cellsAt_lt hc)
 | gsl k n sz z =>
  simp only [locS,List.all_cons,List.all_nil,Bool.and_true]at hl
  by_cases hd:z=true∧n=0
  ·rw [show den σ.B.n (.gsl k n sz z)=.v (.slice none 0 0)from if_pos hd]; rfl
  ·rw [show den σ.B.n (.gsl k n sz z)=.sl (σ.B.n+k) 0 n sz from if_neg hd]; exact hq k hl
 | gel k sz i f=>simp only [locS,List.all_cons,List.all_nil,Bool.and_true]at hl; exact hq k hl
 | yl k=>simp only [locS,List.all_cons,List.all_nil,Bool.and_true]at hl; exact hq k hl
 | mp k=>simp only [locS,List.all_cons,List.all_nil,Bool.and_true]at hl; exact hq k hl
 | bf g s =>
  cases s with
  | ptr k o =>
   simp only [locS,List.all_cons,List.all_nil,Bool.and_true]at hl
   have:=hq k hl
   simp only [den,namesB]
   simp only [this,Bool.and_self]
  | _=>exact(show False from h).elim
 | fv g ks =>
  simp only [locS,List.all_eq_true]at hl
  exact names_fn fun k hk=>hq k (hl k hk)
 | raw y=>exact(show False from h).elim
 | agg cs=>exact(show False from h).elim
 | tup cs=>exact(show False from h).elim
 | rv y=>exact(show False from h).elim
theorem visC_names {σ:SMem} {q r:Nat→Bool} (hw:σ.Wf) (hv:∀c,c < σ.B.n→r c=true) (hq:∀k,q k=true→r (σ.B.n+k)=true):∀ {l:List SV} {p:Prop},visC σ l p→namC q l=true→(denL σ.B.n l).all (namesB r)=true
 | [],p,h,hl=>rfl
 | x :: l,p,h,hl=>by
  simp only [visC]at h
  split at h
  ·simp only [namC,Bool.and_eq_true]at hl
   have h3:=(visS_ok hw 0 h).2.2
   simp only [denL,List.all_cons,visS_names h hv hq hl.1,visC_names hw hv hq h3 hl.2,Bool.and_self]
  ·exact h.elim
theorem visT_names {σ:SMem} {q r:Nat→Bool} (hw:σ.Wf) (hv:∀c,c < σ.B.n→r c=true) (hq:∀k,q k=true→r (σ.B.n+k)=true):∀ {l:List SV} {p:Prop},visT σ l p→namT q l=true→(denL σ.B.n l).all (namesB r)=true
 | [],p,h,hl=>rfl
 | x :: l,p,h,hl=>by
  simp only [namT,Bool.and_eq_true]at hl
  have key:visS σ x (visT σ l p)→(locS x).all q=true→(denL σ.B.n (x :: l)).all (namesB r)=true:=by
   intro h h2
   have h3:=(visS_ok hw 0 h).2.2
   simp only [denL,List.all_cons,visS_names h hv hq h2,visT_names hw hv hq h3 hl.2,Bool.and_self]
  cases x with
  | agg cs =>
   have h':visC σ cs (visT σ l p):=h
   have h3:=(visC_ok hw 0 h').2.2
   have h1:=visC_names hw hv hq h' hl.1
   simp only [denL,den,List.all_cons,visT_names hw hv hq h3 hl.2,Bool.and_true]
   exact(namesB_all _).trans h1
  | _=>exact key h hl.1
theorem visK_names {σ:SMem} {q r:Nat→Bool} (hw:σ.Wf) (hv:∀c,c < σ.B.n→r c=true) (hq:∀k,q k=true→r (σ.B.n+k)=true) {x:SV} {p:Prop} (h:visK σ x p) (hl:namS q x=true):namesB r (den σ.B.n x)=true:=by
 cases x with
 | agg cs=>exact(namesB_all _).trans (visC_names hw hv hq (show visC σ cs p from h) hl)
 | tup cs =>
  have:=visT_names hw hv hq (show visT σ cs p from h) hl
  simp only [den]
  exact(namesB_all _).trans this
 | _=>exact visS_names (p:=p) h hv hq hl
theorem plain1_ok {x:SV} (h:plain1 x):∃v,(∀N,den N x=.v v)∧oneV v=true:=by
 unfold plain1 at h
 split at h
 ·exact⟨_,fun _=>rfl,rfl⟩
 ·exact⟨_,fun _=>rfl,rfl⟩
 ·exact⟨_,fun _=>rfl,h⟩
 ·exact h.elim
theorem gcells_plain {N n sz:Nat} {e:El} (h:PlainE n e):∀x∈gcells N n sz e,∃v,x=.v v∧oneV v=true:=by
 intro x hx
 unfold gcells at hx
 obtain⟨q,hq,rfl⟩:=List.mem_map.1 hx
 have hq':q < n*sz:=by simpa using hq
 cases hc:(e.at (q / sz))[q % sz]? with
 | none=>exact⟨.bool false,rfl,rfl⟩
 | some y =>
  obtain⟨v,h1,h2⟩:=plain1_ok (h (q / sz) (Nat.div_lt_of_lt_mul (by rw [Nat.mul_comm]; exact hq')) y (List.mem_of_getElem? hc))
  exact⟨v,h1 N,h2⟩
theorem chkObj_ok {σ:SMem} {q r:Nat→Bool} (hw:σ.Wf) (hv:∀c,c < σ.B.n→r c=true) (hq:∀k,q k=true→r (σ.B.n+k)=true) {o:SObj} {p:Prop} (h:chkObj q σ o p) :
  newB σ.den.n r (denO σ.B.n o)=true∧((denO σ.B.n o).live=true→(denO σ.B.n o).own=true)∧p:=by
 have hown:∀(c:List RV) (k:Kd),ownK k=true→(RObj.cells c k).own=true:=fun c k hk=>by cases k<;>first | rfl | simp [ownK]at hk
 cases o with
 | dead=>exact⟨rfl,fun h=>h,h⟩
 | cells c kd =>
  have h':(match ownK kd && namC q c with
   | true=>visC σ c p
   | false=>False):=h
  split at h'
  ·rename_i hc
   rw [Bool.and_eq_true]at hc
   obtain⟨h1,_,h2⟩:=visC_ok hw 0 h'
   refine⟨?_,fun _=>hown _ _ hc.1,h2⟩
   show(belowC σ.den.n (denL σ.B.n c) && (denL σ.B.n c).all (namesB r))=true
   rw [h1,visC_names hw hv hq h' hc.2]; rfl
  ·exact h'.elim
 | gr n sz e kd z =>
  have h':(match ownK kd with
   | true=>Ob (PlainE n e)∧p
   | false=>False):=h
  split at h'
  ·rename_i hc
   obtain⟨⟨h1⟩,h2⟩:=h'
   by_cases hd:z=true∧n=0
   ·rw [show denO σ.B.n (.gr n sz e kd z)=.dead by simp only [denO]; rw [if_pos hd]]
    exact⟨rfl,fun h=>h,h2⟩
   ·rw [show denO σ.B.n (.gr n sz e kd z)=.cells (gcells σ.B.n n sz e) kd by simp only [denO]; rw [if_neg hd]]
    refine⟨?_,fun _=>hown _ _ hc,h2⟩
    show(belowC σ.den.n (gcells σ.B.n n sz e) && (gcells σ.B.n n sz e).all (namesB r))=true
    rw [Bool.and_eq_true,belowC_iff,List.all_eq_true]
    refine⟨?_,?_⟩
    ·intro x hx
     obtain⟨v,rfl,hv⟩:=gcells_plain h1 x hx
     refine⟨hv,?_⟩
     cases v<;>simp_all [below,oneV]
    ·intro x hx
     obtain⟨v,rfl,hv⟩:=gcells_plain h1 x hx
     rfl
  ·exact h'.elim
 | lp st pd R=>exact(show False from h).elim
 | mp ks c ro =>
  have h':(match !ro && namC q c with
   | true=>visC σ c p
   | false=>False):=h
  split at h'
  ·rename_i hc
   rw [Bool.and_eq_true]at hc
   obtain⟨h1,_,h2⟩:=visC_ok hw 0 h'
   have h3:=visC_names hw hv hq h' hc.2
   refine⟨?_,fun _=>?_,h2⟩
   ·show(mapEs σ.B.n 0 ks c).all (fun e=>below σ.den.n e.1 && namesB r e.1 && below σ.den.n e.2.1 && namesB r e.2.1)=true
    rw [List.all_eq_true]
    intro e he
    obtain⟨k,x,hx,e1,e2⟩:=mapEs_mem he
    have hm:den σ.B.n x∈denL σ.B.n c:=by rw [denL_eq]; exact List.mem_map_of_mem hx
    rw [e1,e2]
    have h4:=((belowC_iff _ _).1 h1 _ hm).2
    have h5:=List.all_eq_true.1 h3 _ hm
    simp only [h4,h5,Bool.and_true]
    rfl
   ·have:=hc.1
    cases ro with
    | true=>simp at this
    | false=>rfl
  ·exact h'.elim
theorem chkL_ok {σ:SMem} {q r:Nat→Bool} (hw:σ.Wf) (hv:∀c,c < σ.B.n→r c=true) (hq:∀k,q k=true→r (σ.B.n+k)=true) {wr:List Nat} {lo:Nat}:∀ {l:List SObj} {n:Nat} {p:Prop},l.length=n→chkL q σ wr lo l n p →
  (∀i o,l[i]?=some o→(hasN wr (n-1-i) || Nat.ble lo (n-1-i))=true→newB σ.den.n r (denO σ.B.n o)=true∧((denO σ.B.n o).live=true→(denO σ.B.n o).own=true))∧p
 | [],n,p,hl,h=>⟨fun i o hi=>by simp at hi,by unfold chkL at h; exact h⟩
 | o :: l,0,p,hl,h=>by simp at hl
 | o :: l,n+1,p,hl,h=>by
  have hl':l.length=n:=by simpa using hl
  unfold chkL at h
  split at h
  ·rename_i hc
   obtain⟨h1,h2,h3⟩:=chkObj_ok hw hv hq h
   obtain⟨h4,h5⟩:=chkL_ok hw hv hq hl' h3
   refine⟨?_,h5⟩
   intro i o2 hi hc2
   cases i with
   | zero =>
    simp only [List.getElem?_cons_zero,Option.some.injEq]at hi
    subst hi
    exact⟨h1,h2⟩
   | succ i=>exact h4 i o2 (by simpa using hi) (by rw [show n+1-1-(i+1)=n-1-i by omega]at hc2; exact hc2)
  ·rename_i hc
   obtain⟨h4,h5⟩:=chkL_ok hw hv hq hl' h
   refine⟨?_,h5⟩
   intro i o2 hi hc2
   cases i with
   | zero =>
    rw [show n+1-1-0=n by omega,hc]at hc2
    simp at hc2
   | succ i=>exact h4 i o2 (by simpa using hi) (by rw [show n+1-1-(i+1)=n-1-i by omega]at hc2; exact hc2)
theorem rw_ext {W1 W2:RW} (hn:W1.n=W2.n) (h1:W1.wf) (h2:W2.wf) (h:∀c,W1.get c=W2.get c):W1=W2:=by
 obtain⟨n1,l1⟩:=W1
 obtain⟨n2,l2⟩:=W2
 simp only at hn
 subst hn
 have e1:l1.length=n1:=h1
 have e2:l2.length=n1:=h2
 congr 1
 apply List.ext_getElem?
 intro i
 by_cases hi:i < n1
 ·have h3:=h (n1-1-i)
  rw [rget,rget,if_pos (show n1-1-i < n1 by omega),if_pos (show n1-1-i < n1 by omega)]at h3
  rwa [show n1-1-(n1-1-i)=i by omega]at h3
 ·rw [List.getElem?_eq_none (by omega),List.getElem?_eq_none (by omega)]
theorem wf_den {σ:SMem} (hw:σ.Wf) (hB:σ.B.wf):σ.den.wf:=by
 show(σ.L.map (denO σ.B.n)++σ.B.l).length=σ.B.n+σ.n
 rw [List.length_append,List.length_map,hw.len,show σ.B.l.length=σ.B.n from hB]
 omega
end
section
variable [Env] {P:Program} {ev:Ev} {ops:Array Oper} {C:Know}
theorem wA1_ok (hC:KnowOk P ev C) {L0 b i:Nat} {o:Oper} {r:ROper} (hd:decOper P ops o=some r) {t:List SV} {T:RT} {σ:SMem} {log:List Ent} {K:List SV→SMem→Ent→Prop} (hT:TT σ.B.n t T) (hw:σ.Wf) (hB:σ.B.wf)
  (h:wA1 P C ops L0 o b i t σ log K) :
  ∃t' T' σ' e x,K t' σ' e∧TT σ.B.n t' T'∧σ'.B=σ.B∧σ'.Wf∧e.j=i∧e.bits=b∧e.lo=σ.n∧e.hi=σ'.n∧e.al=false∧(∀c,hasN e.wr c=true→c < σ.n) ∧
   AStep σ.B.n P ev T T' σ.den σ'.den
    (fun c=>wantedR T r.guard && (Nat.ble σ.B.n c && (hasN e.wr (c-σ.B.n) || (Nat.ble σ.n (c-σ.B.n) && Nat.blt (c-σ.B.n) σ'.n))))
    (fun c=>Nat.blt c σ.B.n || (Nat.blt c σ.den.n && (hasN e.rd (c-σ.B.n) || hasN e.wr (c-σ.B.n))))
    (fun c=>Nat.blt c σ.B.n || seenA L0 b log (c-σ.B.n)) o r x:=by
 obtain⟨B,n,L⟩:=σ
 have hL:L.length=n:=hw.len
 simp only at hT hB
 have hok:=decOper_ok hd
 unfold wA1 at h
 simp only [fnats_eq]at h
 split at h
 case h_2=>exact h.elim
 rename_i hwr
 have hwr:∀c,hasN (footS o.op t).2 c=true→c < n:=fun c hc=>by
  have:=List.all_eq_true.1 hwr c (hasN_iff.1 hc)
  rw [blt_eq,decide_eq_true_eq]at this
  exact this
 generalize (footS o.op t).1=rd at *
 generalize (footS o.op t).2=wr at *
 have hwm:SMem.Wf ⟨B,n,maskL rd wr L n⟩:=⟨maskL_len rd wr L n hL⟩
 obtain⟨t',T',σ1,hone,hT',hB1,hw1,h⟩:=wOne_ok hC hd (σ:=⟨B,n,maskL rd wr L n⟩) hT hwm h
 obtain⟨B1,n1,L1⟩:=σ1
 simp only at hB1 hT' h
 subst hB1
 split at h
 case h_2=>exact h.elim
 rename_i hn1
 have hn1:=Nat.le_of_ble_eq_true hn1
 have hL1:L1.length=n1:=hw1.len
 obtain⟨o1,h⟩:=overK_ok h
 rw [mergeK_eq]at h
 have hol:(L1.drop (n1-n)).length=n:=by rw [List.length_drop]; omega
 have hml:(mergeL wr L (L1.drop (n1-n)) n).length=n:=mergeL_len wr _ _ n hL hol
 have hnl:(L1.take (n1-n)).length=n1-n:=by rw [List.length_take]; omega
 generalize hL':L1.take (n1-n)++mergeL wr L (L1.drop (n1-n)) n=L' at h
 have hlen':L'.length=n1:=by rw [← hL',List.length_append,hnl,hml]; omega
 have hwf':SMem.Wf ⟨B1,n1,L'⟩:=⟨hlen'⟩
 have hget':∀k,(⟨B1,n1,L'⟩:SMem).get k=if k < n then (if hasN wr k then (⟨B1,n1,L1⟩:SMem).get k else (⟨B1,n,L⟩:SMem).get k)else (⟨B1,n1,L1⟩:SMem).get k:=by
  intro k
  simp only [sget]
  by_cases hk:k < n
  ·rw [if_pos (show k < n1 by omega),if_pos hk,if_pos (show k < n1 by omega),if_pos hk,← hL',List.getElem?_append_right (by omega),hnl,show n1-1-k-(n1-n)=n-1-k by omega,
    mergeL_at wr _ _ n hL hol,show n-1-(n-1-k)=k by omega,List.getElem?_drop,show n1-n+(n-1-k)=n1-1-k by omega]
  ·rw [if_neg hk]
   by_cases hk1:k < n1
   ·rw [if_pos hk1,if_pos hk1,← hL',List.getElem?_append_left (by omega),List.getElem?_take,if_pos (by omega)]
   ·rw [if_neg hk1,if_neg hk1]
 have hgetm:∀k,(⟨B1,n,maskL rd wr L n⟩:SMem).get k=((⟨B1,n,L⟩:SMem).get k).map fun o=>if hasN wr k then o else if hasN rd k then o.toRo else .dead:=by
  intro k
  simp only [sget]
  by_cases hk:k < n
  ·rw [if_pos hk,if_pos hk,maskL_at rd wr L n hL,show n-1-(n-1-k)=k by omega]
  ·rw [if_neg hk,if_neg hk]; rfl
 have hcase:∃x,(wantedR T r.guard=true∧effR P ev (r.op T (SMem.den ⟨B1,n,maskL rd wr L n⟩)) (SMem.den ⟨B1,n,maskL rd wr L n⟩)=some (x,SMem.den ⟨B1,n1,L1⟩) ∨
   wantedR T r.guard=false∧x=ud∧SMem.den ⟨B1,n1,L1⟩=SMem.den ⟨B1,n,maskL rd wr L n⟩)∧r.put T x=some T':=by
  unfold oneR at hone
  split at hone
  ·rename_i hwt
   unfold doneR at hone
   split at hone
   ·rename_i x W he
    split at hone
    ·rename_i T2 hp
     simp only [Option.some.injEq,Prod.mk.injEq]at hone
     obtain⟨rfl,rfl⟩:=hone
     exact⟨x,.inl ⟨hwt,he⟩,hp⟩
    ·simp at hone
   ·simp at hone
  ·rename_i hwt
   unfold doneR at hone
   simp only at hone
   split at hone
   ·rename_i T2 hp
    simp only [Option.some.injEq,Prod.mk.injEq]at hone
    obtain⟨rfl,h2⟩:=hone
    exact⟨ud,.inr ⟨by simpa using hwt,rfl,h2.symm⟩,hp⟩
   ·simp at hone
 obtain⟨x,hx,hput⟩:=hcase
 obtain⟨p1,p2,p3⟩:=hok.put T T' x hput
 have hMn:(SMem.den ⟨B1,n,L⟩).n=B1.n+n:=rfl
 have hMn':(SMem.den ⟨B1,n1,L'⟩).n=B1.n+n1:=rfl
 let q:Nat→Bool:=fun c=>seenA L0 b log c || (Nat.ble n c && Nat.blt c n1)
 let rr:Nat→Bool:=madeA (fun c=>Nat.blt c B1.n || seenA L0 b log (c-B1.n)) (B1.n+n) (B1.n+n1)
 have hv:∀c,c < B1.n→rr c=true:=fun c hc=>by
  show(_ || _ || _)=true
  have:Nat.blt c B1.n=true:=by rw [blt_eq]; simpa using hc
  rw [this]; simp
 have hq2:∀k,q k=true→rr (B1.n+k)=true:=fun k hk=>by
  show((Nat.blt (B1.n+k) B1.n || seenA L0 b log (B1.n+k-B1.n)) || (Nat.ble (B1.n+n) (B1.n+k) && Nat.blt (B1.n+k) (B1.n+n1)))=true
  rw [show B1.n+k-B1.n=k by omega]
  have hk':(seenA L0 b log k || (Nat.ble n k && Nat.blt k n1))=true:=hk
  rw [Bool.or_eq_true]at hk'
  rcases hk' with h1 | h1
  ·rw [h1]; simp
  ·rw [Bool.and_eq_true,blt_eq,decide_eq_true_eq]at h1
   have h2:=Nat.le_of_ble_eq_true h1.1
   have e1:Nat.ble (B1.n+n) (B1.n+k)=true:=Nat.ble_eq_true_of_le (by omega)
   have e2:Nat.blt (B1.n+k) (B1.n+n1)=true:=by rw [blt_eq,decide_eq_true_eq]; omega
   rw [e1,e2]; simp
 have hX:below (B1.n+n1) x=true∧namesB rr x=true∧chkL q ⟨B1,n1,L'⟩ wr n L' n1 (K t' ⟨B1,n1,L'⟩ ⟨i,b,n,n1,rd,wr,false,[]⟩):=by
  unfold chkX at h
  split at h
  ·rename_i d hdst
   split at h
   case h_2=>exact h.elim
   rename_i xv hxv
   split at h
   case h_2=>exact h.elim
   rename_i hns
   have e1:x=den B1.n xv:=by
    have h1:=p3 d
    rw [if_pos hdst]at h1
    rw [← h1,hT'.get d]
    rw [lget_eq]at hxv
    rw [hxv]; rfl
   obtain⟨h1,_,h2⟩:=visK_ok hwf' 0 h
   have h3:=visK_names hwf' hv hq2 h hns
   rw [e1]
   exact⟨h1,h3,h2⟩
  ·split at h
   case h_2=>exact h.elim
   rename_i hst
   have e1:x=ud:=by
    rcases hx with ⟨_,he⟩ | ⟨_,h1,_⟩
    ·have hsto:∃a,storeTo o.op=some a:=by
      cases hop:o.op<;>rw [hop]at hst<;>try (simp [isStore]at hst; done)
      exact⟨_,rfl⟩
     obtain⟨a,ha⟩:=hsto
     unfold effR at he
     cases hr:r.op T (SMem.den ⟨B1,n,maskL rd wr L n⟩)with
     | none=>rw [hr]at he; simp at he
     | some e =>
      obtain⟨W',c,off,cs,cs',kd,rfl,_⟩:=store_spec hok.op ha hr
      rw [hr]at he
      simp only [Option.some.injEq,Prod.mk.injEq]at he
      exact he.1.symm
    ·exact h1
   subst e1
   exact⟨rfl,rfl,h⟩
 obtain⟨hbx,hnx,h⟩:=hX
 obtain⟨hcl,hK⟩:=chkL_ok hwf' hv hq2 hlen' h
 have hg':∀c,(SMem.den ⟨B1,n1,L'⟩).get c=if c < B1.n then B1.get c else ((⟨B1,n1,L'⟩:SMem).get (c-B1.n)).map (denO B1.n):=fun c=>denM_get hwf' c
 have hg1:∀c,(SMem.den ⟨B1,n1,L1⟩).get c=if c < B1.n then B1.get c else ((⟨B1,n1,L1⟩:SMem).get (c-B1.n)).map (denO B1.n):=fun c=>denM_get hw1 c
 have hgm:∀c,(SMem.den ⟨B1,n,maskL rd wr L n⟩).get c=if c < B1.n then B1.get c else ((⟨B1,n,maskL rd wr L n⟩:SMem).get (c-B1.n)).map (denO B1.n):=fun c=>denM_get hwm c
 have hg0:∀c,(SMem.den ⟨B1,n,L⟩).get c=if c < B1.n then B1.get c else ((⟨B1,n,L⟩:SMem).get (c-B1.n)).map (denO B1.n):=fun c=>denM_get hw c
 have hDc:∀c,(wantedR T r.guard && (Nat.ble B1.n c && (hasN wr (c-B1.n) || (Nat.ble n (c-B1.n) && Nat.blt (c-B1.n) n1))))=true→wantedR T r.guard=true∧B1.n≤c∧(hasN wr (c-B1.n)=true∨(n≤c-B1.n∧c-B1.n < n1)):=by
  intro c hc
  rw [Bool.and_eq_true,Bool.and_eq_true,Bool.or_eq_true,Bool.and_eq_true,blt_eq,decide_eq_true_eq]at hc
  exact⟨hc.1,Nat.le_of_ble_eq_true hc.2.1,hc.2.2.imp id fun h=>⟨Nat.le_of_ble_eq_true h.1,h.2⟩⟩
 have hcD:∀c,wantedR T r.guard=true→B1.n≤c→(hasN wr (c-B1.n)=true∨(n≤c-B1.n∧c-B1.n < n1))→(wantedR T r.guard && (Nat.ble B1.n c && (hasN wr (c-B1.n) || (Nat.ble n (c-B1.n) && Nat.blt (c-B1.n) n1))))=true:=by
  intro c h1 h2 h3
  rw [Bool.and_eq_true,Bool.and_eq_true,Bool.or_eq_true,Bool.and_eq_true,blt_eq,decide_eq_true_eq]
  exact⟨h1,Nat.ble_eq_true_of_le h2,h3.imp id fun h=>⟨Nat.ble_eq_true_of_le h.1,h.2⟩⟩
 have hDg:∀c ob,B1.n≤c→(hasN wr (c-B1.n)=true∨(n≤c-B1.n∧c-B1.n < n1))→(SMem.den ⟨B1,n1,L'⟩).get c=some ob →
   (SMem.den ⟨B1,n1,L1⟩).get c=some ob∧newB (B1.n+n1) rr ob=true∧(ob.live=true→ob.own=true):=by
  intro c ob h1 h2 h3
  have hcn:¬ c < B1.n:=by omega
  rw [hg',if_neg hcn]at h3
  obtain⟨so,h4,rfl⟩:=Option.map_eq_some_iff.1 h3
  have hk1:c-B1.n < n1:=by
   have:=h4
   rw [sget]at this
   split at this
   ·assumption
   ·simp at this
  have h5:(⟨B1,n1,L1⟩:SMem).get (c-B1.n)=some so:=by
   rw [hget']at h4
   by_cases hk:c-B1.n < n
   ·rw [if_pos hk]at h4
    rcases h2 with h2 | h2
    ·rw [if_pos h2]at h4; exact h4
    ·omega
   ·rw [if_neg hk]at h4; exact h4
  have h6:L'[n1-1-(c-B1.n)]?=some so:=by
   have:=h4
   rw [sget,if_pos hk1]at this
   exact this
  obtain⟨h7,h8⟩:=hcl _ so h6 (by
   rw [show n1-1-(n1-1-(c-B1.n))=c-B1.n by omega,Bool.or_eq_true]
   exact h2.imp id fun h=>Nat.ble_eq_true_of_le h.1)
  refine⟨?_,h7,h8⟩
  rw [hg1,if_neg hcn,h5]; rfl
 have hkeep:∀c,¬ (B1.n≤c∧(hasN wr (c-B1.n)=true∨(n≤c-B1.n∧c-B1.n < n1)))→(SMem.den ⟨B1,n1,L'⟩).get c=(SMem.den ⟨B1,n,L⟩).get c:=by
  intro c hc
  rw [hg',hg0]
  by_cases hcn:c < B1.n
  ·rw [if_pos hcn,if_pos hcn]
  ·rw [if_neg hcn,if_neg hcn,hget']
   have hnw:¬ hasN wr (c-B1.n)=true:=fun h=>hc ⟨by omega,.inl h⟩
   by_cases hk:c-B1.n < n
   ·rw [if_pos hk,if_neg hnw]
   ·rw [if_neg hk]
    have:¬ c-B1.n < n1:=fun h=>hc ⟨by omega,.inr ⟨by omega,h⟩⟩
    simp only [sget]
    rw [if_neg this,if_neg hk]
 refine⟨t',T',⟨B1,n1,L'⟩,⟨i,b,n,n1,rd,wr,false,[]⟩,x,hK,hT',rfl,hwf',rfl,rfl,rfl,rfl,rfl,hwr,p1,p2,p3,wf_den hwf' hB,by show B1.n+n≤B1.n+n1; omega,?_,?_,hbx,hnx,?_,?_,?_,?_⟩
 ·intro c hc
  rw [Bool.or_eq_true,Bool.and_eq_true,blt_eq,blt_eq,decide_eq_true_eq,decide_eq_true_eq]at hc
  rcases hc with hc | hc
  ·show c < B1.n+n
   exact Nat.lt_of_lt_of_le hc (Nat.le_add_right _ _)
  ·exact hc.1
 ·intro c hc
  rcases hx with ⟨hwt,he⟩ | ⟨hwt,_,heq⟩
  ·refine hkeep c fun⟨h1,h2⟩=>?_
   rw [hcD c hwt h1 h2]at hc
   simp at hc
  ·
   have hnn:n1=n:=by
    have:B1.n+n1=B1.n+n:=congrArg RW.n heq
    omega
   by_cases hcc:B1.n≤c∧(hasN wr (c-B1.n)=true∨(n≤c-B1.n∧c-B1.n < n1))
   ·obtain⟨h1,h2 | h2⟩:=hcc
    ·have hcn:¬ c < B1.n:=by omega
     have hk:=hwr _ h2
     have h3:=congrArg (fun W=>RW.get W c) heq
     simp only [hg1,hgm,if_neg hcn]at h3
     rw [hg',hg0,if_neg hcn,if_neg hcn,hget',if_pos hk,if_pos h2,h3,hgetm]
     simp only [h2,if_true]
     cases (⟨B1,n,L⟩:SMem).get (c-B1.n)<;>rfl
    ·omega
   ·exact hkeep c hcc
 ·intro c ob hc hg
  obtain⟨_,h1,h2⟩:=hDc c hc
  exact(hDg c ob h1 h2 hg).2.1
 ·intro c ob hc hg
  obtain⟨_,h1,h2⟩:=hDc c hc
  exact(hDg c ob h1 h2 hg).2.2
 ·intro c hc
  cases hb:(wantedR T r.guard && (Nat.ble B1.n c && (hasN wr (c-B1.n) || (Nat.ble n (c-B1.n) && Nat.blt (c-B1.n) n1))))with
  | false=>rfl
  | true =>
   have h1:B1.n≤c:=(hDc c hb).2.1
   have hc':c < B1.n:=hc
   omega
 ·rcases hx with ⟨hwt,he⟩ | ⟨hwt,hxu,heq⟩
  ·refine .inr ⟨hwt,SMem.den ⟨B1,n,maskL rd wr L n⟩,SMem.den ⟨B1,n1,L1⟩,⟨wf_den hwm hB,rfl,?_⟩,he,rfl,?_,?_⟩
   ·intro c ob hg
    rw [hgm]at hg
    by_cases hcn:c < B1.n
    ·rw [if_pos hcn]at hg
     refine .inr (.inr ⟨hcn,?_⟩)
     rw [hg0,if_pos hcn]; exact hg
    ·rw [if_neg hcn,hgetm]at hg
     obtain⟨so',h1,rfl⟩:=Option.map_eq_some_iff.1 hg
     obtain⟨so,h2,rfl⟩:=Option.map_eq_some_iff.1 h1
     have hk:c-B1.n < n:=by
      have:=h2
      rw [sget]at this
      split at this
      ·assumption
      ·simp at this
     have hM:(SMem.den ⟨B1,n,L⟩).get c=some (denO B1.n so):=by rw [hg0,if_neg hcn,h2]; rfl
     have hlt:Nat.blt c (SMem.den ⟨B1,n,L⟩).n=true:=by
      rw [blt_eq,decide_eq_true_eq]
      show c < B1.n+n
      omega
     by_cases hwk:hasN wr (c-B1.n)=true
     ·refine .inr (.inl ⟨?_,_,hM,.inr ⟨by rw [if_pos hwk],hcD c hwt (by omega) (.inl hwk)⟩⟩)
      rw [hlt,hwk]; simp
     ·rw [if_neg hwk]
      by_cases hrk:hasN rd (c-B1.n)=true
      ·rw [if_pos hrk]
       rcases toRo_den B1.n so with h3 | h3
       ·refine .inr (.inl ⟨?_,_,hM,.inl h3⟩)
        rw [hlt,hrk]; simp
       ·exact .inl h3
      ·rw [if_neg hrk]
       exact .inl rfl
   ·intro c ob hc hg
    obtain⟨_,h1,h2⟩:=hDc c hc
    exact .inr (hDg c ob h1 h2 hg).1
   ·intro c ob hcn hg
    have hcn':c < B1.n:=hcn
    rw [hgm,if_pos hcn']at hg
    rw [hg1,if_pos hcn']; exact hg
  ·refine .inl ⟨hwt,hxu,?_,fun c=>by rw [hwt]; rfl⟩
   have hnn:n1=n:=by
    have:B1.n+n1=B1.n+n:=congrArg RW.n heq
    omega
   subst hnn
   refine rw_ext rfl (wf_den hwf' hB) (wf_den hw hB) fun c=>?_
   by_cases hcc:B1.n≤c∧(hasN wr (c-B1.n)=true∨(n1≤c-B1.n∧c-B1.n < n1))
   ·obtain⟨h1,h2 | h2⟩:=hcc
    ·have hcn:¬ c < B1.n:=by omega
     have hk:=hwr _ h2
     have h3:=congrArg (fun W=>RW.get W c) heq
     simp only [hg1,hgm,if_neg hcn]at h3
     rw [hg',hg0,if_neg hcn,if_neg hcn,hget',if_pos hk,if_pos h2,h3,hgetm]
     simp only [h2,if_true]
     cases (⟨B1,n1,L⟩:SMem).get (c-B1.n)<;>rfl
    ·omega
   ·exact hkeep c hcc
def entUp (N:Nat) (e:Ent):Ent:=⟨e.j,e.bits,N+e.lo,N+e.hi,e.rd.map (N+·),e.wr.map (N+·),false,[]⟩
omit [Env] in
theorem hasN_up (N:Nat) (l:List Nat) (c:Nat):hasN (l.map (N+·)) (N+c)=hasN l c:=by
 rw [Bool.eq_iff_iff,hasN_iff,hasN_iff,List.mem_map]
 constructor
 ·rintro⟨x,h1,h2⟩
  have h2:N+x=N+c:=h2
  rwa [show c=x by omega]
 ·exact fun h=>⟨c,h,rfl⟩
omit [Env] in
theorem hasN_lo (N:Nat) (l:List Nat) {c:Nat} (h:hasN (l.map (N+·)) c=true):N≤c∧hasN l (c-N)=true:=by
 rw [hasN_iff,List.mem_map]at h
 obtain⟨x,h1,rfl⟩:=h
 refine⟨Nat.le_add_right _ _,?_⟩
 rw [Nat.add_sub_cancel_left]
 exact hasN_iff.2 h1
omit [Env] in
theorem apart_up {N:Nat} {e f:Ent} (he:e.al=false) (hf:f.al=false) (h:apartE e f=true):apartE (entUp N e) (entUp N f)=true:=by
 have ht:∀(g:Ent) (c:Nat),g.al=false→touchB (entUp N g) (N+c)=touchB g c:=by
  intro g c hg
  unfold touchB
  simp only [entUp,hg,hasN_up]
 have hr:∀c,(Nat.ble (entUp N e).lo (N+c) && Nat.blt (N+c) (entUp N e).hi)=(Nat.ble e.lo c && Nat.blt c e.hi):=by
  intro c
  rw [Bool.eq_iff_iff]
  simp only [entUp,Bool.and_eq_true,blt_eq,decide_eq_true_eq]
  constructor
  ·rintro⟨h1,h2⟩
   have:=Nat.le_of_ble_eq_true h1
   exact⟨Nat.ble_eq_true_of_le (by omega),by omega⟩
  ·rintro⟨h1,h2⟩
   have:=Nat.le_of_ble_eq_true h1
   exact⟨Nat.ble_eq_true_of_le (by omega),by omega⟩
 unfold apartE at h ⊢
 rw [Bool.or_eq_true]at h ⊢
 rcases h with h | h
 ·exact .inl h
 ·refine .inr ?_
  simp only [Bool.and_eq_true,hf,Bool.false_or]at h ⊢
  obtain⟨⟨q1,q2⟩,q3,q4⟩:=h
  have hal:(entUp N f).al=false:=rfl
  refine⟨⟨?_,?_⟩,?_,?_⟩
  ·show((e.wr.map (N+·)).all fun c=>!touchB (entUp N f) c)=true
   rw [List.all_map]
   simpa only [Function.comp_def,ht f _ hf] using q1
  ·show((f.wr.map (N+·)).all fun c=>!touchB (entUp N e) c)=true
   rw [List.all_map]
   simpa only [Function.comp_def,ht e _ he] using q2
  ·show((f.wr.map (N+·)).all fun c=>!(Nat.ble (entUp N e).lo c && Nat.blt c (entUp N e).hi))=true
   rw [List.all_map]
   simpa only [Function.comp_def,hr] using q3
  ·rw [hal,Bool.false_or]
   show((f.rd.map (N+·)).all fun c=>!(Nat.ble (entUp N e).lo c && Nat.blt c (entUp N e).hi))=true
   rw [List.all_map]
   simpa only [Function.comp_def,hr] using q4
def logOf (En:Nat→Ent) (log:List Ent) (j:Nat):List Ent:=(List.range j).reverse.map En++log
omit [Env] in
theorem logOf_succ (En:Nat→Ent) (log:List Ent) (j:Nat):logOf En log (j+1)=En j :: logOf En log j:=by
 unfold logOf
 rw [List.range_succ]
 simp
omit [Env] in
theorem logOf_tail (En:Nat→Ent) (log:List Ent) (e:Ent):∀j,logOf (fun j=>match j with | 0=>e | j+1=>En j) log (j+1)=logOf En (e :: log) j
 | 0=>rfl
 | j+1=>by
  have h1:=logOf_tail En log e j
  rw [logOf_succ En (e :: log) j,← h1,logOf_succ _ log (j+1)]
theorem wA_ok (hC:KnowOk P ev C) {L0:Nat} {K:Kt} {B:RW} (hB:B.wf):∀ {l:List (Oper×Nat)} {rs:List ROper} {i:Nat} {t:List SV} {T:RT} {σ:SMem} {log:List Ent},omap (decOper P ops) (l.map (·.1))=some rs→TT σ.B.n t T→σ.Wf→σ.B=B →
  wA P C ops L0 l i t σ log K →
  ∃(Tr:Nat→RT) (Sg:Nat→SMem) (En:Nat→Ent) (tk:List SV),Tr 0=T∧Sg 0=σ∧(∀j,j≤l.length→(Sg j).B=B∧(Sg j).Wf)∧TT B.n tk (Tr l.length)∧apartL (logOf En log l.length)=true∧K tk (Sg l.length) ∧
   ∀(j:Nat) (x:Oper×Nat) (r:ROper),l[j]?=some x→rs[j]?=some r→(En j).j=i+j∧(En j).bits=x.2∧(En j).lo=(Sg j).n∧(En j).hi=(Sg (j+1)).n∧(En j).al=false∧(∀c,hasN (En j).wr c=true→c < (Sg j).n) ∧
    ∃xv,AStep B.n P ev (Tr j) (Tr (j+1)) (Sg j).den (Sg (j+1)).den
     (fun c=>wantedR (Tr j) r.guard && (Nat.ble B.n c && (hasN (En j).wr (c-B.n) || (Nat.ble (Sg j).n (c-B.n) && Nat.blt (c-B.n) (Sg (j+1)).n))))
     (fun c=>Nat.blt c B.n || (Nat.blt c (Sg j).den.n && (hasN (En j).rd (c-B.n) || hasN (En j).wr (c-B.n))))
     (fun c=>Nat.blt c B.n || seenA L0 x.2 (logOf En log j) (c-B.n)) x.1 r xv
 | [],rs,i,t,T,σ,log,hd,hT,hw,hσ,h=>by
  unfold wA at h
  split at h
  ·rename_i ha
   refine⟨fun _=>T,fun _=>σ,fun _=>⟨0,0,0,0,[],[],false,[]⟩,t,rfl,rfl,fun j _=>⟨hσ,hw⟩,by rw [← hσ]; exact hT,ha,h,fun j x r hx=>by simp at hx⟩
  ·exact h.elim
 | (o,b) :: l,rs,i,t,T,σ,log,hd,hT,hw,hσ,h=>by
  simp only [List.map_cons,omap]at hd
  split at hd
  case h_2=>simp at hd
  rename_i r rs' h1 h2
  simp only [Option.some.injEq]at hd
  subst hd hσ
  unfold wA at h
  obtain⟨t1,T1,σ1,e,x,hK,g1,g2,g3,g4,g5,g6,g7,g8,g9,g10⟩:=wA1_ok hC h1 hT hw hB h
  rw [fnat_eq]at hK
  obtain⟨Tr,Sg,En,tk,f1,f2,f3,f4,f5,f6,f7⟩:=wA_ok hC hB (σ:=σ1) h2 (by rw [g2]; exact g1) g3 g2 hK
  refine⟨fun j=>match j with | 0=>T | j+1=>Tr j,fun j=>match j with | 0=>σ | j+1=>Sg j,fun j=>match j with | 0=>e | j+1=>En j,tk,rfl,rfl,?_,f4,?_,f6,?_⟩
  ·intro j hj
   cases j with
   | zero=>exact⟨rfl,hw⟩
   | succ j=>exact f3 j (by simpa using hj)
  ·rw [List.length_cons,logOf_tail]; exact f5
  ·intro j y ry hy hry
   cases j with
   | zero =>
    simp only [List.getElem?_cons_zero,Option.some.injEq]at hy hry
    subst hy hry
    simp only [f1,f2]
    exact⟨g4,g5,g6,g7,g8,g9,x,g10⟩
   | succ j =>
    have:=f7 j y ry (by simpa using hy) (by simpa using hry)
    rw [logOf_tail]
    refine⟨?_,this.2⟩
    have h3:=this.1
    show(En j).j=i+(j+1)
    omega
theorem wAnyT_ok (hC:KnowOk P ev C) {t:List SV} {T:RT} {σ:SMem} {K:Kt} (hT:TT σ.B.n t T) (hw:σ.Wf) (hB:σ.B.wf) (h:wAnyT P C ops t σ K) :
  ∃l k Tr M D F N tk σk,omap (decOper P ops) ops.toList=some l∧k=planTail (Region.before ops).toList ops.size∧edgesB P ops=true∧Any σ.B.n P ev ops k Tr M D F N∧Tr 0=T∧M 0=σ.den∧M k=σk.den∧σk.B=σ.B∧σk.Wf∧TT σ.B.n tk (Tr k)∧K tk σk:=by
 unfold wAnyT at h
 split at h
 case h_2=>exact h.elim
 rename_i l hom
 split at h
 case h_2=>exact h.elim
 rename_i hE
 rw [fnat_eq]at h
 split at h
 case h_2=>exact h.elim
 rename_i hab
 rw [fnat_eq]at h
 generalize hk:planTail (Region.before ops).toList ops.size=k at *
 have hkl:k≤ops.size:=by rw [← hk]; exact planTail_le _ _
 have hbl:(Region.before ops).toList.length=ops.size:=by simp [before_size]
 have hzl:((ops.toList.zip (Region.before ops).toList).take k).length=k:=by
  rw [List.length_take,List.length_zip,hbl,Array.length_toList]
  omega
 have hmap:((ops.toList.zip (Region.before ops).toList).take k).map (·.1)=ops.toList.take k:=by
  rw [List.map_take,List.map_fst_zip]
  rw [hbl,Array.length_toList]
  exact Nat.le_refl _
 have htk:∀(k:Nat) {xs:List Oper} {ys:List ROper},omap (decOper P ops) xs=some ys→omap (decOper P ops) (xs.take k)=some (ys.take k):=by
  intro k
  induction k with
  | zero=>intro xs ys _; rfl
  | succ k ih =>
   intro xs ys h
   cases xs with
   | nil=>simp only [omap,Option.some.injEq]at h; subst h; rfl
   | cons x xs =>
    simp only [omap]at h
    split at h
    ·rename_i y ys' h1 h2
     simp only [Option.some.injEq]at h
     subst h
     simp only [List.take_succ_cons,omap,h1,ih h2]
    ·simp at h
 obtain⟨Tr,Sg,En,tk,f1,f2,f3,f4,f5,f6,f7⟩:=wA_ok hC hB (ops:=ops) (rs:=l.take k) (by rw [hmap]; exact htk k hom) hT hw rfl h
 rw [hzl]at f3 f4 f5 f6
 have hlen:l.length=ops.toList.length:=omap_length hom
 have hS:∀j,j < k→∃o ro x,ops[j]?=some o∧OpOk P ops o ro∧(En j).j=j∧(En j).bits=bitsOf ops j∧(En j).lo=(Sg j).n∧(En j).hi=(Sg (j+1)).n∧(En j).al=false∧(∀c,hasN (En j).wr c=true→c < (Sg j).n) ∧
   AStep σ.B.n P ev (Tr j) (Tr (j+1)) (Sg j).den (Sg (j+1)).den
     (fun c=>wantedR (Tr j) ro.guard && (Nat.ble σ.B.n c && (hasN (En j).wr (c-σ.B.n) || (Nat.ble (Sg j).n (c-σ.B.n) && Nat.blt (c-σ.B.n) (Sg (j+1)).n))))
     (fun c=>Nat.blt c σ.B.n || (Nat.blt c (Sg j).den.n && (hasN (En j).rd (c-σ.B.n) || hasN (En j).wr (c-σ.B.n))))
     (fun c=>Nat.blt c σ.B.n || seenA σ.n (bitsOf ops j) (logOf En [] j) (c-σ.B.n)) o ro x:=by
  intro j hj
  have hjo:j < ops.toList.length:=by rw [Array.length_toList]; omega
  obtain⟨y,hy1,hy2⟩:=omap_get hom j ops.toList[j] (List.getElem?_eq_getElem hjo)
  have hjb:j < (Region.before ops).toList.length:=by omega
  have hx:((ops.toList.zip (Region.before ops).toList).take k)[j]?=some (ops.toList[j],bitsOf ops j):=by
   rw [List.getElem?_take,if_pos hj,List.getElem?_zip_eq_some (z:=(ops.toList[j],(Region.before ops).toList[j])) |>.2 ⟨List.getElem?_eq_getElem hjo,List.getElem?_eq_getElem hjb⟩]
   show _=some (ops.toList[j],(Region.before ops).getD j 0)
   rw [Array.getD_eq_getD_getElem?,← Array.getElem?_toList,List.getElem?_eq_getElem hjb]
   rfl
  obtain⟨g1,g2,g3,g4,g5,g6,xv,g7⟩:=f7 j _ y hx (by rw [List.getElem?_take,if_pos hj]; exact hy1)
  exact⟨ops.toList[j],y,xv,by simp,decOper_ok hy2,by omega,g2,g3,g4,g5,g6,g7⟩
 have hMn:∀j,j≤k→(Sg j).den.n=σ.B.n+(Sg j).n:=fun j hj=>by
  show(Sg j).B.n+(Sg j).n=_
  rw [(f3 j hj).1]
 have hmem:∀j e,e∈logOf En [] j→∃i,i < j∧e=En i:=by
  intro j
  induction j with
  | zero=>intro e he; simp [logOf]at he
  | succ j ih =>
   intro e he
   rw [logOf_succ]at he
   rcases List.mem_cons.1 he with rfl | he
   ·exact⟨j,by omega,rfl⟩
   ·obtain⟨i,h1,h2⟩:=ih e he
    exact⟨i,by omega,h2⟩
 have hmem2:∀j i,i < j→En i∈logOf En [] j:=by
  intro j
  induction j with
  | zero=>intro i hi; omega
  | succ j ih =>
   intro i hi
   rw [logOf_succ]
   by_cases hij:i=j
   ·subst hij; exact List.mem_cons_self
   ·exact List.mem_cons_of_mem _ (ih i (by omega))
 have hap:∀d,d≤k→apartL (logOf En [] (k-d))=true:=by
  intro d
  induction d with
  | zero=>intro _; exact f5
  | succ d ih =>
   intro hd
   have h1:=ih (by omega)
   rw [show k-d=k-(d+1)+1 by omega,logOf_succ]at h1
   unfold apartL at h1
   rw [Bool.and_eq_true]at h1
   exact h1.2
 have hpair:∀i j,i < j→j < k→apartE (En i) (En j)=true:=by
  intro i j hij hj
  have h1:=hap (k-(j+1)) (by omega)
  rw [show k-(k-(j+1))=j+1 by omega,logOf_succ]at h1
  unfold apartL at h1
  rw [Bool.and_eq_true]at h1
  exact List.all_eq_true.1 h1.1 _ (hmem2 j i hij)
 have hA:Any σ.B.n P ev ops k Tr (fun j=>(Sg j).den)
   (fun j c=>if h:j < k then wantedR (Tr j) (Classical.choose (Classical.choose_spec (hS j h))).guard && (Nat.ble σ.B.n c && (hasN (En j).wr (c-σ.B.n) || (Nat.ble (Sg j).n (c-σ.B.n) && Nat.blt (c-σ.B.n) (Sg (j+1)).n)))else false)
   (fun j c=>Nat.blt c σ.B.n || (Nat.blt c (Sg j).den.n && (hasN (En j).rd (c-σ.B.n) || hasN (En j).wr (c-σ.B.n))))
   (fun j c=>Nat.blt c σ.B.n || seenA σ.n (bitsOf ops j) (logOf En [] j) (c-σ.B.n)):=by
  refine any_of (E:=fun j=>entUp σ.B.n (En j)) hkl ?_ ?_ ?_ ?_ ?_ hab
  ·intro j hj
   obtain⟨x,ho,hok,g1,g2,g3,g4,g5,g6,g7⟩:=Classical.choose_spec (Classical.choose_spec (hS j hj))
   refine⟨_,_,x,ho,hok,g1,g2,?_,?_,?_,?_⟩
   ·show σ.B.n+(En j).lo=_
    rw [hMn j (by omega),g3]
   ·show σ.B.n+(En j).hi=_
    rw [hMn (j+1) (by omega),g4]
   ·intro c hc
    obtain⟨h1,h2⟩:=hasN_lo σ.B.n _ (show hasN ((En j).wr.map (σ.B.n+·)) c=true from hc)
    have:=g6 _ h2
    rw [hMn j (by omega)]
    omega
   ·simp only [dif_pos hj]
    exact g7
  ·intro j c hj hc
   simp only [dif_pos hj]at hc
   rw [Bool.and_eq_true,Bool.and_eq_true,Bool.or_eq_true,Bool.and_eq_true,blt_eq,decide_eq_true_eq]at hc
   obtain⟨_,h1,h2⟩:=hc
   have h1:=Nat.le_of_ble_eq_true h1
   rcases h2 with h2 | ⟨h2,h3⟩
   ·refine .inl ?_
    show hasN ((En j).wr.map (σ.B.n+·)) c=true
    rw [show c=σ.B.n+(c-σ.B.n)by omega,hasN_up]
    exact h2
   ·have h2:=Nat.le_of_ble_eq_true h2
    refine .inr ?_
    rw [hMn j (by omega),hMn (j+1) (by omega)]
    omega
  ·intro j c hj hc
   by_cases hcn:c < σ.B.n
   ·exact .inl hcn
   ·rw [Bool.or_eq_true,Bool.and_eq_true,Bool.or_eq_true,blt_eq,decide_eq_true_eq]at hc
    rcases hc with hc | ⟨_,hc⟩
    ·exact absurd hc hcn
    ·have e1:c=σ.B.n+(c-σ.B.n):=by omega
     have hc':hasN (entUp σ.B.n (En j)).rd c=true∨hasN (entUp σ.B.n (En j)).wr c=true:=by
      show hasN ((En j).rd.map (σ.B.n+·)) c=true∨hasN ((En j).wr.map (σ.B.n+·)) c=true
      rw [e1,hasN_up,hasN_up]
      exact hc
     refine .inr ⟨?_,fun h=>by simp [entUp]at h,fun _=>hc'⟩
     unfold touchB
     rw [Bool.or_eq_true]
     exact hc'.symm
  ·intro j c hj hc
   have h0:(Sg 0).den.n=σ.B.n+σ.n:=by rw [hMn 0 (by omega),f2]
   by_cases hcn:c < σ.B.n
   ·refine .inl ?_
    rw [h0]; omega
   ·rw [Bool.or_eq_true,blt_eq,decide_eq_true_eq]at hc
    rcases hc with hc | hc
    ·exact absurd hc hcn
    ·unfold seenA at hc
     rw [Bool.or_eq_true,blt_eq,decide_eq_true_eq,List.any_eq_true]at hc
     rcases hc with hc | ⟨e,he,hc⟩
     ·refine .inl ?_
      rw [h0]; omega
     ·obtain⟨i,hi,rfl⟩:=hmem j e he
      obtain⟨_,_,_,_,_,g1,g2,g3,g4,_⟩:=hS i (by omega)
      rw [Bool.and_eq_true,Bool.and_eq_true,blt_eq,decide_eq_true_eq,g1,g3,g4]at hc
      obtain⟨⟨h1,h2⟩,h3⟩:=hc
      have h1:=Nat.le_of_ble_eq_true h1
      refine .inr ⟨i,hi,?_,?_,h3⟩
      ·rw [hMn i (by omega)]; omega
      ·rw [hMn (i+1) (by omega)]; omega
  ·intro i j hij hj
   obtain⟨_,_,_,_,_,_,_,_,_,i5,_⟩:=hS i (by omega)
   obtain⟨_,_,_,_,_,_,_,_,_,j5,_⟩:=hS j hj
   exact apart_up i5 j5 (hpair i j hij hj)
 have hwk:=(f3 k (Nat.le_refl _)).2
 have hBk:=(f3 k (Nat.le_refl _)).1
 exact⟨l,k,Tr,_,_,_,_,tk,Sg k,hom,rfl,hE,hA,f1,by show(Sg 0).den=_; rw [f2],rfl,hBk,hwk,f4,f6⟩
theorem wAny_ok (hev:EvOk P ev) (hN:NoOwn P) (hC:KnowOk P ev C) {t:List SV} {T:RT} {σ:SMem} {K:Kt} (hT:TT σ.B.n t T) (hw:σ.Wf) (hB:σ.B.wf) (h:wAny P C ops t σ K) :
  ∃T' t' σ',(∀id,RegRun P id ops true T σ.den T' σ'.den)∧TT σ.B.n t' T'∧σ'.B=σ.B∧σ'.Wf∧K t' σ':=by
 obtain⟨l,k,Tr,M,D,F,N,tk,σk,hom,hk,hE,hA,f1,f2,f3,hBk,hwk,f4,f6⟩:=wAnyT_ok hC hT hw hB h
 rw [fnat_eq,← hk]at f6
 obtain⟨t2,T2,σ2,h4,h5,h6,h7,h8⟩:=wSeq_ok hC (omap_take k hom) (show TT σk.B.n tk (Tr k)by rw [hBk]; exact f4) hwk f6
 refine⟨T2,t2,σ2,fun id=>?_,by rw [← hBk]; exact h5,h6.trans hBk,h7,h8⟩
 rw [← f3]at h4
 have:=hA.code hev hN hk hE hom h4 (id:=id)
 rw [f1,f2]at this
 exact this
theorem wAnyI_ok (hev:EvOk P ev) (hN:NoOwn P) (hC:KnowOk P ev C) {t:List SV} {T:RT} {σ:SMem} {K:Kt} (hT:TT σ.B.n t T) (hw:σ.Wf) (hB:BOk σ.B) (h:wAnyI P C ops t σ K) :
  ∀tp,RegTo P ops (Region.schedule (P.follows .mixedOrders) ops tp) T σ.den (SymTo σ.B K):=by
 obtain⟨l,k,Tr,M,D,F,N,tk,σk,hom,hk,hE,hA,f1,f2,f3,hBk,hwk,f4,f6⟩:=wAnyT_ok hC hT hw hB.wf h
 rw [fnat_eq,← hk]at f6
 intro tp m w fr cs K' hr hl htr hm0 htd
 obtain⟨hE1,hmix⟩:=edges_ok hE
 have hsched:∃tp',Region.schedule (P.follows .mixedOrders) ops tp=Region.linearise.go .any ops ops.size tp' (Array.replicate ops.size false) []:=by
  unfold Region.schedule
  rw [if_pos hmix]
  exact⟨_,rfl⟩
 obtain⟨tp',hs2⟩:=hsched
 rw [hs2]at htd
 subst f1
 rw [← f2]at hr hl
 obtain⟨m1,w1,arr1,st2,hr1,hp1,hlt1,htr1⟩:=hA.first_ok hev hN hE1 hk (m:=m) (fr:=fr) (cs:=cs) (K:=K') (tp:=tp') (w:=w) hr hl htr hm0 htd
 rw [f3]at hr1 hlt1
 obtain⟨T2,W2,m2,w2,tm2,hQ,st3,hr2,hp2,hl2,ht2⟩:=wSeqI_ok hev hN hC (is:=List.range' k (ops.size-k)) (omap_take k hom) (by simp) (by
  intro j i o hi ho
  have hij:i=k+j:=by
   have:=(List.getElem?_eq_some_iff.1 hi).2
   simp at this
   exact this.symm
  subst hij
  rw [List.getElem?_drop]at ho
  simpa using ho) (show TT σk.B.n tk (Tr k)by rw [hBk]; exact f4) hwk (by rw [hBk]; exact hB) f6 m1 w1 { fr with tmps:=arr1,todo:=.inRegion ops (List.range' k (ops.size-k)) :: K' } cs K' hr1 hlt1 htr1 hm0 rfl
 rw [f2,f3]at hp1
 rw [hBk]at hQ
 exact⟨T2,W2,m2,w2,tm2,hQ,st2.trans st3,hr2,hp1.trans hp2,hl2,ht2⟩
theorem anyTo (hev:EvOk P ev) (hN:NoOwn P) (hC:KnowOk P ev C) {n0:Nat} {f:FuncId} {rd:Option Nat} {id:Nat} {t:List SV} {T:RT} {σ:SMem} {ds:List Nat} {K:Kt} {Q:Ex→St→Prop} (hT:TT σ.B.n t T) (hw:σ.Wf) (hB:BOk σ.B) (h:wAnyI P C ops t σ K)
  (hQ:∀T' W',SymTo σ.B K T' W'→Q .nrm ⟨T',W',ds⟩):CodeTo n0 P f rd (.region id ops true) ⟨T,σ.den,ds⟩ Q:=by
 have g2:=wAnyI_ok hev hN hC hT hw hB h
 intro h0 m w fr cs k hn hrd hr hl hfr htd
 obtain⟨tp,st1⟩:=s_draw (P:=P) (cs:=cs) (w:=w) hfr.mode htd
 obtain⟨T',W',m',w',tm,hS,st2,hr',hp',hl',ht'⟩:=g2 tp m { w with drawn:=w.drawn+1 } { fr with todo:=.inRegion ops (Region.schedule (P.follows .mixedOrders) ops tp) :: k } cs k (hr.same rfl) hl hfr.tr hfr.mode rfl
 exact⟨.nrm,⟨T',W',ds⟩,m',w',_,hQ _ _ hS,st1.trans st2,hr',hl',hfr.next rfl (hp'.drew.at hn) hrd ht' ds k,hp'.drew.at hn,rfl,rfl⟩
end
end Go.Rv
