import Derived.Test.YtdnphbnnhfpphaaSyP1
import Derived.WideShapes
import Derived.ChangeSlices
import Derived.Deep.SlicePairs
import Derived.Lib.SmallJoins
namespace Go.Rv
open Go
structure Ann where
 α:Type
 t:α→List (Option SV)
 M:α→List SObj
 inv:α→Prop
 μ:α→Nat
 un:Nat
noncomputable section
def wFill:List (Option SV)→(List SV→Prop)→Prop
 | [],K=>K []
 | some x :: r,K=>wFill r fun t=>K (x :: t)
 | none :: r,K=>∀z:Value,wFill r fun t=>K (.raw z :: t)
def eq1 (x y:SV) (p:Prop):Prop:=match x with
 | .i j a=>match y with
  | .i k b=>match decEq j k with
   | .isTrue _=>Ob (b=a)∧p
   | .isFalse _=>False
  | .v (.int k b)=>match decEq j k with
   | .isTrue _=>Ob (b=a)∧p
   | .isFalse _=>False
  | _=>False
 | .p c=>match y with
  | .p d=>Ob (d↔c)∧p
  | .v (.bool b)=>Ob (b=true↔c)∧p
  | _=>False
 | .ptr k o=>match y with
  | .ptr k' o'=>match Nat.beq k k' && Nat.beq o o' with
   | true=>p
   | false=>False
  | _=>False
 | .v (.int j a)=>match y with
  | .i k b=>match decEq j k with
   | .isTrue _=>Ob (b=a)∧p
   | .isFalse _=>False
  | .v z=>Ob (z=.int j a)∧p
  | _=>False
 | x=>Ob (y=x)∧p
def eqC:List SV→List SV→Prop→Prop
 | [],[],p=>p
 | x :: r,y :: s,p=>eq1 x y (eqC r s p)
 | _,_,_=>False
def eqA (x y:SV) (p:Prop):Prop:=match x with
 | .agg xs=>match y with
  | .agg ys=>eqC xs ys p
  | _=>False
 | x=>eq1 x y p
def eqT:List SV→List SV→Prop→Prop
 | [],[],p=>p
 | x :: r,y :: s,p=>eqA x y (eqT r s p)
 | _,_,_=>False
def eqS (x y:SV) (p:Prop):Prop:=match x with
 | .tup xs=>match y with
  | .tup ys=>eqT xs ys p
  | _=>False
 | x=>eqA x y p
def setP:List Nat→Nat→Nat→List Nat
 | [],_,_=>[]
 | _ :: r,0,x=>x :: r
 | y :: r,i+1,x=>y :: setP r i x
def setPs:List Nat→List Nat→List Nat→List Nat
 | p,k :: r,k' :: r'=>setPs (setP p k k') r r'
 | p,_,_=>p
def fnatL (n:Nat) (K:Nat→List Nat):List Nat:=K n
def inf1 (ab:Nat) (p:List Nat) (x y:SV):List Nat:=match x with
 | .ptr k _=>match y with
  | .ptr k' _=>setP p k k'
  | _=>p
 | .sl k _ _ _=>match y with
  | .sl k' _ _ _=>setP p k k'
  | _=>p
 | .gsl k _ _ _=>match y with
  | .gsl k' _ _ _=>setP p k k'
  | .sl k' _ _ _=>setP p k k'
  | .v _=>fnatL (ab+k) fun j=>setP p k j
  | _=>p
 | .gel k _ _ _=>match y with
  | .gel k' _ _ _=>setP p k k'
  | _=>p
 | .fv _ ks=>match y with
  | .fv _ ks'=>setPs p ks ks'
  | _=>p
 | .yl k=>match y with
  | .yl k'=>setP p k k'
  | _=>p
 | _=>p
def infC (ab:Nat) (p:List Nat):List SV→List SV→List Nat
 | [],_=>p
 | x :: r,ys=>match ys with
  | []=>p
  | y :: s=>infC ab (inf1 ab p x y) r s
def infA (ab:Nat) (p:List Nat) (x y:SV):List Nat:=match x with
 | .agg xs=>match y with
  | .agg ys=>infC ab p xs ys
  | _=>p
 | x=>inf1 ab p x y
def infT (ab:Nat) (p:List Nat):List (Option SV)→List SV→List Nat
 | [],_=>p
 | x :: r,ys=>match ys with
  | []=>p
  | y :: s=>match x with
   | some x=>infT ab (infA ab p x y) r s
   | none=>infT ab p r s
def infM (σ:SMem) (p:List Nat):List SObj→List Nat
 | []=>p
 | o :: r=>let p:=infM σ p r
  match o with
  | .cells c _=>match lget p r.length with
   | some k=>match σ.get k with
    | some (.cells c' _)=>infC σ.n p c c'
    | _=>p
   | none=>p
  | .dead=>p
  | .gr _ _ _ _ _=>p
  | .lp _ _ _=>p
  | .mp _ _ _=>p
def iota:Nat→List Nat→List Nat
 | 0,l=>l
 | n+1,l=>iota n (n :: l)
def fpos (l:List Nat) (K:List Nat→Prop):Prop:=match l with
 | []=>K []
 | x :: r=>fnat x fun x=>fpos r fun r=>K (x :: r)
def softO (o:SObj):Bool:=match o with
 | .dead=>true
 | .cells _ .ro=>true
 | .gr _ _ _ .ro _=>true
 | _=>false
def apartM (ps:List Nat) (j:Nat) (s:Bool):List SObj→Bool
 | []=>true
 | o :: r=>(match lget ps r.length with
  | some i=>(s && softO o) || !Nat.beq j i
  | none=>false) && apartM ps j s r
def nodupM (ps:List Nat):List SObj→Bool
 | []=>true
 | o :: r=>(match lget ps r.length with
  | some j=>apartM ps j (softO o) r
  | none=>false) && nodupM ps r
def at? (p:List Nat) (k k':Nat):Bool:=match lget p k with
 | some j=>Nat.beq j k'
 | none=>false
def ats? (p:List Nat):List Nat→List Nat→Bool
 | [],[]=>true
 | k :: r,k' :: r'=>at? p k k' && ats? p r r'
 | _,_=>false
def mt1 (ps:List Nat) (x y:SV) (p:Prop):Prop:=match x with
 | .ptr k o=>match y with
  | .ptr k' o'=>match at? ps k k' && Nat.beq o o' with
   | true=>p
   | false=>False
  | _=>False
 | .sl k o n e=>match y with
  | .sl k' o' n' e'=>match at? ps k k' && (Nat.beq o o' && (Nat.beq n n' && Nat.beq e e'))with
   | true=>p
   | false=>False
  | _=>False
 | .gsl k n sz z=>match y with
  | .gsl k' n' sz' z'=>match at? ps k k' && Nat.beq sz sz' with
   | true=>match z,z' with
    | true,true=>Ob (n'=n)∧p
    | false,false=>Ob (n'=n)∧p
    | _,_=>Ob (n'=n∧0 < n)∧p
   | false=>False
  | .sl k' 0 n' sz'=>match at? ps k k' && Nat.beq sz sz' with
   | true=>match z with
    | false=>Ob (n'=n)∧p
    | true=>Ob (n'=n∧0 < n)∧p
   | false=>False
  | .v (.slice none 0 0)=>match z with
   | true=>Ob (n=0)∧p
   | false=>False
  | _=>False
 | .gel k sz i f=>match y with
  | .gel k' sz' i' f'=>match at? ps k k' && (Nat.beq sz sz' && Nat.beq f f')with
   | true=>Ob (i'=i)∧p
   | false=>False
  | _=>False
 | .fv g ks=>match y with
  | .fv g' ks'=>match Nat.beq g g' && ats? ps ks ks' with
   | true=>p
   | false=>False
  | _=>False
 | .yl k=>match y with
  | .yl k'=>match at? ps k k' with
   | true=>p
   | false=>False
  | _=>False
 | .mp _=>False
 | .bf _ _=>False
 | x=>eq1 x y p
def mtC (ps:List Nat):List SV→List SV→Prop→Prop
 | [],[],p=>p
 | x :: r,y :: s,p=>mt1 ps x y (mtC ps r s p)
 | _,_,_=>False
def mtA (ps:List Nat) (x y:SV) (p:Prop):Prop:=match x with
 | .agg xs=>match y with
  | .agg ys=>mtC ps xs ys p
  | _=>False
 | x=>mt1 ps x y p
def fitsT (ps:List Nat):List (Option SV)→List SV→Prop→Prop
 | [],[],p=>p
 | some x :: r,y :: s,p=>mtA ps x y (fitsT ps r s p)
 | none :: r,_ :: s,p=>fitsT ps r s p
 | _,_,_=>False
def sameKd (a b:Kd):Bool:=match a,b with
 | .ex,.ex=>true
 | .gr,.gr=>true
 | .ro,.ro=>true
 | _,_=>false
def kdOk (a b:Kd):Bool:=match a,b with
 | .ex,.ex=>true
 | .gr,.gr=>true
 | .gr,.ex=>true
 | .ro,.ro=>true
 | .ro,.gr=>true
 | .ro,.ex=>true
 | _,_=>false
def sameSt (a b:LoopState):Bool:=match a,b with
 | .ready,.ready=>true
 | .busy,.busy=>true
 | _,_=>false
def noneB (a:Option Code):Bool:=match a with
 | none=>true
 | some _=>false
def fitsM (ps:List Nat) (σ:SMem):List SObj→Prop→Prop
 | [],p=>p
 | o :: r,p=>match o with
  | .dead=>fitsM ps σ r p
  | .cells c k=>match lget ps r.length with
   | some j=>match σ.get j with
    | some (.cells c' k')=>match sameKd k k' with
     | true=>mtC ps c c' (fitsM ps σ r p)
     | false=>False
    | _=>False
   | none=>False
  | .gr n sz e kd z=>match lget ps r.length with
   | some j=>match σ.get j with
    | some (.gr n' sz' e' kd' z')=>match Nat.beq sz sz' && kdOk kd kd' with
     | true=>match z,z' with
      | false,true=>Ob (n'=n∧0 < n∧∀i,i < n→e'.at i=e.at i)∧fitsM ps σ r p
      | _,_=>Ob (n'=n∧∀i,i < n→e'.at i=e.at i)∧fitsM ps σ r p
     | false=>False
    | some (.cells c kd')=>fnat (c.length / sz) fun m=>match Nat.beq (m*sz) c.length && (litOk (symL c) sz m && kdOk kd kd')with
     | true=>match e with
      | .nf f=>Ob (m=n∧∀i,i < n→∀N,denL N ((litEl (symL c) sz m).at i)=denL N (f i))∧fitsM ps σ r p
      | e=>Ob (m=n∧∀i,i < n→(litEl (symL c) sz m).at i=e.at i)∧fitsM ps σ r p
     | false=>False
    | _=>match z with
     | true=>Ob (n=0)∧fitsM ps σ r p
     | false=>False
   | none=>False
  | .lp st pd R=>match lget ps r.length with
   | some j=>match σ.get j with
    | some (.lp st' pd' R')=>match sameSt st st' && (noneB pd && noneB pd')with
     | true=>Ob (R'=R)∧fitsM ps σ r p
     | false=>False
    | _=>False
   | none=>False
  | .mp _ _ _=>False
def visA (σ:SMem) (x:SV) (p:Prop):Prop:=match x with
 | .agg cs=>visC σ cs p
 | x=>visS σ x p
def visTs (σ:SMem):List (Option SV)→Prop→Prop
 | [],p=>p
 | some x :: r,p=>visA σ x (visTs σ r p)
 | none :: r,p=>visTs σ r p
def NamE (B:RW) (n:Nat) (f:Nat→List SV):Prop:=∀i,i < n→∀y∈f i,plain1 y∨∃x m sz e,y=.lst x m sz e∧IsLst B x m sz e∧oneB x=true
def visM (al:Option Nat) (σ:SMem):List SObj→Prop→Prop
 | [],p=>p
 | .dead :: r,p=>visM al σ r p
 | .cells c _ :: r,p=>visC σ c (visM al σ r p)
 | .gr n _ e _ _ :: r,p=>match e with
  | .nf f=>match al with
   | some _=>Ob (NamE σ.B n f)∧visM al σ r p
   | none=>False
  | e=>Ob (PlainE n e)∧visM al σ r p
 | .lp _ _ R :: r,p=>match al with
  | some fx=>Ob (R.b≤σ.B.n+fx)∧visM al σ r p
  | none=>False
 | .mp _ _ _ :: _,_=>False
def fixB (ps:List Nat):Nat→Bool
 | 0=>true
 | k+1=>at? ps k k && fixB ps k
def wViewA (al:Option Nat) (fx:Nat) (B:RW) (pt:List (Option SV)) (M:List SObj) (t:List SV) (σ:SMem):Prop:=
 fnat M.length fun len=>fpos (infM σ (infT σ.n (iota len []) pt t) M) fun ps=>match nodupM ps M && (Nat.beq ps.length len && fixB ps fx)with
  | true=>fitsT ps pt t (fitsM ps σ M (visTs ⟨B,len,M⟩ pt (visM al ⟨B,len,M⟩ M True)))
  | false=>False
def wView (fx:Nat) (B:RW) (pt:List (Option SV)) (M:List SObj) (t:List SV) (σ:SMem):Prop:=wViewA none fx B pt M t σ
def wViewL (fx:Nat) (B:RW) (pt:List (Option SV)) (M:List SObj) (t:List SV) (σ:SMem):Prop:=wViewA (some fx) fx B pt M t σ
def hasLp:List SObj→Bool
 | []=>false
 | .lp _ _ _ :: _=>true
 | _ :: r=>hasLp r
def keepK (σ:SMem):List SObj→(List SObj→Prop)→Prop
 | [],K=>K []
 | o :: r,K=>keepK σ r fun r'=>match σ.get r.length with
  | some (.lp st p R)=>K (.lp st p R :: r')
  | _=>K (o :: r')
def keepM (σ:SMem):List SObj→List SObj
 | []=>[]
 | o :: r=>(match σ.get r.length with
  | some (.lp st p R)=>.lp st p R
  | _=>o) :: keepM σ r
theorem keepK_eq (σ:SMem):∀(M:List SObj) (K:List SObj→Prop),keepK σ M K=K (keepM σ M)
 | [],_=>rfl
 | o :: r,K=>by
  simp only [keepK,keepM,keepK_eq σ r]
  split<;>rfl
def kept (σ:SMem) (M:List SObj) (K:List SObj→Prop):Prop:=match hasLp σ.L with
 | true=>keepK σ M K
 | false=>K M
def keptM (σ:SMem) (M:List SObj):List SObj:=match hasLp σ.L with
 | true=>keepM σ M
 | false=>M
theorem kept_eq (σ:SMem) (M:List SObj) (K:List SObj→Prop):kept σ M K=K (keptM σ M):=by
 unfold kept keptM
 split
 ·exact keepK_eq σ M K
 ·rfl
def lpGet (σ:SMem) (l:Nat) (K:LoopState→Option Code→LR→Prop):Prop:=match σ.get l with
 | some (.lp st p R)=>K st p R
 | _=>False
def setPar:List Tmp→List SV→List SV→(List SV→Prop)→Prop
 | [],[],t,K=>K t
 | p :: ps,a :: as,t,K=>lsetK t p a fun t=>setPar ps as t K
 | _,_,_,_=>False
def keyOf:Code→Option Nat
 | .region id _ _=>some id
 | .seq a b=>match keyOf a with
  | some k=>some k
  | none=>keyOf b
 | .cond _ a b=>match keyOf a with
  | some k=>some k
  | none=>keyOf b
 | .block _ c=>keyOf c
 | .loop c=>keyOf c
 | .scope c=>keyOf c
 | _=>none
abbrev Kx:=Ex→List SV→SMem→Prop
def unr (body:List SV→SMem→Kx→Prop) (Q:Kx):Nat→List SV→SMem→Prop
 | 0,_,_=>False
 | n+1,t,σ=>body t σ fun ex t' σ'=>match ex with
  | .nrm=>unr body Q n t' σ'
  | .exit id=>Q (.exit id) t' σ'
  | .ret=>Q .ret t' σ'
  | .goto l=>Q (.goto l) t' σ'
def cutKey (A:Nat→List SV→Ann) (b:Code) (t:List SV):Option Nat:=match keyOf b with
 | some k=>match Nat.beq (A k t).un 1000000 with
  | true=>some k
  | false=>none
 | none=>none
section
variable [Env] (P:Program) (C:Know) (A:Nat→List SV→Ann)
def rndK (R:LR) (l:Nat) (wa wb:Nat→List SV→SMem→Kx→Prop) (ps:List Tmp) (t:List SV) (args:List SV) (σ:SMem) (K:SV→SMem→Prop):Prop:=
 lpGet σ l fun _ _ R0=>Ob (R0=R)∧setPar ps args t fun t0=>fnat σ.n fun n=>wa n t0 σ fun ex t1 σ1=>match ex with
  | .nrm=>lpGet σ1 l fun st p R1=>match st with
   | .ready=>setK σ1 l (.lp .busy p R1) fun σ2=>wb n t1 σ2 fun ex _ σ3=>lpGet σ3 l fun _ _ R3=>match ex with
    | .nrm=>setK σ3 l (.lp .ready none R3) fun σ4=>K (.v (.bool true)) σ4
    | .exit id=>setK σ3 l (.lp .done (some (.exit id)) R3) fun σ4=>K (.v (.bool false)) σ4
    | .ret=>setK σ3 l (.lp .done (some .ret) R3) fun σ4=>K (.v (.bool false)) σ4
    | .goto g=>setK σ3 l (.lp .done (some (.goto g)) R3) fun σ4=>K (.v (.bool false)) σ4
   | _=>False
  | _=>False
def pendK (p:Option Code) (t:List SV) (σ:SMem) (Q:Kx):Prop:=match p with
 | none=>Q .nrm t σ
 | some c=>match c with
  | .exit id=>Q (.exit id) t σ
  | .ret=>Q .ret t σ
  | .goto g=>Q (.goto g) t σ
  | _=>False
def endK (l:Nat) (σ:SMem) (t:List SV) (Q:Kx):Prop:=lpGet σ l fun st p _=>match st with
 | .busy=>False
 | _=>setK σ l .dead fun σ=>pendK p t σ Q
def wRgn (ops:Array Oper) (draw:Bool) (t:List SV) (σ:SMem) (Q:Kx):Prop:=match useAny C ops draw with
 | true=>match inReg C.V ops with
  | true=>wAnyI P C ops t σ fun t σ=>Q .nrm t σ
  | false=>wAny P C ops t σ fun t σ=>Q .nrm t σ
 | false=>match inReg C.V ops with
  | true=>wRegI P C ops draw t σ fun t σ=>Q .nrm t σ
  | false=>wReg P C ops draw t σ fun t σ=>Q .nrm t σ
def caseK (hi:Nat) (K:SMem→Prop):List SObj→SMem→Prop
 | [],σ=>K σ
 | .gr k c _ _ z :: M,σ=>match z with
  | false=>match σ.get k with
   | some (.cells cs kd)=>match lget cs c with
    | some (.i κ z)=>splK z hi fun j=>match lset cs c (.v (.int κ (.ofNat j)))with
     | some cs=>setK σ k (.cells cs kd) fun σ=>caseK hi K M σ
     | none=>False
    | _=>False
   | _=>False
  | true=>match σ.get k with
   | some (.gr n sz e kd z)=>gRow e c fun cs=>fsl cs fun cs=>setK σ k (.gr n sz (.row e c cs) kd z) fun σ=>caseK hi K M σ
   | _=>False
 | _,_=>False
def wC (rd:Bool) (fx:Nat):Code→List SV→SMem→Kx→Prop
 | .skip,t,σ,Q=>Q .nrm t σ
 | .label _,t,σ,Q=>Q .nrm t σ
 | .ret,t,σ,Q=>Q .ret t σ
 | .exit id,t,σ,Q=>Q (.exit id) t σ
 | .goto l,t,σ,Q=>Q (.goto l) t σ
 | .seq a b,t,σ,Q=>match cutKey A b t with
  | none=>wC rd fx a t σ fun ex t σ=>match ex with
   | .nrm=>wC rd fx b t σ Q
   | .exit id=>Q (.exit id) t σ
   | .ret=>Q .ret t σ
   | .goto l=>Q (.goto l) t σ
  | some key =>
   (wC rd fx a t σ fun ex t' σ'=>match ex with
    | .nrm=>∃a:(A key t).α,Ob ((A key t).inv a)∧kept σ ((A key t).M a) fun M=>wViewL fx σ.B ((A key t).t a) M t' σ'
    | .exit id=>Q (.exit id) t' σ'
    | .ret=>Q .ret t' σ'
    | .goto l=>Q (.goto l) t' σ') ∧
   ∀a:(A key t).α,(A key t).inv a→wFill ((A key t).t a) fun t2=>kept σ ((A key t).M a) fun M=>fnat M.length fun n=>wC rd fx b t2 ⟨σ.B,n,M⟩ Q
 | .cond c a b,t,σ,Q=>op1 c t fun x=>match x with
  | .v (.bool true)=>wC rd fx a t σ Q
  | .v (.bool false)=>wC rd fx b t σ Q
  | .p q=>match c with
   | .tmp d=>(q→lsetK t d (.v (.bool true)) fun t=>wC rd fx a t σ Q)∧(¬ q→lsetK t d (.v (.bool false)) fun t=>wC rd fx b t σ Q)
   | _=>False
  | _=>False
 | .block id c,t,σ,Q=>wC rd fx c t σ fun ex t σ=>match ex with
  | .nrm=>Q .nrm t σ
  | .exit j=>match Nat.beq j id with
   | true=>Q .nrm t σ
   | false=>Q (.exit j) t σ
  | .ret=>Q .ret t σ
  | .goto l=>Q (.goto l) t σ
 | .scope c,t,σ,Q=>wC rd fx c t σ fun ex t σ=>match ex with
  | .nrm=>Q .nrm t σ
  | .exit id=>Q (.exit id) t σ
  | .ret=>Q .ret t σ
  | .goto _=>False
 | .region id ops draw,t,σ,Q=>match Nat.beq (A id t).un 1000002 with
  | true=>∃a:(A id t).α,caseK ((A id t).μ a) (fun σ=>wRgn P C ops draw t σ Q) ((A id t).M a) σ
  | false=>wRgn P C ops draw t σ Q
 | .loop c,t,σ,Q=>match keyOf c with
  | some key=>match (A key t).un with
   | 0 =>
    (∃a:(A key t).α,Ob ((A key t).inv a)∧kept σ ((A key t).M a) fun M=>wViewL fx σ.B ((A key t).t a) M t σ) ∧
    ∀a:(A key t).α,(A key t).inv a→wFill ((A key t).t a) fun t2=>kept σ ((A key t).M a) fun M=>fnat M.length fun n=>wC rd fx c t2 ⟨σ.B,n,M⟩ fun ex t' σ'=>match ex with
     | .nrm=>∃a':(A key t).α,Ob ((A key t).inv a'∧(A key t).μ a' < (A key t).μ a)∧kept σ ((A key t).M a') fun M=>wViewL fx σ.B ((A key t).t a') M t' σ'
     | .exit id=>Q (.exit id) t' σ'
     | .ret=>Q .ret t' σ'
     | .goto l=>Q (.goto l) t' σ'
   | n+1=>unr (fun t σ Q=>wC rd fx c t σ Q) Q (n+1) t σ
  | none=>False
 | .rangeFunc f params assign body,t,σ,Q=>match rd with
  | true=>False
  | false=>op1 f t fun x=>match x with
   | .fv g ks=>match C.V.has g with
    | true=>fnat σ.n fun n=>∀R:LR,R.b=σ.B.n+(n+1) →
      C.V.run ⟨true,σ.B,n+1,rndK R (n+1) (fun fx t σ Q=>wC true fx assign t σ Q) (fun fx t σ Q=>wC true fx body t σ Q) params.toList t⟩ g (.yl (n+1) :: ks.map fun k=>.ptr k 0) ⟨σ.B,n+2,.lp .ready none R :: .dead :: σ.L⟩ fun _ σ2=>endK (n+1) σ2 t Q
    | false=>False
   | _=>False
 | _,_,_,_=>False
def wRes:List ResultVar→List SV→SMem→(List SV→Prop)→Prop
 | [],_,_,K=>K []
 | .tmp i :: r,t,σ,K=>fsv (opS (.tmp i) t) fun x=>wRes r t σ fun xs=>K (x :: xs)
 | .cell a ty :: r,t,σ,K=>wLoad P ty σ (opS (.tmp a) t) fun x=>wRes r t σ fun xs=>K (x :: xs)
def oneS:List SV→SV
 | [x]=>x
 | xs=>.tup xs
def padS:Nat→List SV→List SV
 | 0,l=>l
 | n+1,[]=>.v undef :: padS n []
 | n+1,x :: r=>x :: padS n r
def wFunE (fx:Nat) (g:FuncId) (args:List SV) (B:RW) (L:List SObj) (Q:List SV→SMem→Prop):Prop:=match P.funcs[g]? with
 | some fn=>match fn.body with
  | some c=>fnat L.length fun n=>wC P C A false fx c (padS (max args.length fn.ntmps) args) ⟨B,n,L⟩ fun ex t σ=>match ex with
   | .nrm=>wRes P fn.results.toList t σ fun xs=>Q xs σ
   | .ret=>wRes P fn.results.toList t σ fun xs=>Q xs σ
   | _=>False
  | none=>False
 | none=>False
def wFun (g:FuncId) (args:List SV) (B:RW) (Q:SV→SMem→Prop):Prop:=wFunE P C A 0 g args B [] fun xs σ=>Q (oneS xs) σ
def wPure (g:FuncId) (args:List SV) (B:RW) (x:SV):Prop:=wFun P C A g args B fun y _=>eqS x y (visK ⟨B,0,[]⟩ x True)
end
end
section
variable {σ:SMem}
theorem eq1_ok {x y:SV} {p:Prop} (N:Nat) (h:eq1 x y p):den N y=den N x∧p:=by
 unfold eq1 at h
 split at h
 ·split at h
  ·split at h
   ·rename_i hj _
    subst hj
    obtain⟨⟨rfl⟩,h2⟩:=h
    exact⟨rfl,h2⟩
   ·exact h.elim
  ·split at h
   ·rename_i hj _
    subst hj
    obtain⟨⟨rfl⟩,h2⟩:=h
    exact⟨rfl,h2⟩
   ·exact h.elim
  ·exact h.elim
 ·split at h
  ·obtain⟨⟨h1⟩,h2⟩:=h
   have:=propext h1
   subst this
   exact⟨rfl,h2⟩
  ·rename_i c _ b
   obtain⟨⟨h1⟩,h2⟩:=h
   refine⟨?_,h2⟩
   simp only [den]
   congr 2
   rw [Bool.eq_iff_iff,h1]
   simp
  ·exact h.elim
 ·split at h
  ·split at h
   ·rename_i hb
    rw [Bool.and_eq_true]at hb
    rw [Nat.eq_of_beq_eq_true hb.1,Nat.eq_of_beq_eq_true hb.2]
    exact⟨rfl,h⟩
   ·exact h.elim
  ·exact h.elim
 ·split at h
  ·split at h
   ·rename_i hj _
    subst hj
    obtain⟨⟨rfl⟩,h2⟩:=h
    exact⟨rfl,h2⟩
   ·exact h.elim
  ·obtain⟨⟨rfl⟩,h2⟩:=h
   exact⟨rfl,h2⟩
  ·exact h.elim
 ·obtain⟨⟨rfl⟩,h2⟩:=h
  exact⟨rfl,h2⟩
theorem eqC_ok (N:Nat):∀ {xs ys:List SV} {p:Prop},eqC xs ys p→denL N ys=denL N xs∧p
 | [],[],p,h=>⟨rfl,h⟩
 | x :: r,y :: s,p,h=>by
  obtain⟨h1,h2⟩:=eq1_ok N (show eq1 x y (eqC r s p)from h)
  obtain⟨h3,h4⟩:=eqC_ok N h2
  exact⟨by simp only [denL,h1,h3],h4⟩
 | [],_ :: _,p,h=>h.elim
 | _ :: _,[],p,h=>h.elim
theorem eqA_ok {x y:SV} {p:Prop} (N:Nat) (h:eqA x y p):den N y=den N x∧p:=by
 unfold eqA at h
 split at h
 ·split at h
  ·obtain⟨h1,h2⟩:=eqC_ok N h
   exact⟨by simp only [den,h1],h2⟩
  ·exact h.elim
 ·exact eq1_ok N h
theorem eqT_ok (N:Nat):∀ {xs ys:List SV} {p:Prop},eqT xs ys p→denL N ys=denL N xs∧p
 | [],[],p,h=>⟨rfl,h⟩
 | x :: r,y :: s,p,h=>by
  obtain⟨h1,h2⟩:=eqA_ok N (show eqA x y (eqT r s p)from h)
  obtain⟨h3,h4⟩:=eqT_ok N h2
  exact⟨by simp only [denL,h1,h3],h4⟩
 | [],_ :: _,p,h=>h.elim
 | _ :: _,[],p,h=>h.elim
theorem eqS_ok {x y:SV} {p:Prop} (N:Nat) (h:eqS x y p):den N y=den N x∧p:=by
 unfold eqS at h
 split at h
 ·split at h
  ·obtain⟨h1,h2⟩:=eqT_ok N h
   exact⟨by simp only [den,h1],h2⟩
  ·exact h.elim
 ·exact eqA_ok N h
theorem sameKd_eq {a b:Kd} (h:sameKd a b=true):a=b:=by
 cases a<;>cases b<;>simp_all [sameKd]
def rho (N:Nat) (ps:List Nat) (b:Nat):Nat:=if b < N then b else N+(ps[b-N]?).getD 0
def nm1 (N:Nat) (x:SV):Prop:=match x with
 | .lst y _ _ _=>below N y=true
 | .elm y _ _ _ _ _=>below N y=true∧blkOf y < N
 | .rv _=>False
 | .raw _=>False
 | .agg _=>False
 | .tup _=>False
 | .bf _ s=>match s with
  | .ptr _ _=>True
  | _=>False
 | _=>True
def nmA (N:Nat) (x:SV):Prop:=match x with
 | .agg cs=>∀y∈cs,nm1 N y
 | x=>nm1 N x
def As (N:Nat) (ps:List Nat) (x y:SV):Prop:=∀m:Nat→Loc,rv m (den N y)=rv (fun b=>m (rho N ps b)) (den N x)
theorem rho_base {N:Nat} {ps:List Nat} {b:Nat} (h:b < N):rho N ps b=b:=if_pos h
theorem rho_at {N:Nat} {ps:List Nat} {k k':Nat} (h:at? ps k k'=true):rho N ps (N+k)=N+k':=by
 unfold at? at h
 split at h
 ·rename_i j hj
  rw [lget_eq]at hj
  have:=Nat.eq_of_beq_eq_true h
  subst this
  unfold rho
  rw [if_neg (by omega),Nat.add_sub_cancel_left,hj]
  rfl
 ·simp at h
theorem ats_map {N:Nat} {ps:List Nat} {m:Nat→Loc}:∀ {ks ks':List Nat},ats? ps ks ks'=true→(ks'.map fun k=>rv m (.ptr (N+k) 0))=ks.map fun k=>rv (fun b=>m (rho N ps b)) (.ptr (N+k) 0)
 | [],[],_=>rfl
 | k :: r,k' :: r',h=>by
  simp only [ats?,Bool.and_eq_true]at h
  have ih:=ats_map (m:=m) (N:=N) h.2
  simp only [List.map_cons,ih]
  congr 1
  simp only [rv,rho_at h.1]
 | [],_ :: _,h=>by simp [ats?]at h
 | _ :: _,[],h=>by simp [ats?]at h
theorem mt1_ok {N:Nat} {ps:List Nat} {x y:SV} {p:Prop} (h:mt1 ps x y p):(nm1 N x→As N ps x y)∧p:=by
 unfold mt1 at h
 split at h
 ·split at h
  ·split at h
   ·rename_i hb
    rw [Bool.and_eq_true]at hb
    have:=Nat.eq_of_beq_eq_true hb.2
    subst this
    exact⟨fun _ m=>by simp only [den,rv,rho_at hb.1],h⟩
   ·exact h.elim
  ·exact h.elim
 ·split at h
  ·split at h
   ·rename_i hb
    simp only [Bool.and_eq_true]at hb
    obtain⟨h0,h1,h2,h3⟩:=hb
    have:=Nat.eq_of_beq_eq_true h1
    have:=Nat.eq_of_beq_eq_true h2
    have:=Nat.eq_of_beq_eq_true h3
    subst_vars
    exact⟨fun _ m=>by simp only [den,rv,rho_at h0],h⟩
   ·exact h.elim
  ·exact h.elim
 ·rename_i k n sz z
  have hnil:∀(N k n:Nat) (z:Bool),z=true→n=0→den N (.gsl k n sz z)=.v (.slice none 0 0):=fun N k n z h1 h2=>by
   simp only [den]; rw [if_pos ⟨h1,h2⟩]
  have hsl:∀(N k n:Nat) (z:Bool),¬ (z=true∧n=0)→den N (.gsl k n sz z)=.sl (N+k) 0 n sz:=fun N k n z h=>by
   simp only [den]; rw [if_neg h]
  split at h
  ·rename_i k' n' sz' z'
   split at h
   ·rename_i hb
    rw [Bool.and_eq_true]at hb
    obtain⟨ha,hs⟩:=hb
    have:=Nat.eq_of_beq_eq_true hs
    subst this
    have fin:n'=n→(z=z'∨0 < n)→As N ps (.gsl k n sz z) (.gsl k' n' sz z'):=by
     rintro rfl hz m
     by_cases hd:z=true∧n'=0
     ·have hz':z'=true:=by rcases hz with h | h; exact h ▸ hd.1; omega
      rw [hnil N k n' z hd.1 hd.2,hnil N k' n' z' hz' hd.2]
      rfl
     ·rw [hsl N k n' z hd,hsl N k' n' z' (by rintro⟨h1,h2⟩; rcases hz with h | h; exact hd ⟨h ▸ h1,h2⟩; omega)]
      simp only [rv,rho_at ha]
    split at h
    ·exact⟨fun _=>fin h.1.h (.inl rfl),h.2⟩
    ·exact⟨fun _=>fin h.1.h (.inl rfl),h.2⟩
    ·exact⟨fun _=>fin h.1.h.1 (.inr h.1.h.2),h.2⟩
   ·exact h.elim
  ·rename_i k' n' sz'
   split at h
   ·rename_i hb
    rw [Bool.and_eq_true]at hb
    obtain⟨ha,hs⟩:=hb
    have:=Nat.eq_of_beq_eq_true hs
    subst this
    have fin:n'=n→(z=false∨0 < n)→As N ps (.gsl k n sz z) (.sl k' 0 n' sz):=by
     rintro rfl hz m
     rw [hsl N k n' z (by rintro⟨h1,h2⟩; rcases hz with h | h; simp [h1]at h; omega)]
     simp only [den,rv,rho_at ha]
    split at h
    ·exact⟨fun _=>fin h.1.h (.inl rfl),h.2⟩
    ·exact⟨fun _=>fin h.1.h.1 (.inr h.1.h.2),h.2⟩
   ·exact h.elim
  ·split at h
   ·obtain⟨⟨hn⟩,h2⟩:=h
    refine⟨fun _ m=>?_,h2⟩
    rw [hnil N k n true rfl hn]
    rfl
   ·exact h.elim
  ·exact h.elim
 ·split at h
  ·split at h
   ·rename_i hb
    simp only [Bool.and_eq_true]at hb
    obtain⟨ha,h1,h2⟩:=hb
    have:=Nat.eq_of_beq_eq_true h1
    have:=Nat.eq_of_beq_eq_true h2
    obtain⟨⟨h3⟩,h4⟩:=h
    subst_vars
    exact⟨fun _ m=>by simp only [den,rv,rho_at ha],h4⟩
   ·exact h.elim
  ·exact h.elim
 ·rename_i g ks
  split at h
  ·rename_i g' ks'
   split at h
   ·rename_i hb
    rw [Bool.and_eq_true]at hb
    have hg:=Nat.eq_of_beq_eq_true hb.1
    refine⟨fun _ m=>?_,h⟩
    have key:=ats_map (m:=m) (N:=N) hb.2
    simp only [rv]at key
    simp only [den,rv,rvL_eq,List.map_map,Function.comp_def,hg,key]
    rfl
   ·exact h.elim
  ·exact h.elim
 ·rename_i k
  split at h
  ·split at h
   ·rename_i ha
    exact⟨fun _ m=>by simp only [den,rv,rho_at ha],h⟩
   ·exact h.elim
  ·exact h.elim
 ·exact h.elim
 ·exact h.elim
 ·rename_i hx1 hx2 hx3 hx4 hx5 hx6 hx7 hx8
  obtain⟨h1,h2⟩:=eq1_ok N h
  refine⟨fun hn m=>?_,h2⟩
  rw [h1]
  cases x with
  | lst z n sz e =>
   refine rv_agree (n:=N) (fun b hb=>?_) _ hn
   rw [rho_base hb]
  | elm z n sz e i f =>
   have e1:(fun b=>m (rho N ps b)) (blkOf z)=m (blkOf z):=congrArg m (rho_base hn.2)
   simp only [den,rv,e1]
  | ptr k o=>exact absurd rfl (hx1 k o)
  | sl k o n e=>exact absurd rfl (hx2 k o n e)
  | gsl k n sz z=>exact absurd rfl (hx3 k n sz z)
  | gel k sz i f=>exact absurd rfl (hx4 k sz i f)
  | fv g ks=>exact absurd rfl (hx5 g ks)
  | yl k=>exact absurd rfl (hx6 k)
  | mp k=>exact absurd rfl (hx7 k)
  | bf g s=>exact absurd rfl (hx8 g s)
  | rv z=>exact hn.elim
  | raw z=>exact hn.elim
  | agg z=>exact hn.elim
  | tup z=>exact hn.elim
  | _=>rfl
theorem mtC_ok {N:Nat} {ps:List Nat}:∀ {xs ys:List SV} {p:Prop},mtC ps xs ys p→xs.length=ys.length∧(∀(i:Nat) (x y:SV),xs[i]?=some x→ys[i]?=some y→nm1 N x→As N ps x y)∧p
 | [],[],p,h=>⟨rfl,by simp,h⟩
 | x :: r,y :: s,p,h=>by
  obtain⟨h1,h2⟩:=mt1_ok (N:=N) (show mt1 ps x y (mtC ps r s p)from h)
  obtain⟨h3,h4,h5⟩:=mtC_ok (N:=N) h2
  refine⟨by simp [h3],?_,h5⟩
  intro i a b ha hb
  cases i with
  | zero =>
   simp only [List.getElem?_cons_zero,Option.some.injEq]at ha hb
   subst ha hb
   exact h1
  | succ i=>exact h4 i a b (by simpa using ha) (by simpa using hb)
 | [],_ :: _,p,h=>h.elim
 | _ :: _,[],p,h=>h.elim
theorem mtA_ok {N:Nat} {ps:List Nat} {x y:SV} {p:Prop} (h:mtA ps x y p):(nmA N x→As N ps x y)∧p:=by
 unfold mtA at h
 split at h
 ·rename_i xs
  split at h
  ·rename_i ys
   obtain⟨h1,h2,h3⟩:=mtC_ok (N:=N) h
   refine⟨fun hn m=>?_,h3⟩
   simp only [den,rv,rvL_eq,denL_eq,List.map_map]
   congr 2
   apply List.ext_getElem?
   intro i
   simp only [List.getElem?_map]
   cases hx:xs[i]? with
   | none =>
    rw [List.getElem?_eq_none (by rw [← h1]; exact List.getElem?_eq_none_iff.1 hx)]
    rfl
   | some a =>
    have hi:i < ys.length:=by rw [← h1]; exact(List.getElem?_eq_some_iff.1 hx).1
    rw [List.getElem?_eq_getElem hi]
    simp only [Option.map_some,Function.comp]
    rw [h2 i a _ hx (List.getElem?_eq_getElem hi) (hn a (List.mem_of_getElem? hx)) m]
  ·exact h.elim
 ·rename_i hx
  obtain⟨h1,h2⟩:=mt1_ok (N:=N) h
  refine⟨fun hn=>h1 ?_,h2⟩
  cases x with
  | agg cs=>exact absurd rfl (hx cs)
  | _=>exact hn
theorem fitsT_ok {N:Nat} {ps:List Nat}:∀ {pt:List (Option SV)} {t:List SV} {p:Prop},fitsT ps pt t p→pt.length=t.length∧(∀(i:Nat) (x y:SV),pt[i]?=some (some x)→t[i]?=some y→nmA N x→As N ps x y)∧p
 | [],[],p,h=>⟨rfl,by simp,h⟩
 | some x :: r,y :: s,p,h=>by
  obtain⟨h1,h2⟩:=mtA_ok (N:=N) (show mtA ps x y (fitsT ps r s p)from h)
  obtain⟨h3,h4,h5⟩:=fitsT_ok (N:=N) h2
  refine⟨by simp [h3],?_,h5⟩
  intro i a b ha hb
  cases i with
  | zero =>
   simp only [List.getElem?_cons_zero,Option.some.injEq]at ha hb
   subst ha hb
   exact h1
  | succ i=>exact h4 i a b (by simpa using ha) (by simpa using hb)
 | none :: r,y :: s,p,h=>by
  obtain⟨h3,h4,h5⟩:=fitsT_ok (N:=N) (show fitsT ps r s p from h)
  refine⟨by simp [h3],?_,h5⟩
  intro i a b ha hb
  cases i with
  | zero=>simp at ha
  | succ i=>exact h4 i a b (by simpa using ha) (by simpa using hb)
 | [],_ :: _,p,h=>h.elim
 | some _ :: _,[],p,h=>h.elim
 | none :: _,[],p,h=>h.elim
def OAs (N:Nat) (ps:List Nat) (o o':SObj):Prop:=match o,o' with
 | .cells c k,.cells c' k'=>k=k'∧c.length=c'.length∧∀(i:Nat) (x y:SV),c[i]?=some x→c'[i]?=some y→nm1 N x→As N ps x y
 | .gr n sz e k z,o'=>∃k',denO N (.gr n sz e k z)=.cells (gcells N n sz e) k∧denO N o'=.cells (gcells N n sz e) k'∧kdOk k k'=true
 | .lp st p R,o'=>o'=.lp st p R
 | _,_=>False
theorem denO_gr (N:Nat) {n sz:Nat} {e:El} {k:Kd} {z:Bool} (h:z=true→0 < n):denO N (.gr n sz e k z)=.cells (gcells N n sz e) k:=by
 simp only [denO]
 rw [if_neg (by rintro⟨h1,h2⟩; have:=h h1; omega)]
theorem lit_cells {N n sz:Nat} {c:List SV} {e:El} (hl:n*sz=c.length) (ho:litOk c sz n=true) (h:∀i,i < n→(litEl c sz n).at i=e.at i):denL N c=gcells N n sz e:=by
 have h1:lcut (denL N c) 0 (n*sz)=some (gcells N n sz e):=by
  refine gcells_rows (Nat.zero_le _) fun i hi=>?_
  have h3:=litEl_at ho hi
  rw [← h i hi]
  refine⟨?_,?_⟩
  ·obtain⟨h4,h5⟩:=lcut_spec h3
   rw [h5]
   simp
   omega
  ·rw [Nat.zero_add]
   exact lcut_denL _ h3
 rw [hl,← denL_len N c,lcut_full rfl]at h1
 exact Option.some.inj h1
theorem gcells_den {N n sz:Nat} {a b:El} (h:∀i,i < n→denL N (a.at i)=denL N (b.at i)):gcells N n sz a=gcells N n sz b:=by
 unfold gcells
 apply List.map_congr_left
 intro q hq
 have hq':q < n*sz:=by simpa using hq
 have e:=h (q / sz) (Nat.div_lt_of_lt_mul (by rw [Nat.mul_comm]; exact hq'))
 have key:∀l:List SV,den N ((l[q % sz]?).getD (.v (.bool false)))=(((denL N l)[q % sz]?).getD (.v (.bool false))):=fun l=>by
  rw [denL_eq,List.getElem?_map]
  cases l[q % sz]?<;>rfl
 rw [key,key,e]
theorem fitsM_ok {N:Nat} {ps:List Nat}:∀ {M:List SObj} {p:Prop},fitsM ps σ M p→(∀(i:Nat) (o:SObj),M[i]?=some o→denO N o=.dead∨∃j o',ps[M.length-1-i]?=some j∧σ.get j=some o'∧OAs N ps o o')∧p
 | [],p,h=>⟨by simp,h⟩
 | .dead :: r,p,h=>by
  obtain⟨h4,h5⟩:=fitsM_ok (N:=N) (show fitsM ps σ r p from h)
  refine⟨?_,h5⟩
  intro i a ha
  cases i with
  | zero =>
   simp only [List.getElem?_cons_zero,Option.some.injEq]at ha
   subst ha
   exact .inl rfl
  | succ i =>
   have:=h4 i a (by simpa using ha)
   rwa [show(SObj.dead :: r).length-1-(i+1)=r.length-1-i by simp; omega]
 | .cells c k :: r,p,h=>by
  unfold fitsM at h
  simp only at h
  split at h
  ·rename_i j hj
   split at h
   ·rename_i c' k' hc
    split at h
    ·rename_i hk
     have hk':=sameKd_eq hk
     subst hk'
     obtain⟨h1,h2,h3⟩:=mtC_ok (N:=N) h
     obtain⟨h4,h5⟩:=fitsM_ok (N:=N) h3
     refine⟨?_,h5⟩
     intro i a ha
     cases i with
     | zero =>
      simp only [List.getElem?_cons_zero,Option.some.injEq]at ha
      subst ha
      refine .inr ⟨j,_,?_,hc,rfl,h1,h2⟩
      rw [lget_eq]at hj
      simpa using hj
     | succ i =>
      have:=h4 i a (by simpa using ha)
      rwa [show(SObj.cells c k :: r).length-1-(i+1)=r.length-1-i by simp; omega]
    ·exact h.elim
   ·exact h.elim
  ·exact h.elim
 | .gr n sz e kd z :: r,p,h=>by
  unfold fitsM at h
  simp only at h
  split at h
  case h_2=>exact h.elim
  rename_i j hj
  have hj':ps[r.length]?=some j:=by rwa [lget_eq]at hj
  have fin:(denO N (.gr n sz e kd z)=.dead∨∃o',σ.get j=some o'∧OAs N ps (.gr n sz e kd z) o')→fitsM ps σ r p→(∀(i:Nat) (o:SObj),(SObj.gr n sz e kd z :: r)[i]?=some o→denO N o=.dead∨∃j o',ps[(SObj.gr n sz e kd z :: r).length-1-i]?=some j∧σ.get j=some o'∧OAs N ps o o')∧p:=by
   intro ho h
   obtain⟨h4,h5⟩:=fitsM_ok (N:=N) h
   refine⟨?_,h5⟩
   intro i a ha
   cases i with
   | zero =>
    simp only [List.getElem?_cons_zero,Option.some.injEq]at ha
    subst ha
    rcases ho with ho | ⟨o',h6,h7⟩
    ·exact .inl ho
    ·exact .inr ⟨j,o',by simpa using hj',h6,h7⟩
   | succ i =>
    have:=h4 i a (by simpa using ha)
    rwa [show(SObj.gr n sz e kd z :: r).length-1-(i+1)=r.length-1-i by simp; omega]
  have hdead:z=true→n=0→denO N (.gr n sz e kd z)=.dead:=by
   intro h1 h2
   simp only [denO]
   rw [if_pos ⟨h1,h2⟩]
  split at h
  ·rename_i n' sz' e' kd' z' hc
   split at h
   ·rename_i hb
    rw [Bool.and_eq_true]at hb
    have:=Nat.eq_of_beq_eq_true hb.1
    subst this
    have go:n'=n→(∀i,i < n→e'.at i=e.at i)→(z=true→0 < n)→(z'=true→0 < n)→∃o',σ.get j=some o'∧OAs N ps (.gr n sz e kd z) o':=by
     rintro rfl he hz hz'
     refine⟨_,hc,kd',denO_gr N hz,?_,hb.2⟩
     rw [denO_gr N hz',gcells_congr he]
    split at h
    ·obtain⟨⟨h1,h2,h3⟩,h4⟩:=h
     exact fin (.inr (go h1 h3 (fun _=>h2) fun _=>h2)) h4
    ·rename_i hzz
     obtain⟨⟨h1,h3⟩,h4⟩:=h
     by_cases h0:0 < n
     ·exact fin (.inr (go h1 h3 (fun _=>h0) fun _=>h0)) h4
     ·cases z with
      | true=>exact fin (.inl (hdead rfl (by omega))) h4
      | false =>
       cases z' with
       | true=>exact(hzz rfl rfl).elim
       | false=>exact fin (.inr (go h1 h3 (by simp) (by simp))) h4
   ·exact h.elim
  ·rename_i c kd' hc
   rw [fnat_eq]at h
   split at h
   ·rename_i hb
    simp only [Bool.and_eq_true]at hb
    obtain⟨hb1,hb2,hb3⟩:=hb
    have hl:=Nat.eq_of_beq_eq_true hb1
    have h:Ob (c.length / sz=n∧∀i,i < n→denL N ((litEl (symL c) sz (c.length / sz)).at i)=denL N (e.at i))∧fitsM ps σ r p:=by
     split at h
     ·obtain⟨⟨h1,h3⟩,h4⟩:=h
      exact⟨⟨h1,fun i hi=>h3 i hi N⟩,h4⟩
     ·obtain⟨⟨h1,h3⟩,h4⟩:=h
      exact⟨⟨h1,fun i hi=>by rw [h3 i hi]⟩,h4⟩
    obtain⟨⟨h1,h3⟩,h4⟩:=h
    rw [h1]at hl hb2 h3
    by_cases h0:z=true∧n=0
    ·exact fin (.inl (hdead h0.1 h0.2)) h4
    ·refine fin (.inr ⟨_,hc,kd',denO_gr N (fun hz=>?_),?_,hb3⟩) h4
     ·have:n≠0:=fun e=>h0 ⟨hz,e⟩
      omega
     ·simp only [denO]
      rw [← symL_den,lit_cells (by rw [symL_len]; exact hl) hb2 (fun _ _=>rfl),gcells_den h3]
   ·exact h.elim
  ·split at h
   ·obtain⟨⟨h1⟩,h2⟩:=h
    exact fin (.inl (hdead rfl h1)) h2
   ·exact h.elim
 | .lp st pd R :: r,p,h=>by
  unfold fitsM at h
  simp only at h
  split at h
  ·rename_i j hj
   split at h
   ·rename_i st' pd' R' hc
    split at h
    ·rename_i hb
     simp only [Bool.and_eq_true]at hb
     obtain⟨hb1,hb2,hb3⟩:=hb
     obtain⟨⟨h1⟩,h2⟩:=h
     obtain⟨h4,h5⟩:=fitsM_ok (N:=N) h2
     refine⟨?_,h5⟩
     intro i a ha
     cases i with
     | zero =>
      simp only [List.getElem?_cons_zero,Option.some.injEq]at ha
      subst ha
      refine .inr ⟨j,_,?_,hc,?_⟩
      ·rw [lget_eq]at hj
       simpa using hj
      ·show SObj.lp st' pd' R'=.lp st pd R
       have e1:st'=st:=by cases st<;>cases st'<;>first | rfl | simp [sameSt]at hb1
       have e2:pd'=pd:=by cases pd<;>cases pd'<;>first | rfl | simp [noneB]at hb2 hb3
       rw [h1,e1,e2]
     | succ i =>
      have:=h4 i a (by simpa using ha)
      rwa [show(SObj.lp st pd R :: r).length-1-(i+1)=r.length-1-i by simp; omega]
    ·exact h.elim
   ·exact h.elim
  ·exact h.elim
theorem visS_nm {x:SV} {p:Prop} (h:visS σ x p):nm1 σ.B.n x∧p:=by
 have key:∀ {y:RV} {n sz:Nat} {e:Nat→List SV},IsLst σ.B y n sz e→below σ.B.n y=true:=by
  rintro y n sz e (⟨rfl,_⟩ | ⟨b,o,c,rfl,hc,_⟩)
  ·rfl
  ·have:=cellsAt_lt hc
   simpa [below] using this
 unfold visS at h
 split at h
 ·split at h
  ·exact h.elim
  ·exact⟨trivial,h⟩
 ·exact⟨trivial,h⟩
 ·exact⟨trivial,h⟩
 ·split at h
  ·exact⟨trivial,h⟩
  ·exact h.elim
 ·split at h
  ·exact⟨trivial,h⟩
  ·exact h.elim
 ·split at h
  ·exact⟨trivial,h⟩
  ·exact h.elim
 ·split at h
  ·exact⟨trivial,h⟩
  ·exact h.elim
 ·split at h
  ·exact⟨trivial,h⟩
  ·exact h.elim
 ·split at h
  ·exact⟨trivial,h⟩
  ·exact h.elim
 ·split at h
  ·exact⟨trivial,h⟩
  ·exact h.elim
 ·split at h
  ·split at h
   ·exact⟨trivial,h⟩
   ·exact h.elim
  ·exact h.elim
 ·obtain⟨⟨h1⟩,h2⟩:=h
  exact⟨key h1,h2⟩
 ·obtain⟨⟨h1,hi⟩,h2⟩:=h
  refine⟨⟨key h1,?_⟩,h2⟩
  rcases h1 with ⟨rfl,h0⟩ | ⟨b,o,c,rfl,hc,_⟩
  ·omega
  ·exact cellsAt_lt hc
 ·exact h.elim
theorem visC_nm:∀ {l:List SV} {p:Prop},visC σ l p→(∀y∈l,nm1 σ.B.n y)∧p
 | [],p,h=>⟨by simp,h⟩
 | x :: r,p,h=>by
  unfold visC at h
  split at h
  ·obtain⟨h1,h2⟩:=visS_nm h
   obtain⟨h3,h4⟩:=visC_nm h2
   refine⟨?_,h4⟩
   intro y hy
   rcases List.mem_cons.1 hy with rfl | hy
   ·exact h1
   ·exact h3 y hy
  ·exact h.elim
theorem visA_ok (hw:σ.Wf) {x:SV} {p:Prop} (h:visA σ x p):nmA σ.B.n x∧below σ.den.n (den σ.B.n x)=true∧p:=by
 unfold visA at h
 split at h
 ·obtain⟨h1,h2⟩:=visC_nm h
  obtain⟨h3,_,_⟩:=visK_ok hw 0 (show visK σ (.agg _) p from h)
  exact⟨h1,h3,h2⟩
 ·rename_i hx
  obtain⟨h1,h2⟩:=visS_nm h
  have h':visK σ x p:=by
   cases x with
   | agg cs=>exact absurd rfl (hx cs)
   | tup cs=>exact h1.elim
   | _=>exact h
  obtain⟨h3,_,_⟩:=visK_ok hw 0 h'
  refine⟨?_,h3,h2⟩
  cases x with
  | agg cs=>exact absurd rfl (hx cs)
  | _=>exact h1
theorem visTs_ok (hw:σ.Wf):∀ {pt:List (Option SV)} {p:Prop},visTs σ pt p→(∀(i:Nat) (x:SV),pt[i]?=some (some x)→nmA σ.B.n x∧below σ.den.n (den σ.B.n x)=true)∧p
 | [],p,h=>⟨by simp,h⟩
 | some x :: r,p,h=>by
  obtain⟨h0,h1,h2⟩:=visA_ok hw (show visA σ x (visTs σ r p)from h)
  obtain⟨h3,h4⟩:=visTs_ok hw h2
  refine⟨?_,h4⟩
  intro i y hy
  cases i with
  | zero =>
   simp only [List.getElem?_cons_zero,Option.some.injEq]at hy
   subst hy
   exact⟨h0,h1⟩
  | succ i=>exact h3 i y (by simpa using hy)
 | none :: r,p,h=>by
  obtain⟨h3,h4⟩:=visTs_ok hw (show visTs σ r p from h)
  refine⟨?_,h4⟩
  intro i y hy
  cases i with
  | zero=>simp at hy
  | succ i=>exact h3 i y (by simpa using hy)
structure NmR (N:Nat) (y:SV):Prop where
 one:oneB (den N y)=true
 low:below N (den N y)=true
 any:∀M,den M y=den N y
def NmE (N n:Nat) (e:El):Prop:=∀i,i < n→∀y∈e.at i,NmR N y
theorem NmR.plain {N:Nat} {y:SV} (h:plain1 y):NmR N y:=by
 obtain⟨v,h1,h2⟩:=plain1_ok h
 refine⟨by rw [h1]; exact h2,?_,fun M=>by rw [h1,h1]⟩
 rw [h1]
 cases v<;>simp_all [below,oneV]
theorem lst_low {B:RW} {y:RV} {n sz:Nat} {e:Nat→List SV} (h:IsLst B y n sz e):below B.n y=true:=by
 rcases h with ⟨rfl,_⟩ | ⟨b,o,c,rfl,hc,_⟩
 ·rfl
 ·have:=cellsAt_lt hc
  simpa [below] using this
theorem NmR.lst {B:RW} {y:RV} {n sz:Nat} {e:Nat→List SV} (h:IsLst B y n sz e) (h1:oneB y=true):NmR B.n (.lst y n sz e):=
 ⟨h1,lst_low h,fun _=>rfl⟩
theorem PlainE.nm {N n:Nat} {e:El} (h:PlainE n e):NmE N n e:=fun i hi y hy=>.plain (h i hi y hy)
theorem NamE.nm {B:RW} {n:Nat} {f:Nat→List SV} (h:NamE B n f):NmE B.n n (.nf f):=by
 intro i hi y hy
 rcases h i hi y hy with h1 | ⟨x,m,sz,e,rfl,h1,h2⟩
 ·exact .plain h1
 ·exact .lst h1 h2
theorem gcells_nm {N n sz:Nat} {e:El} (h:NmE N n e):∀x∈gcells N n sz e,oneB x=true∧below N x=true:=by
 intro x hx
 unfold gcells at hx
 obtain⟨q,hq,rfl⟩:=List.mem_map.1 hx
 have hq':q < n*sz:=by simpa using hq
 cases hc:(e.at (q / sz))[q % sz]? with
 | none=>exact⟨rfl,rfl⟩
 | some y =>
  have h1:=h (q / sz) (Nat.div_lt_of_lt_mul (by rw [Nat.mul_comm]; exact hq')) y (List.mem_of_getElem? hc)
  exact⟨h1.one,h1.low⟩
theorem visM_ok (hw:σ.Wf) {al:Option Nat} (hal:∀fx,al=some fx→fx≤σ.n):∀ {M:List SObj} {p:Prop},visM al σ M p→(∀o∈M,(denO σ.B.n o).lt σ.den.n∧(∀c k,o=.cells c k→∀y∈c,nm1 σ.B.n y)∧(∀n sz e k z,o=.gr n sz e k z→NmE σ.B.n n e∧(al=none→PlainE n e))∧∀st p R,o=.lp st p R→∃fx,al=some fx∧R.b≤σ.B.n+fx)∧p
 | [],p,h=>⟨by simp,h⟩
 | .dead :: r,p,h=>by
  obtain⟨h3,h4⟩:=visM_ok hw hal (show visM al σ r p from h)
  refine⟨?_,h4⟩
  intro o ho
  rcases List.mem_cons.1 ho with rfl | ho
  ·exact⟨trivial,by simp,by simp,by simp⟩
  ·exact h3 o ho
 | .cells c k :: r,p,h=>by
  obtain⟨h1,_,h2⟩:=visC_ok hw 0 (show visC σ c (visM al σ r p)from h)
  obtain⟨h5,_⟩:=visC_nm (show visC σ c (visM al σ r p)from h)
  obtain⟨h3,h4⟩:=visM_ok hw hal h2
  refine⟨?_,h4⟩
  intro o ho
  rcases List.mem_cons.1 ho with rfl | ho
  ·refine⟨h1,?_,by simp,by simp⟩
   intro c' k' he
   simp only [SObj.cells.injEq]at he
   obtain⟨rfl,rfl⟩:=he
   exact h5
  ·exact h3 o ho
 | .gr n sz e k z :: r,p,h=>by
  have key:(NmE σ.B.n n e∧(al=none→PlainE n e))∧visM al σ r p:=by
   unfold visM at h
   split at h
   ·split at h
    ·rename_i f _
     obtain⟨⟨h1⟩,h2⟩:=h
     exact⟨⟨h1.nm,fun h=>by simp at h⟩,h2⟩
    ·exact h.elim
   ·obtain⟨⟨h1⟩,h2⟩:=h
    exact⟨⟨h1.nm,fun _=>h1⟩,h2⟩
  obtain⟨h1,h2⟩:=key
  obtain⟨h3,h4⟩:=visM_ok hw hal h2
  refine⟨?_,h4⟩
  intro o ho
  rcases List.mem_cons.1 ho with rfl | ho
  ·refine⟨?_,by simp,?_,by simp⟩
   ·by_cases hd:z=true∧n=0
    ·rw [show denO σ.B.n (.gr n sz e k z)=.dead by simp only [denO]; rw [if_pos hd]]
     trivial
    ·rw [show denO σ.B.n (.gr n sz e k z)=.cells (gcells σ.B.n n sz e) k by simp only [denO]; rw [if_neg hd]]
     show belowC σ.den.n _=true
     rw [belowC_iff]
     intro x hx
     obtain⟨h5,h6⟩:=gcells_nm h1.1 x hx
     exact⟨h5,below_mono (Nat.le_add_right _ _) _ h6⟩
   ·intro n' sz' e' k' z' he
    simp only [SObj.gr.injEq]at he
    obtain⟨rfl,rfl,rfl,rfl,rfl⟩:=he
    exact h1
  ·exact h3 o ho
 | .lp st pd R :: r,p,h=>by
  cases al with
  | none=>exact(show False from h).elim
  | some fx =>
   obtain⟨⟨h1⟩,h2⟩:=(show Ob (R.b≤σ.B.n+fx)∧visM (some fx) σ r p from h)
   obtain⟨h3,h4⟩:=visM_ok hw hal h2
   have hfx:=hal fx rfl
   refine⟨?_,h4⟩
   intro o ho
   rcases List.mem_cons.1 ho with rfl | ho
   ·refine⟨?_,by simp,by simp,?_⟩
    ·have hn:σ.den.n=σ.B.n+σ.n:=rfl
     exact⟨fun i=>below_mono (by omega) _ (R.hT i),by have:=R.hd; omega⟩
    ·intro st' p' R' he
     simp only [SObj.lp.injEq]at he
     obtain⟨rfl,rfl,rfl⟩:=he
     exact⟨fx,rfl,h1⟩
   ·exact h3 o ho
end
end Go.Rv
namespace Go.Rv
open Go
variable [Env]
section
variable {P:Program}
omit [Env] in
theorem set_some {W:RW} {b:Nat} {o:RObj} (hw:W.wf) (h:b < W.n):W.set b o=some ⟨W.n,W.l.set (W.n-1-b) o⟩:=by
 have hl:W.l.length=W.n:=hw
 rw [RW.set_eq,blt_eq]
 simp only [h,decide_true,if_true]
 rw [lset_some o (show W.n-1-b < W.l.length by omega)]
theorem callY_to {l:Nat} {args:List RV} {W:RW} {Q:RV→RW→Prop} {st0:LoopState} {pend0:Option Code} {fn:FuncId} {t:RT} {params:Array Tmp} {assign body:Code} {d:Nat} (hg:W.get l=some (.loop st0 pend0 fn t params assign body d)) {t0:RT}
  (hsp:setParams params.toList args t=some t0)
  (ha:CodeTo W.n P fn (some l) assign ⟨t0,W,[]⟩ fun ex s1=>ex=.nrm∧∃pend f1 t1 ps1 as1 bd1 d1 W2,s1.W.get l=some (.loop .ready pend f1 t1 ps1 as1 bd1 d1)∧s1.W.set l (.loop .busy pend f1 t1 ps1 as1 bd1 d1)=some W2 ∧
   CodeTo W.n P fn (some l) body ⟨s1.t,W2,[]⟩ fun ex s3=>∃st p b W4 st3 pd3 f3 t3 ps3 as3 bd3 d3,s3.W.get l=some (.loop st3 pd3 f3 t3 ps3 as3 bd3 d3)∧s3.W.set l (.loop st p f3 t3 ps3 as3 bd3 d3)=some W4 ∧
    ((ex=.nrm∧st=.ready∧p=none∧b=true)∨(∃id,ex=.exit id∧st=.done∧p=some (.exit id)∧b=false)∨(ex=.ret∧st=.done∧p=some .ret∧b=false)∨(∃g,ex=.goto g∧st=.done∧p=some (.goto g)∧b=false))∧Q (.v (.bool b)) W4)
  (m:Nat→Loc) (w:World) (fr:Frame) (cs:List Frame) (hr:Rel m W w) (hba:belowL W.n args=true) :
  ∃x W' m' w',Q x W'∧CallRun P fr cs (callSem m (.yld l) args) w (rv m' x) w'∧Rel m' W' w'∧Post m W w m' W' w'∧below W'.n x=true:=by
 obtain⟨arr,ht,hh,hlt,hd⟩:=loopAt hr hg
 obtain⟨hlen,ht0,hlt0⟩:=setParams_ok params.toList args t t0 arr hsp ht hlt hba
 have hrun:(callSem m (.yld l) args).run P w=.ok (.round (m l).blk fn ((params.toList.zip (args.map (rv m))).foldl (fun(tmps:Array Value) (x:Tmp×Value)=>tmps.setIfInBounds x.1 x.2) arr) assign body) w:=by
  have hsz:((args.map (rv m)).toArray).size=params.size:=by simp [← hlen]
  have hz:(params.zip (args.map (rv m)).toArray).foldl (fun(tmps:Array Value) (x:Tmp×Value)=>tmps.setIfInBounds x.1 x.2) arr=(params.toList.zip (args.map (rv m))).foldl (fun(tmps:Array Value) (x:Tmp×Value)=>tmps.setIfInBounds x.1 x.2) arr:=by
   rw [← Array.foldl_toList,Array.toList_zip]
  simp only [callSem,rv,Deferred.ofValue,invoke,Sem.run_bind,Sem.run_pure,Result.andThen_ok,Instr.yield,Array.empty_append,run_getLoop' hh,hsz,ne_eq,not_true_eq_false,if_false]
  rw [← hz]
 have hlW:l < W.n:=get_lt hg
 obtain⟨ex1,s1,m1,w1,fr1,⟨rfl,pend1,f1,t1',ps1,as1,bd1,d1,W2,hg1,hs2,hbody⟩,st1,hr1,hlt1,hfr1,hp1,hk1,hleft1⟩:=ha w.heap.size m w (Frame.round (m l).blk fn ((params.toList.zip (args.map (rv m))).foldl (fun(tmps:Array Value) (x:Tmp×Value)=>tmps.setIfInBounds x.1 x.2) arr) assign body .normal) (fr :: cs) [.beginRound,.code body] (Nat.le_refl _) (fun l' hl'=>by cases hl'; exact hlW) hr hlt0
  ⟨rfl,rfl,rfl,ht0,fun l' hl'=>by cases hl'; exact hlW,Nat.le_refl _,fun e he=>by simp [Frame.round]at he,List.nodup_nil⟩ rfl
 obtain⟨arr1,ht1,hh1,_,_⟩:=loopAt hr1 hg1
 obtain⟨hr2,hp2⟩:=hr1.setLoop hg1 ht1 hh1 hs2
 have hn2:W2.n=s1.W.n:=(set_spec hs2).1
 have hround1:fr1.roundOf=some (m1 l).blk:=hfr1.rnd
 have stb:Steps P (lone fr1 (fr :: cs) w1) (lone { fr1 with todo:=[.code body] } (fr :: cs) { w1 with heap:=w1.heap.setIfInBounds (m1 l).blk (.loop ⟨.busy,pend1,f1,arr1,ps1,as1,bd1,(m1 d1).blk⟩) }):=by
  apply step_go
  rw [stepG_run hfr1.mode]
  have htd:fr1.todo=[.beginRound,.code body]:=hleft1
  have hbr:(Instr.beginRound (m1 l).blk).run P w1=.ok () { w1 with heap:=w1.heap.setIfInBounds (m1 l).blk (.loop ⟨.busy,pend1,f1,arr1,ps1,as1,bd1,(m1 d1).blk⟩) }:=by
   simp [Instr.beginRound,run_getLoop' hh1,run_setLoop hh1]
  simp [stepG.exec,htd,stepG.apply,hround1,hbr,Frame.finish]
 have hmono:=hp1.mono
 have hfr2:FrX w.heap.size m1 ⟨s1.t,W2,[]⟩ { fr1 with todo:=[.code body] } fn (some l) { w1 with heap:=w1.heap.setIfInBounds (m1 l).blk (.loop ⟨.busy,pend1,f1,arr1,ps1,as1,bd1,(m1 d1).blk⟩) }:=
  (hfr1.next (t':=s1.t) (tm:=fr1.tmps) rfl (hp2.at hmono) (fun l' hl'=>by cases hl'; exact hlW) hfr1.tr [] [.code body])
 obtain⟨ex3,s3,m3,w3,fr3,⟨st,p,b,W4,st3',pd3,f3,t3,ps3,as3,bd3,d3,hg3,hs4,hex,hQ⟩,st3,hr3,hlt3,hfr3,hp3,hk3,hleft3⟩:=hbody w.heap.size m1 _ { fr1 with todo:=[.code body] } (fr :: cs) [] (by rw [hn2]; exact hmono) (fun l' hl'=>by cases hl'; exact hlW) hr2 (fun i=>by
  have:=hlt1 i
  simp only [hn2]
  exact this) hfr2 rfl
 obtain⟨arr4,ht4,hh4,_,_⟩:=loopAt hr3 hg3
 obtain⟨hr5,hp5⟩:=hr3.setLoop hg3 ht4 hh4 hs4
 have hround3:fr3.roundOf=some (m3 l).blk:=hfr3.rnd
 have hkn:fr3.kind=.normal:=by rw [hk3]; exact hk1
 have st5:=leave_round (P:=P) (c:=fr) (cs:=cs) hfr3.mode hround3 hkn hh4 hleft3 hex
 exact⟨_,W4,m3,_,hQ,.inr ⟨_,_,_,_,_,hrun,st1.trans (stb.trans (st3.trans st5))⟩,hr5,(hp1.trans ((hp2.at hmono).trans (hp3.trans (hp5.at hp3.mono)))).all,rfl⟩
theorem callTo_run (hN:NoOwn P) {gf:FuncId} {caps args:List RV} {W:RW} {Q:RV→RW→Prop} (hbody:∃fn,P.funcs[gf]?=some fn∧fn.body.isSome=true) (h:CallTo P gf (args++caps) W Q) {m:Nat→Loc} {w:World} (hr:Rel m W w)
  (hb:belowL W.n (args++caps)=true) (fr:Frame) (cs:List Frame) :
  ∃x W' m' w',Q x W'∧CallRun P fr cs (callSem m (.fn (.func gf) [] caps) args) w (rv m' x) w'∧Rel m' W' w'∧Post m W w m' W' w'∧below W'.n x=true:=by
 obtain⟨fn,hfn,hbd⟩:=hbody
 obtain⟨x,W',m',w',fr2,hQ,st,hl,_,hr',hp,hx⟩:=h m w (fr :: cs) hr hb
 refine⟨x,W',m',w',hQ,.inl ⟨gf,((args++caps).map (rv m)).toArray,?_,st.trans (.one (step_leave_returned hl))⟩,hr',hp,hx⟩
 rw [← run_callFunc hN hfn hbd]
 simp only [callSem,rv,Deferred.ofValue,invoke,Sem.run_bind,Sem.run_pure,Result.andThen_ok]
 congr 2
 apply Array.ext'
 simp only [List.map_append,rvL_eq,Array.toList_append,List.map_nil,List.nil_append]
theorem rangeTo (hN:NoOwn P) {n0:Nat} {f:FuncId} {g:Operand} {params:Array Tmp} {assign body:Code} {s:St} {gf:FuncId} {caps:List RV} {Q:Ex→St→Prop} (hog:okO g=true) (hop:opd g s.t=.fn (.func gf) [] caps)
  (hbody:∃fn,P.funcs[gf]?=some fn∧fn.body.isSome=true)
  (hcall:tlt s.W.n s.t→CallTo P gf ([.yld (s.W.n+1)]++caps) ((s.W.push .dead).push (.loop .ready none f s.t params assign body s.W.n)) fun _ W3=>∃st p f' t' ps' as' bd' d' W4,W3.get (s.W.n+1)=some (.loop st p f' t' ps' as' bd' d')∧st≠.busy∧W3.set (s.W.n+1) .dead=some W4 ∧
   ((p=none∧Q .nrm ⟨s.t,W4,[]⟩)∨(∃id,p=some (.exit id)∧Q (.exit id) ⟨s.t,W4,[]⟩)∨(p=some .ret∧Q .ret ⟨s.t,W4,[]⟩)∨∃g,p=some (.goto g)∧Q (.goto g) ⟨s.t,W4,[]⟩)) :
  CodeTo n0 P f none (.rangeFunc g params assign body) s Q:=by
 intro h0 m w fr cs k hn hrd hr hl hfr htd
 obtain⟨og1,og2⟩:=opd_ok (⟨hfr.tr,hl,hr⟩:Cx m s.t s.W fr.tmps w) hog
 obtain⟨hr1,hp1⟩:=hr.push (o:=.dead) (robj:=.deferred (some [])) (l:=⟨w.heap.size,0,0⟩) rfl trivial trivial
 obtain⟨m1,em1⟩:∃m1,m1=upd m s.W.n ⟨w.heap.size,0,0⟩:=⟨_,rfl⟩
 obtain⟨w1,ew1⟩:∃w1:World,w1={ w with heap:=w.heap.push (.deferred (some [])) }:=⟨_,rfl⟩
 rw [← em1,← ew1]at hr1 hp1
 have hsz1:w1.heap.size=w.heap.size+1:=by rw [ew1]; simp
 have hd1:(m1 s.W.n).blk=w.heap.size:=by rw [em1]; simp [upd]
 have hl1:tlt (s.W.push .dead).n s.t:=fun i=>below_mono hp1.mono _ (hl i)
 have ht1:TR m1 s.t fr.tmps:=hfr.tr.agree hl hp1.ag
 have hrn:fr.roundOf=none:=hfr.rnd
 have hrun1:(Instr.enterLoop fr.fn fr.tmps params assign body fr.roundOf).run P w=.ok (w1.heap.size,[{ target:=.collected w.heap.size,args:=#[] }]) { w1 with heap:=w1.heap.push (.loop ⟨.ready,none,f,fr.tmps,params,assign,body,(m1 s.W.n).blk⟩) }:=by
  rw [hd1,ew1]
  simp only [hrn,Instr.enterLoop]
  simp [hfr.fn]
  rfl
 obtain⟨hr2,hp2⟩:=hr1.push (o:=.loop .ready none f s.t params assign body s.W.n) (robj:=.loop ⟨.ready,none,f,fr.tmps,params,assign,body,(m1 s.W.n).blk⟩) (l:=⟨w1.heap.size,0,0⟩) rfl (by
  refine⟨fr.tmps,ht1.agree hl1 (agree_upd _ _ _),?_⟩
  have:upd m1 (s.W.push .dead).n ⟨w1.heap.size,0,0⟩ s.W.n=m1 s.W.n:=by simp [upd,RW.push]
  rw [this]
  simp) ⟨fun i=>below_mono (Nat.le_succ _) _ (hl1 i),by show s.W.n < s.W.n+1+1; omega⟩
 obtain⟨m2,em2⟩:∃m2,m2=upd m1 (s.W.push .dead).n ⟨w1.heap.size,0,0⟩:=⟨_,rfl⟩
 obtain⟨w2,ew2⟩:∃w2:World,w2={ w1 with heap:=w1.heap.push (.loop ⟨.ready,none,f,fr.tmps,params,assign,body,(m1 s.W.n).blk⟩) }:=⟨_,rfl⟩
 rw [← em2,← ew2]at hr2 hp2
 have hN1:(s.W.push .dead).n=s.W.n+1:=rfl
 have hml:m2 (s.W.n+1)=⟨w1.heap.size,0,0⟩:=by rw [em2]; simp [upd,RW.push]
 have hcaps:belowL s.W.n caps=true:=by
  rw [hop]at og2
  have:belowL s.W.n []=true∧belowL s.W.n caps=true:=by simpa [below] using og2
  exact this.2
 obtain⟨x,W3,m3,w3,⟨st,p,f',t',ps',as',bd',d',W4,hg3,hbusy,hset,hQ⟩,hcr,hr3,hp3,hx3⟩:=callTo_run hN hbody (hcall hl) hr2 (by
  rw [belowL_iff]
  intro y hy
  rcases List.mem_append.1 hy with hy | hy
  ·rw [List.mem_singleton.1 hy]
   simp [below,blt_eq,RW.push]
  ·exact below_mono (by simp [RW.push]; omega) _ ((belowL_iff _ _).1 hcaps y hy)) { fr with todo:=.inRangeFunc w1.heap.size :: k,defers:={ target:=.collected w.heap.size,args:=#[] } :: fr.defers } cs
 have hag2:∀b,b < s.W.n→m2 b=m b:=by
  intro b hb
  rw [em2,em1]
  have e1:b≠s.W.n+1:=by omega
  have e2:b≠s.W.n:=by omega
  simp [upd,RW.push,e1,e2]
 have hgv:rv m2 (.fn (.func gf) [] caps)=evV fr.tmps g:=by
  rw [← hop,rv_agree (n:=s.W.n) (m:=m) hag2 _ og2,og1]
 have hsem:callSem m2 (.fn (.func gf) [] caps) [.yld (s.W.n+1)]=(do
   let d ← resolve (evV fr.tmps) { callee:=.value g,args:=#[.const (.func (.yield w1.heap.size) #[] #[])],argTypes:=#[] } 0
   invoke d.target d.args):=by
  unfold callSem
  rw [hgv]
  have:(List.map (rv m2) [RV.yld (s.W.n+1)]).toArray=#[Value.func (.yield w1.heap.size) #[] #[]]:=by simp [rv,hml]
  rw [this]
  have hmap:(#[Operand.const (.func (.yield w1.heap.size) #[] #[])]).map (evV fr.tmps)=#[Value.func (.yield w1.heap.size) #[] #[]]:=by simp [evV]
  simp only [resolve,hmap]
 have st1:Steps P (lone fr cs w) (lone ({ fr with todo:=.inRangeFunc w1.heap.size :: k,defers:={ target:=.collected w.heap.size,args:=#[] } :: fr.defers }.finish (rv m3 x)) cs w3):=by
  have hexec:∀(nx:Next) (fr3:Frame),(callSem m2 (.fn (.func gf) [] caps) [.yld (s.W.n+1)]).run P w2=.ok nx w2 →
    ((∃g' as,nx=.enter g' as∧fr3=Frame.enter P g' as .normal)∨(∃l f' tm a b,nx=.round l f' tm a b∧fr3=Frame.round l f' tm a b .normal)) →
    Steps P (lone fr cs w) (lone fr3 ({ fr with todo:=.inRangeFunc w1.heap.size :: k,defers:={ target:=.collected w.heap.size,args:=#[] } :: fr.defers } :: cs) w2):=by
   intro nx fr3 hrunc hcase
   rw [hsem]at hrunc
   apply step_go
   rw [stepG_run hfr.mode]
   rw [← ew2]at hrun1
   rcases hcase with ⟨g',as,rfl,rfl⟩ | ⟨l,f',tm,a,b,rfl,rfl⟩
   ·simp [stepG.exec,htd,hrun1,stepG.apply,eval_evV]
    simp at hrunc
    rw [hrunc]
    rfl
   ·simp [stepG.exec,htd,hrun1,stepG.apply,eval_evV]
    simp at hrunc
    rw [hrunc]
    rfl
  rcases hcr with ⟨g',as,hrunc,st⟩ | ⟨l,f',tm,a,b,hrunc,st⟩
  ·exact(hexec _ _ hrunc (.inl ⟨g',as,rfl,rfl⟩)).trans st
  ·exact(hexec _ _ hrunc (.inr ⟨l,f',tm,a,b,rfl,rfl⟩)).trans st
 have hm3:m3 (s.W.n+1)=⟨w1.heap.size,0,0⟩:=by
  rw [hp3.ag (s.W.n+1) (by simp [RW.push]),hml]
 have hfin:({ fr with todo:=.inRangeFunc w1.heap.size :: k,defers:={ target:=.collected w.heap.size,args:=#[] } :: fr.defers }:Frame).finish (rv m3 x)={ fr with todo:=.endRangeFunc w1.heap.size :: k,defers:={ target:=.collected w.heap.size,args:=#[] } :: fr.defers }:=rfl
 rw [hfin]at st1
 obtain⟨arr2,ht2,hh2,_,_⟩:=loopAt hr3 hg3
 have hset2:∃W3',W3.set (s.W.n+1) (.loop .exhausted p f' t' ps' as' bd' d')=some W3'∧W3'.set (s.W.n+1) .dead=some W4:=by
  have hw3:=hr3.wf
  have hlt3:=get_lt hg3
  have h1:=set_some (o:=.loop .exhausted p f' t' ps' as' bd' d') hw3 hlt3
  refine⟨_,h1,?_⟩
  have hw4:=(set_spec h1).2.2.1 hw3
  rw [set_some hw3 hlt3]at hset
  rw [set_some hw4 (by exact hlt3),← hset]
  simp only [List.set_set]
 obtain⟨W3',hset1,hset2⟩:=hset2
 obtain⟨hr4,hp4⟩:=hr3.setLoop hg3 ht2 hh2 hset1
 rw [hm3]at hh2 hr4 hp4
 obtain⟨w4,ew4⟩:∃w4:World,w4={ w3 with heap:=w3.heap.setIfInBounds w1.heap.size (.loop ⟨.exhausted,p,f',arr2,ps',as',bd',(m3 d').blk⟩) }:=⟨_,rfl⟩
 rw [← ew4]at hr4 hp4
 have hr5:=hr4.drop hset2
 have hp5:=hr4.drop_post hset2 hr4.wf
 have hendl:(Instr.endLoop w1.heap.size).run P w3=.ok p w4:=by
  rw [ew4]
  simp [Instr.endLoop,run_getLoop' hh2,run_setLoop hh2]
  exact fun e=>absurd e hbusy
 have st2:Steps P (lone { fr with todo:=.endRangeFunc w1.heap.size :: k,defers:={ target:=.collected w.heap.size,args:=#[] } :: fr.defers } cs w3)
   (lone { fr with todo:=(p.map Item.code).toList++k,defers:={ target:=.collected w.heap.size,args:=#[] } :: fr.defers } cs w4):=by
  apply step_go
  have hmode:=hfr.mode
  simp [stepG,stepG.exec,hmode,hendl]
 have hpost:Post m s.W w m3 W4 w4:=hp1.trans (hp2.trans (hp3.trans (hp4.trans hp5)))
 have hl5:tlt W4.n s.t:=fun i=>below_mono hpost.mono _ (hl i)
 have hagm:∀b,b < s.W.n→m3 b=m b:=fun b hb=>hpost.ag b hb
 have htr5:TR m3 s.t fr.tmps:=hfr.tr.agree hl hagm
 have hmark:w4.heap[w.heap.size]?=some (.deferred (some []))∧∀b o,W4.get b=some o→o.own=true→(m3 b).blk≠w.heap.size:=by
  have q1:w2.heap[w.heap.size]?=some (.deferred (some [])):=by
   rw [ew2,ew1]
   simp [Array.getElem?_push]
  have q2:∀b o,((s.W.push .dead).push (.loop .ready none f s.t params assign body s.W.n)).get b=some o→o.own=true→(m2 b).blk≠w.heap.size:=by
   intro b o hb ho
   rw [get_push]at hb
   by_cases e1:b=(s.W.push .dead).n
   ·rw [e1,show(s.W.push .dead).n=s.W.n+1 from rfl,hml]
    show w1.heap.size≠_
    omega
   ·rw [if_neg e1,get_push]at hb
    by_cases e2:b=s.W.n
    ·rw [if_pos e2]at hb
     simp only [Option.some.injEq]at hb
     subst hb
     simp [RObj.own]at ho
    ·rw [if_neg e2]at hb
     have:=(hr.obj b o hb).lt_size (own_live ho)
     rw [hag2 b (get_lt hb)]
     omega
  have hs2:w.heap.size < w2.heap.size:=by rw [ew2,ew1]; simp; omega
  have hp35:Post m2 ((s.W.push .dead).push (.loop .ready none f s.t params assign body s.W.n)) w2 m3 W4 w4:=hp3.trans (hp4.trans hp5)
  refine⟨by rw [hp35.keep _ hs2 q2]; exact q1,fun b o hb ho hbr=>?_⟩
  rcases hp35.own b o hb ho with h5 | ⟨a,y,h5,h6,h7⟩
  ·omega
  ·exact q2 a y h5 h6 (h7.trans hbr)
 have hfr5:FrX h0 m3 ⟨s.t,W4,[]⟩ { fr with todo:=(p.map Item.code).toList++k,defers:={ target:=.collected w.heap.size,args:=#[] } :: fr.defers } f none w4:=by
  have hmk:=marks_next (hpost.at hn) hfr.mks
  refine⟨hfr.mode,hfr.fn,hrn,htr5,by simp,Nat.le_trans hfr.le hpost.size,?_,?_⟩
  ·intro e he
   rcases List.mem_cons.1 he with rfl | he
   ·exact⟨_,rfl,hfr.le,hmark.1,hmark.2⟩
   ·exact hmk e he
  ·refine List.nodup_cons.2 ⟨fun hin=>?_,hfr.nd⟩
   obtain⟨r,h1,_,h3,_⟩:=hfr.mks _ hin
   simp only [Deferred.mk.injEq,Target.collected.injEq,and_true]at h1
   have:=(Array.getElem?_eq_some_iff.1 h3).1
   omega
 rcases hQ with ⟨rfl,hQ⟩ | ⟨id,rfl,hQ⟩ | ⟨rfl,hQ⟩ | ⟨g,rfl,hQ⟩
 ·exact⟨.nrm,_,m3,w4,_,hQ,st1.trans st2,hr5,hl5,hfr5,hpost.at hn,rfl,rfl⟩
 ·exact⟨.exit id,_,m3,w4,_,hQ,st1.trans st2,hr5,hl5,hfr5,hpost.at hn,rfl,k,rfl,rfl⟩
 ·exact⟨.ret,_,m3,w4,_,hQ,st1.trans st2,hr5,hl5,hfr5,hpost.at hn,rfl,k,rfl⟩
 ·exact⟨.goto g,_,m3,w4,_,hQ,st1.trans st2,hr5,hl5,hfr5,hpost.at hn,rfl,k,rfl,rfl⟩
end
end Go.Rv
namespace Go.Rv
open Go
variable [Env]
section
variable {P:Program}
omit [Env] in
theorem oneB_rv (m:Nat→Loc) {x:RV} (h:oneB x=true):oneV (rv m x)=true:=by
 cases x with
 | v y=>exact h
 | agg cs=>simp [oneB]at h
 | tup cs=>simp [oneB]at h
 | _=>rfl
omit [Env] in
theorem flat_rv (m:Nat→Loc) {n:Nat} {x:RV} (h:below n x=true):flatV (rv m x)=true:=by
 cases x with
 | agg cs =>
  simp only [rv,flatV,rvL_eq]
  rw [List.all_eq_true]
  intro v hv
  obtain⟨y,hy,rfl⟩:=List.mem_map.1 (by simpa using hv)
  exact oneB_rv m ((belowC_iff n cs).1 h y hy).1
 | v y=>cases y<;>simp_all [rv,flatV,below]
 | _=>rfl
noncomputable def fillT (m:Nat→Loc) (T:RT):List (Option SV)→Nat→List SV
 | [],_=>[]
 | some x :: r,i=>x :: fillT m T r (i+1)
 | none :: r,i=>.raw (rv m (T.get i)) :: fillT m T r (i+1)
omit [Env] in
theorem fillT_len (m:Nat→Loc) (T:RT):∀(pt:List (Option SV)) (i:Nat),(fillT m T pt i).length=pt.length
 | [],_=>rfl
 | some _ :: r,i=>by simp [fillT,fillT_len m T r (i+1)]
 | none :: r,i=>by simp [fillT,fillT_len m T r (i+1)]
omit [Env] in
theorem fillT_get (m:Nat→Loc) (T:RT):∀(pt:List (Option SV)) (i j:Nat),(fillT m T pt i)[j]?=(pt[j]?).map fun o=>match o with
  | some x=>x
  | none=>.raw (rv m (T.get (i+j)))
 | [],i,j=>by simp [fillT]
 | some x :: r,i,0=>by simp [fillT]
 | none :: r,i,0=>by simp [fillT]
 | some x :: r,i,j+1=>by
  simp only [fillT,List.getElem?_cons_succ]
  rw [fillT_get m T r (i+1) j,show i+1+j=i+(j+1)by omega]
 | none :: r,i,j+1=>by
  simp only [fillT,List.getElem?_cons_succ]
  rw [fillT_get m T r (i+1) j,show i+1+j=i+(j+1)by omega]
omit [Env] in
theorem wFill_ok (m:Nat→Loc) (T:RT):∀(pt:List (Option SV)) (i:Nat) {K:List SV→Prop},wFill pt K→K (fillT m T pt i)
 | [],_,_,h=>h
 | some x :: r,i,K,h=>wFill_ok m T r (i+1) (K:=fun t=>K (x :: t)) h
 | none :: r,i,K,h=>wFill_ok m T r (i+1) (K:=fun t=>K (.raw (rv m (T.get i)) :: t)) (h _)
omit [Env] in
theorem TT_of (N:Nat) (t:List SV):TT N t (RT.of (denL N t) t.length):=by
 have hlen:∀(n:Nat) (l:List RV),(rowsOf n l).length=n:=by
  intro n
  induction n with
  | zero=>intro l; rfl
  | succ n ih=>intro l; simp [rowsOf,ih]
 refine⟨rfl,by show(t.length+7) / 8≤(rowsOf _ _).length; rw [hlen]; exact Nat.le_refl _,fun i=>?_⟩
 rw [of_get _ _ _ (by rw [denL_len]; exact Nat.le_refl _),denL_eq,List.getElem?_map]
 cases t[i]?<;>rfl
def Is (B:RW) (t:List SV) (σ:SMem) (s:St):Prop:=s.W=σ.den∧s.ds=[]∧σ.B=B∧σ.Wf∧TT B.n t s.t
omit [Env] in
theorem kdOk_spec {a b:Kd} (h:kdOk a b=true):(b=.ro→a=.ro)∧b≠.rx∧(a=.ex∨a=.rx→b=.ex):=by
 cases a<;>cases b<;>simp [kdOk]at h ⊢
omit [Env] in
theorem soft_own {N:Nat} {o:SObj} (h:softO o=true):(denO N o).own=false:=by
 unfold softO at h
 split at h
 ·rfl
 ·rfl
 ·simp only [denO]
  split<;>rfl
 ·simp at h
omit [Env] in
theorem apartM_ok {ps:List Nat} {j:Nat} {s:Bool}:∀ {M:List SObj},apartM ps j s M=true→∀(i:Nat) (o:SObj),M[i]?=some o→∃k,ps[M.length-1-i]?=some k∧((s=true∧softO o=true)∨j≠k)
 | [],_,i,o,ho=>by simp at ho
 | x :: r,h,i,o,ho=>by
  unfold apartM at h
  rw [Bool.and_eq_true]at h
  cases i with
  | zero =>
   simp only [List.getElem?_cons_zero,Option.some.injEq]at ho
   subst ho
   have h1:=h.1
   split at h1
   ·rename_i k hk
    rw [lget_eq]at hk
    refine⟨k,by simpa using hk,?_⟩
    rw [Bool.or_eq_true,Bool.and_eq_true]at h1
    rcases h1 with h1 | h1
    ·exact .inl h1
    ·refine .inr fun e=>?_
     subst e
     simp at h1
   ·simp at h1
  | succ i =>
   obtain⟨k,h1,h2⟩:=apartM_ok h.2 i o (by simpa using ho)
   refine⟨k,?_,h2⟩
   rwa [show(x :: r).length-1-(i+1)=r.length-1-i by simp; omega]
omit [Env] in
theorem nodupM_ok {ps:List Nat}:∀ {M:List SObj},nodupM ps M=true→∀(i k:Nat) (o o2:SObj),i < k→M[i]?=some o→M[k]?=some o2→∃a b,ps[M.length-1-i]?=some a∧ps[M.length-1-k]?=some b∧((softO o=true∧softO o2=true)∨a≠b)
 | [],_,i,k,o,o2,_,ho,_=>by simp at ho
 | x :: r,h,i,k,o,o2,hik,ho,ho2=>by
  unfold nodupM at h
  rw [Bool.and_eq_true]at h
  cases k with
  | zero=>omega
  | succ k =>
   have e:(x :: r).length-1-(k+1)=r.length-1-k:=by simp; omega
   cases i with
   | zero =>
    simp only [List.getElem?_cons_zero,Option.some.injEq]at ho
    subst ho
    have h1:=h.1
    split at h1
    ·rename_i j hj
     rw [lget_eq]at hj
     obtain⟨b,h2,h3⟩:=apartM_ok h1 k o2 (by simpa using ho2)
     exact⟨j,b,by simpa using hj,by rw [e]; exact h2,h3⟩
    ·simp at h1
   | succ i =>
    obtain⟨a,b,h1,h2,h3⟩:=nodupM_ok h.2 i k o o2 (by omega) (by simpa using ho) (by simpa using ho2)
    refine⟨a,b,?_,by rw [e]; exact h2,h3⟩
    rwa [show(x :: r).length-1-(i+1)=r.length-1-i by simp; omega]
omit [Env] in
theorem fixB_ok {ps:List Nat}:∀ {fx:Nat},fixB ps fx=true→fx≤ps.length∧∀k,k < fx→at? ps k k=true
 | 0,_=>⟨Nat.zero_le _,fun k hk=>by omega⟩
 | f+1,h=>by
  unfold fixB at h
  rw [Bool.and_eq_true]at h
  obtain⟨h1,h2⟩:=h
  obtain⟨_,h3⟩:=fixB_ok h2
  refine⟨?_,fun k hk=>?_⟩
  ·unfold at? at h1
   split at h1
   ·rename_i j hj
    rw [lget_eq]at hj
    exact(List.getElem?_eq_some_iff.1 hj).1
   ·simp at h1
  ·by_cases hkf:k < f
   ·exact h3 k hkf
   ·rw [show k=f by omega]; exact h1
omit [Env] in
theorem fpos_eq:∀(l:List Nat) (K:List Nat→Prop),fpos l K=K l
 | [],K=>rfl
 | x :: r,K=>by simp only [fpos,fnat_eq,fpos_eq r]
theorem view_ok {al:Option Nat} {fx:Nat} (hal:∀f,al=some f→f≤fx) {B:RW} (hB:BOk B) {pt:List (Option SV)} {M:List SObj} {t:List SV} {σ:SMem} {s:St} (hs:Is B t σ s) (h:wViewA al fx B pt M t σ) {Q:St→Prop}
  (hQ:∀m s2,Is B (fillT m s.t pt 0) ⟨B,M.length,M⟩ s2→Q s2):Viewed (B.n+fx) s Q:=by
 obtain⟨hW,hds,rfl,hw,hT⟩:=hs
 intro m w arr _ hr hl ht
 unfold wViewA at h
 rw [fnat_eq,fpos_eq]at h
 generalize infM σ _ M=ps at h
 split at h
 ·rename_i hc
  rw [Bool.and_eq_true]at hc
  obtain⟨hnd,hlen⟩:=hc
  rw [Bool.and_eq_true]at hlen
  obtain⟨hlen,hfx⟩:=hlen
  have hlen:=Nat.eq_of_beq_eq_true hlen
  obtain⟨h1,h2,h3⟩:=fitsT_ok (N:=σ.B.n) h
  obtain⟨h5,h6⟩:=fitsM_ok (N:=σ.B.n) h3
  have hw2:SMem.Wf ⟨σ.B,M.length,M⟩:=⟨rfl⟩
  obtain⟨h7,h8⟩:=visTs_ok hw2 h6
  obtain⟨hfx1,hfx2⟩:=fixB_ok hfx
  obtain⟨h9,_⟩:=visM_ok hw2 (fun f hf=>by
   have:=hal f hf
   show f≤M.length
   omega) h8
  have hag:Agree σ.B.n m (fun b=>m (rho σ.B.n ps b)):=fun b hb=>by
   show m (rho σ.B.n ps b)=m b
   rw [rho_base hb]
  have hagf:Agree (σ.B.n+fx) m (fun b=>m (rho σ.B.n ps b)):=fun b hb=>by
   show m (rho σ.B.n ps b)=m b
   by_cases hb2:b < σ.B.n
   ·rw [rho_base hb2]
   ·have:=rho_at (N:=σ.B.n) (hfx2 (b-σ.B.n) (by omega))
    rw [show σ.B.n+(b-σ.B.n)=b by omega]at this
    rw [this]
  rw [hW]at hr
  have hget:∀b o,(SMem.den ⟨σ.B,M.length,M⟩).get b=some o→o.lt (σ.B.n+M.length)∧(o=.dead∨((σ.B.n≤b→∃j,ps[b-σ.B.n]?=some j)∧∃o2,σ.den.get (rho σ.B.n ps b)=some o2∧(o.own=true→o2.own=true)∧o2.live=o.live∧ORel (fun b=>m (rho σ.B.n ps b)) o (m (rho σ.B.n ps b)) w.heap)):=by
   intro b o hb
   rw [denM_get hw2]at hb
   split at hb
   ·rename_i hlt
    have hb':σ.B.get b=some o:=hb
    refine⟨RObj.lt_mono (Nat.le_add_right _ _) (hB.lt b o hb'),.inr ⟨fun hge=>absurd (show b < σ.B.n from hlt) (by omega),o,?_,fun h=>h,rfl,?_⟩⟩
    ·rw [rho_base hlt,denM_get hw,if_pos hlt]; exact hb'
    ·rw [rho_base hlt]
     have:=hr.obj b o (by rw [denM_get hw,if_pos hlt]; exact hb')
     exact this.agree (hB.lt b o hb') hag
   ·rename_i hlt
    have hlt':¬ b < σ.B.n:=hlt
    have hb':(SMem.get ⟨σ.B,M.length,M⟩ (b-σ.B.n)).map (denO σ.B.n)=some o:=hb
    simp only [SMem.get,blt_eq,lget_eq]at hb'
    split at hb'
    ·rename_i hk
     have hk:b-σ.B.n < M.length:=by simpa using hk
     obtain⟨o1,ho1,rfl⟩:=Option.map_eq_some_iff.1 hb'
     obtain⟨hlt1,hnm,hpl,hlps⟩:=h9 o1 (List.mem_of_getElem? ho1)
     refine⟨hlt1,?_⟩
     rcases h5 _ o1 ho1 with hd | ⟨j,o',hj,hj2,hoas⟩
     ·exact .inl hd
     ·have hix:M.length-1-(M.length-1-(b-σ.B.n))=b-σ.B.n:=by omega
      rw [hix]at hj
      have hrho:rho σ.B.n ps b=σ.B.n+j:=by
       unfold rho
       rw [if_neg hlt',hj]
       rfl
      have hgj:σ.den.get (σ.B.n+j)=some (denO σ.B.n o'):=by
       rw [denM_get hw,if_neg (by omega),Nat.add_sub_cancel_left,hj2]; rfl
      refine .inr ⟨fun _=>⟨j,hj⟩,denO σ.B.n o',by rw [hrho]; exact hgj,?_⟩
      have hor:=hr.obj _ _ hgj
      rw [hrho]
      cases o1 with
      | dead=>exact hoas.elim
      | mp ks c ro=>exact hoas.elim
      | lp st pd R =>
       have hoas:o'=.lp st pd R:=hoas
       subst hoas
       obtain⟨f,hf,hb2⟩:=hlps st pd R rfl
       have hff:=hal f hf
       have hb2:R.b≤σ.B.n+f:=hb2
       have hor':ORel m (.loop st pd R.fn R.T R.params R.assign R.body R.d) (m (σ.B.n+j)) w.heap:=hor
       exact⟨fun h=>h,rfl,hor'.agree (n:=R.b) ⟨R.hT,R.hd⟩ (fun c hc=>hagf c (by omega))⟩
      | gr n sz e k z =>
       obtain⟨k',e1,e2,hk⟩:=hoas
       rw [e2]at hor ⊢
       rw [e1]
       obtain⟨arr',ty,fz,g1,g2,g3,g4,g5,g6⟩:=hor
       refine⟨by cases k<;>cases k'<;>first | exact fun h=>h | exact fun _=>rfl | (simp [kdOk]at hk),rfl,arr',ty,fz,g1,?_,?_,g4,g5,?_⟩
       ·intro i x hx
        rw [g2 i x hx]
        exact congrArg some (rv_agree hag x (gcells_nm (hpl n sz e k z rfl).1 x (List.mem_of_getElem? hx)).2).symm
       ·intro hk2 hk3
        refine g3 ?_ ?_
        ·exact fun e=>hk2 ((kdOk_spec hk).1 e)
        ·exact(kdOk_spec hk).2.1
       ·intro hk2
        exact g6 (.inl ((kdOk_spec hk).2.2 hk2))
      | cells c k =>
       cases o' with
       | dead=>exact hoas.elim
       | gr n sz e k z=>exact hoas.elim
       | lp st pd R=>exact hoas.elim
       | mp ks c ro=>exact hoas.elim
       | cells c' k' =>
        obtain⟨rfl,hcl,hcs⟩:=hoas
        refine⟨by cases k<;>exact fun h=>h,rfl,?_⟩
        obtain⟨arr',ty,fz,g1,g2,g3,g4,g5,g6⟩:=hor
        rw [denL_len,← hcl]at g4 g6
        refine⟨arr',ty,fz,g1,?_,g3,by rw [denL_len]; exact g4,g5,by rw [denL_len]; exact g6⟩
        intro i x hx
        rw [denL_eq,List.getElem?_map]at hx
        obtain⟨cx,hcx,rfl⟩:=Option.map_eq_some_iff.1 hx
        have hi:i < c'.length:=by rw [← hcl]; exact(List.getElem?_eq_some_iff.1 hcx).1
        rw [g2 i (den σ.B.n c'[i]) (by rw [denL_eq,List.getElem?_map,List.getElem?_eq_getElem hi]; rfl)]
        exact congrArg some (hcs i cx _ hcx (List.getElem?_eq_getElem hi) (hnm c k rfl cx (List.mem_of_getElem? hcx)) m)
    ·simp at hb'
  have objAt:∀a o,¬ a < σ.B.n→(SMem.den ⟨σ.B,M.length,M⟩).get a=some o→∃so,M[M.length-1-(a-σ.B.n)]?=some so∧o=denO σ.B.n so∧a-σ.B.n < M.length:=by
   intro a o hla ha
   rw [denM_get hw2,if_neg hla]at ha
   have ha:(SMem.get ⟨σ.B,M.length,M⟩ (a-σ.B.n)).map (denO σ.B.n)=some o:=ha
   simp only [SMem.get,blt_eq,lget_eq]at ha
   split at ha
   ·rename_i hk
    have hk:a-σ.B.n < M.length:=by simpa using hk
    obtain⟨o1,ho1,rfl⟩:=Option.map_eq_some_iff.1 ha
    exact⟨o1,ho1,rfl,hk⟩
   ·simp at ha
  have hrel:Rel (fun b=>m (rho σ.B.n ps b)) (SMem.den ⟨σ.B,M.length,M⟩) w:=by
   refine⟨?_,?_,fun b o hb=>(hget b o hb).1,?_,?_⟩
   ·show(M.map (denO σ.B.n)++σ.B.l).length=σ.B.n+M.length
    have:=hB.wf
    unfold RW.wf at this
    simp [this]
    omega
   ·intro b o hb
    rcases(hget b o hb).2 with rfl | ⟨_,o2,_,_,_,h⟩
    ·trivial
    ·exact h
   ·intro a b x y ha hb hx hy hab
    rcases(hget a x ha).2 with rfl | ⟨ja,x2,hx1,hx2,hx3,_⟩
    ·simp [RObj.own]at hx
    ·rcases(hget b y hb).2 with rfl | ⟨jb,y2,hy1,hy2,hy3,_⟩
     ·simp [RObj.live]at hy
     ·refine hr.inj _ _ x2 y2 hx1 hy1 (hx2 hx) (by rw [hy3]; exact hy) ?_
      by_cases hla:a < σ.B.n
      ·by_cases hlb:b < σ.B.n
       ·rw [rho_base hla,rho_base hlb]; exact hab
       ·rw [rho_base hla]
        unfold rho
        rw [if_neg hlb]
        omega
      ·obtain⟨j1,hj1⟩:=ja (by omega)
       by_cases hlb:b < σ.B.n
       ·rw [rho_base hlb]
        unfold rho
        rw [if_neg hla]
        omega
       ·obtain⟨j2,hj2⟩:=jb (by omega)
        unfold rho
        rw [if_neg hla,if_neg hlb,hj1,hj2]
        have:j1≠j2:=by
         obtain⟨oa,a1,rfl,a3⟩:=objAt a x hla ha
         obtain⟨ob,b1,rfl,b3⟩:=objAt b y hlb hb
         have ea:M.length-1-(M.length-1-(a-σ.B.n))=a-σ.B.n:=by omega
         have eb:M.length-1-(M.length-1-(b-σ.B.n))=b-σ.B.n:=by omega
         have hso:softO oa=true→False:=fun h=>by rw [soft_own h]at hx; simp at hx
         rcases Nat.lt_or_ge (M.length-1-(a-σ.B.n)) (M.length-1-(b-σ.B.n))with hlt | hge
         ·obtain⟨p1,p2,q1,q2,q3⟩:=nodupM_ok hnd _ _ oa ob hlt a1 b1
          rw [ea,hj1]at q1
          rw [eb,hj2]at q2
          simp only [Option.some.injEq]at q1 q2
          subst q1 q2
          exact q3.resolve_left fun h=>hso h.1
         ·obtain⟨p1,p2,q1,q2,q3⟩:=nodupM_ok hnd _ _ ob oa (show M.length-1-(b-σ.B.n) < M.length-1-(a-σ.B.n)by omega) b1 a1
          rw [eb,hj2]at q1
          rw [ea,hj1]at q2
          simp only [Option.some.injEq]at q1 q2
          subst q1 q2
          exact fun e=>q3.resolve_left (fun h=>hso h.2) e.symm
        simp only [Option.getD_some]
        omega
   ·intro i g hi
    have h10:=hB.glb i g hi
    refine⟨by show i < σ.B.n+M.length; omega,?_⟩
    show(m (rho σ.B.n ps i)).blk=g∧(m (rho σ.B.n ps i)).off=0
    rw [rho_base h10]
    exact(hr.glb i g hi).2
  have htt:=TT_of σ.B.n (fillT m s.t pt 0)
  have hlen2:(fillT m s.t pt 0).length=t.length:=by rw [fillT_len,h1]
  refine⟨fun b=>m (rho σ.B.n ps b),⟨RT.of (denL σ.B.n (fillT m s.t pt 0)) (fillT m s.t pt 0).length,SMem.den ⟨σ.B,M.length,M⟩,[]⟩,hQ m _ ⟨rfl,rfl,rfl,hw2,htt⟩,hagf,hrel,?_,⟨?_,?_⟩,(show σ.B.n+fx≤σ.B.n+M.length by omega),?_⟩
  ·intro i
   rw [htt.get i,fillT_get]
   cases hp:pt[i]? with
   | none=>rfl
   | some o=>cases o with
    | some x=>exact(h7 i x hp).2
    | none =>
     simp only [Option.map_some,Option.getD_some,den,Nat.zero_add]
     exact(ofValue_ok m _ (flat_rv m (hl i))).2
  ·rw [ht.size,hT.n,htt.n,hlen2]
  ·intro i
   rw [htt.get i,fillT_get,ht.get i]
   cases hp:pt[i]? with
   | none =>
    have:t.length≤i:=by rw [← h1]; exact List.getElem?_eq_none_iff.1 hp
    rw [hT.get i,List.getElem?_eq_none this]
    rfl
   | some o =>
    have hi:i < t.length:=by rw [← h1]; exact(List.getElem?_eq_some_iff.1 hp).1
    cases o with
    | some x =>
     rw [hT.get i,List.getElem?_eq_getElem hi]
     simp only [Option.map_some,Option.getD_some]
     exact h2 i x _ hp (List.getElem?_eq_getElem hi) (h7 i x hp).1 m
    | none =>
     simp only [Option.map_some,Option.getD_some,den,Nat.zero_add]
     exact((ofValue_ok (fun b=>m (rho σ.B.n ps b)) 0 (flat_rv m (hl i))).1).symm
  ·intro b o hb ho
   rw [hW]
   rcases(hget b o hb).2 with rfl | ⟨_,o2,hx1,hx2,_,_⟩
   ·simp [RObj.own]at ho
   ·exact⟨_,o2,hx1,by rw [hx2]; exact ho,rfl⟩
 ·exact h.elim
noncomputable def ev0:Ev:=fun _ _ _ _=>none
theorem ev0_ok:EvOk P ev0:=fun _ _ _ _ _ _ h=>by simp [ev0]at h
variable {C:Know} {A:Nat→List SV→Ann} {g:FuncId}
def lift (B:RW) (Q:Kx):Ex→St→Prop:=fun ex s=>∃t σ,Is B t σ s∧Q ex t σ
omit [Env] in
theorem lpGet_ok {σ:SMem} {l:Nat} {K:LoopState→Option Code→LR→Prop} (hw:σ.Wf) (h:lpGet σ l K) :
  ∃st p R,σ.den.get (σ.B.n+l)=some (.loop st p R.fn R.T R.params R.assign R.body R.d)∧K st p R:=by
 unfold lpGet at h
 split at h
 ·rename_i st p R hg
  refine⟨st,p,R,?_,h⟩
  rw [denM_get hw,if_neg (by omega),Nat.add_sub_cancel_left,hg]
  rfl
 ·exact h.elim
omit [Env] in
theorem setPar_ok {N:Nat}:∀ {ps:List Tmp} {as t:List SV} {T:RT} {K:List SV→Prop},TT N t T→setPar ps as t K→∃t0 T0,setParams ps (denL N as) T=some T0∧TT N t0 T0∧K t0
 | [],[],t,T,K,hT,h=>⟨t,T,rfl,hT,h⟩
 | p :: ps,a :: as,t,T,K,hT,h=>by
  obtain⟨g,hg⟩:∃g,putB (some p)=⟨g⟩:=by cases putB (some p); exact⟨_,rfl⟩
  obtain⟨t1,T1,h1,h2,h3⟩:=putS_ok (d:=some p) (K:=fun t=>setPar ps as t K) hT hg (show putS (some p) t a _ from h)
  obtain⟨t0,T0,h4,h5,h6⟩:=setPar_ok h2 h3
  refine⟨t0,T0,?_,h5,h6⟩
  have e:T.set p (den N a)=some T1:=by unfold RT.set; rw [hg]; exact h1
  simp only [setParams,denL,e,h4]
 | [],_ :: _,_,_,_,_,h=>h.elim
 | _ :: _,[],_,_,_,_,h=>h.elim
theorem CallTo.mono {g:FuncId} {args:List RV} {W:RW} {Q Q':RV→RW→Prop} (h:CallTo P g args W Q) (hQ:∀x W,Q x W→Q' x W):CallTo P g args W Q':=by
 intro m w cs hr hb
 obtain⟨x,W',m',w',fr,h1,h2⟩:=h m w cs hr hb
 exact⟨x,W',m',w',fr,hQ _ _ h1,h2⟩
omit [Env] in
theorem set_same {W W':RW} {b:Nat} {o:RObj} (hg:W.get b=some o) (h:W.set b o=some W'):W'=W:=by
 rw [RW.set_eq]at h
 unfold RW.get at hg
 split at hg
 ·rename_i hb
  rw [if_pos hb]at h
  split at h
  ·rename_i l hl
   obtain⟨h1,h2⟩:=lset_spec _ _ _ hl
   simp only [Option.some.injEq]at h
   subst h
   rw [lget_eq]at hg
   obtain⟨h3,h4⟩:=List.getElem?_eq_some_iff.1 hg
   have:l=W.l:=by
    subst h2
    rw [← h4]
    exact List.set_getElem_self _
   rw [this]
  ·simp at h
 ·simp at hg
omit [Env] in
theorem fsl_is:∀ {l:List SV} {K:List SV→Prop},fsl l K→K l
 | [],K,h=>h
 | x :: r,K,h=>by
  simp only [fsl,fsv_eq]at h
  exact fsl_is (K:=fun r=>K (x :: r)) h
omit [Env] in
theorem caseK_ok {hi:Nat} {K:SMem→Prop}:∀ {M:List SObj} {σ:SMem},σ.Wf→caseK hi K M σ→∃σ':SMem,σ'.den=σ.den∧σ'.B=σ.B∧σ'.Wf∧K σ'
 | [],σ,hw,h=>⟨σ,rfl,rfl,hw,h⟩
 | .gr k c e0 kd0 z :: M,σ,hw,h=>by
  have same:∀ {o o':SObj} {σ':SMem},σ.get k=some o→denO σ.B.n o'=denO σ.B.n o→σ.den.set (σ.B.n+k) (denO σ.B.n o')=some σ'.den→σ'.den=σ.den:=fun {o o' σ'} hk e2 h1=>by
   rw [e2]at h1
   have h9:σ.den.get (σ.B.n+k)=some (denO σ.B.n o):=by
    rw [denM_get hw,if_neg (by omega),Nat.add_sub_cancel_left,hk]
    rfl
   exact set_same h9 h1
  cases z with
  | false =>
   simp only [caseK]at h
   split at h
   ·rename_i cs kd hk
    split at h
    ·rename_i κ z hc
     obtain⟨j,hj,rfl,hs⟩:=splK_ok h
     split at hs
     ·rename_i cs' hcs
      obtain⟨σ',h1,h2,h3,h4⟩:=setK_ok hw hs
      obtain⟨h5,h6⟩:=lset_spec _ _ _ hcs
      have e:denL σ.B.n cs'=denL σ.B.n cs:=by
       subst h6
       rw [denL_eq,denL_eq,List.map_set]
       rw [lget_eq]at hc
       obtain⟨h7,h8⟩:=List.getElem?_eq_some_iff.1 hc
       have:den σ.B.n (.v (.int κ (.ofNat j)))=(cs.map (den σ.B.n))[c]'(by simpa using h7):=by rw [List.getElem_map,h8]; rfl
       rw [this]
       exact List.set_getElem_self _
      have e2:denO σ.B.n (.cells cs' kd)=denO σ.B.n (.cells cs kd):=by simp only [denO,e]
      have e3:=same hk e2 h1
      obtain⟨σ2,k1,k2,k3,k4⟩:=caseK_ok h3 h4
      exact⟨σ2,k1.trans e3,k2.trans h2,k3,k4⟩
     ·exact hs.elim
    ·exact h.elim
   ·exact h.elim
  | true =>
   simp only [caseK]at h
   split at h
   ·rename_i n sz e kd z hk
    have h:=fsl_is (gRow_ok h)
    obtain⟨σ',h1,h2,h3,h4⟩:=setK_ok hw h
    have e2:denO σ.B.n (.gr n sz (.row e c (e.at c)) kd z)=denO σ.B.n (.gr n sz e kd z):=by
     simp only [denO]
     rw [gcells_all (e:=.row e c (e.at c)) (e':=e) fun i=>by
      simp only [El.at]
      split
      ·rename_i h; rw [h]
      ·rfl]
    have e3:=same hk e2 h1
    obtain⟨σ2,k1,k2,k3,k4⟩:=caseK_ok h3 h4
    exact⟨σ2,k1.trans e3,k2.trans h2,k3,k4⟩
   ·exact h.elim
 | .dead :: _,_,_,h=>h.elim
 | .cells _ _ :: _,_,_,h=>h.elim
 | .lp _ _ _ :: _,_,_,h=>h.elim
 | .mp _ _ _ :: _,_,_,h=>h.elim
theorem wRgn_ok (hN:NoOwn P) (hC:KnowOk P ev0 C) {B:RW} (hB:BOk B) (id:Nat) {ops:Array Oper} {draw:Bool} {rd:Option Nat} {fx:Nat} {t:List SV} {σ:SMem} {s:St} {Q:Kx} (hs:Is B t σ s) (h:wRgn P C ops draw t σ Q):CodeTo (B.n+fx) P g rd (.region id ops draw) s (lift B Q):=by
 obtain⟨hW,hds,rfl,hw,hT⟩:=hs
 obtain⟨T,W,ds⟩:=s
 simp only at hW hds hT
 subst hW hds
 unfold wRgn at h
 split at h
 ·rename_i hu
  have hdr:draw=true:=by
   cases draw with
   | true=>rfl
   | false=>simp [useAny]at hu
  subst hdr
  split at h
  ·refine anyTo ev0_ok hN hC hT hw hB h ?_
   rintro T' W' ⟨t',σ',rfl,h3,h4,h5,h6⟩
   exact⟨t',σ',⟨rfl,rfl,h4,h5,h3⟩,h6⟩
  obtain⟨T',t',σ',h2,h3,h4,h5,h6⟩:=wAny_ok ev0_ok hN hC hT hw hB.wf h
  exact regTo (h2 id) ⟨t',σ',⟨rfl,rfl,h4,h5,h3⟩,h6⟩
 split at h
 ·refine regionTo ev0_ok hN hC hT hw hB h ?_
  rintro T' W' ⟨t',σ',rfl,h3,h4,h5,h6⟩
  exact⟨t',σ',⟨rfl,rfl,h4,h5,h3⟩,h6⟩
 ·obtain⟨r,t',T',σ',h1,h2,h3,h4,h5,h6⟩:=wReg_ok hC hT hw h
  exact regTo (regRun_ok ev0_ok hN (drawOk hN) h1 h2) ⟨t',σ',⟨rfl,rfl,h4,h5,h3⟩,h6⟩
theorem wC_ok (hN:NoOwn P) (hC:KnowOk P ev0 C) {B:RW} (hB:BOk B):∀(c:Code) {rd:Option Nat} {fx:Nat} {t:List SV} {σ:SMem} {s:St} {Q:Kx},Is B t σ s→wC P C A rd.isSome fx c t σ Q→CodeTo (B.n+fx) P g rd c s (lift B Q)
 | .skip,rd,fx,t,σ,s,Q,hs,h=>reflTo (ex:=.nrm) (fun m w fr cs k hm ht=>⟨k,s_skip hm ht,rfl⟩) ⟨t,σ,hs,h⟩
 | .label _,rd,fx,t,σ,s,Q,hs,h=>reflTo (ex:=.nrm) (fun m w fr cs k hm ht=>⟨k,s_label hm ht,rfl⟩) ⟨t,σ,hs,h⟩
 | .ret,rd,fx,t,σ,s,Q,hs,h=>reflTo (ex:=.ret) (fun m w fr cs k hm ht=>⟨_,stay ht,k,rfl⟩) ⟨t,σ,hs,h⟩
 | .exit id,rd,fx,t,σ,s,Q,hs,h=>reflTo (ex:=.exit id) (fun m w fr cs k hm ht=>⟨_,stay ht,k,rfl,rfl⟩) ⟨t,σ,hs,h⟩
 | .goto l,rd,fx,t,σ,s,Q,hs,h=>reflTo (ex:=.goto l) (fun m w fr cs k hm ht=>⟨_,stay ht,k,rfl,rfl⟩) ⟨t,σ,hs,h⟩
 | .seq a b,rd,fx,t,σ,s,Q,hs,h=>by
  unfold wC at h
  split at h
  ·refine seqTo ((wC_ok hN hC hB a hs h).mono ?_)
   rintro ex s1 ⟨t1,σ1,hs1,h1⟩
   cases ex with
   | nrm=>exact wC_ok hN hC hB b hs1 h1
   | exit id=>exact⟨t1,σ1,hs1,h1⟩
   | ret=>exact⟨t1,σ1,hs1,h1⟩
   | goto l=>exact⟨t1,σ1,hs1,h1⟩
  ·rename_i key _
   obtain⟨h1,h2⟩:=h
   have hσB:σ.B=B:=hs.2.2.1
   rw [hσB]at h1 h2
   refine seqTo ((wC_ok hN hC hB a hs h1).mono ?_)
   rintro ex s1 ⟨t1,σ1,hs1,h3⟩
   cases ex with
   | nrm =>
    obtain⟨a0,⟨hinv⟩,hv⟩:=h3
    rw [kept_eq]at hv
    refine viewTo ?_
    refine view_ok (al:=some fx) (fun f hf=>by cases hf; exact Nat.le_refl _) hB hs1 hv ?_
    intro m s2 hs2
    have hb:=wFill_ok m s1.t ((A key t).t a0) 0 (h2 a0 hinv)
    rw [kept_eq,fnat_eq]at hb
    exact wC_ok hN hC hB b hs2 hb
   | exit id=>exact⟨t1,σ1,hs1,h3⟩
   | ret=>exact⟨t1,σ1,hs1,h3⟩
   | goto l=>exact⟨t1,σ1,hs1,h3⟩
 | .cond c a b,rd,fx,t,σ,s,Q,hs,h=>by
  obtain⟨h1,h2⟩:=op1_ok h
  have ho:=opd_S hs.2.2.2.2 c
  split at h2
  ·rename_i hc
   rw [hc]at ho
   exact condTo h1 (v:=true) ho (wC_ok hN hC hB a hs h2)
  ·rename_i hc
   rw [hc]at ho
   exact condTo h1 (v:=false) ho (wC_ok hN hC hB b hs h2)
  ·rename_i q hc
   rw [hc]at ho
   split at h2
   ·rename_i d
    obtain⟨hs1,hs2,hs3,hs4,hs5⟩:=hs
    by_cases hq:q
    ·have hd1:=@decide_eq_true q (Classical.propDecidable q) hq
     simp only [den,hd1]at ho
     obtain⟨h4,h5⟩:=lsetK_ok (h2.1 hq)
     exact condTo h1 (v:=true) ho (wC_ok hN hC hB a ⟨hs1,hs2,hs3,hs4,hs5.know hc (by simp only [den,hd1]) h4⟩ h5)
    ·have hd1:=@decide_eq_false q (Classical.propDecidable q) hq
     simp only [den,hd1]at ho
     obtain⟨h4,h5⟩:=lsetK_ok (h2.2 hq)
     exact condTo h1 (v:=false) ho (wC_ok hN hC hB b ⟨hs1,hs2,hs3,hs4,hs5.know hc (by simp only [den,hd1]) h4⟩ h5)
   ·exact h2.elim
  ·exact h2.elim
 | .block id c,rd,fx,t,σ,s,Q,hs,h=>by
  refine blockTo ((wC_ok hN hC hB c hs h).mono ?_)
  rintro ex s1 ⟨t1,σ1,hs1,h1⟩
  cases ex with
  | nrm=>exact⟨t1,σ1,hs1,h1⟩
  | exit j =>
   simp only at h1 ⊢
   split at h1
   ·rename_i hj
    rw [if_pos hj]
    exact⟨t1,σ1,hs1,h1⟩
   ·rename_i hj
    rw [hj]
    exact⟨t1,σ1,hs1,h1⟩
  | ret=>exact⟨t1,σ1,hs1,h1⟩
  | goto l=>exact⟨t1,σ1,hs1,h1⟩
 | .scope c,rd,fx,t,σ,s,Q,hs,h=>by
  refine scopeTo ((wC_ok hN hC hB c hs h).mono ?_)
  rintro ex s1 ⟨t1,σ1,hs1,h1⟩
  cases ex with
  | nrm=>exact⟨t1,σ1,hs1,h1⟩
  | exit id=>exact⟨t1,σ1,hs1,h1⟩
  | ret=>exact⟨t1,σ1,hs1,h1⟩
  | goto l=>exact h1.elim
 | .region id ops draw,rd,fx,t,σ,s,Q,hs,h=>by
  unfold wC at h
  split at h
  ·obtain⟨a,h⟩:=h
   obtain⟨σ',e1,e2,e3,h⟩:=caseK_ok hs.2.2.2.1 h
   obtain⟨hW,hds,hB1,hw,hT⟩:=hs
   exact wRgn_ok hN hC hB id (rd:=rd) (fx:=fx) ⟨hW.trans e1.symm,hds,e2.trans hB1,e3,hT⟩ h
  ·exact wRgn_ok hN hC hB id hs h
 | .loop c,rd,fx,t,σ,s,Q,hs,h=>by
  unfold wC at h
  split at h
  ·rename_i key _
   split at h
   ·obtain⟨⟨a0,⟨hinv⟩,hv⟩,hbody⟩:=h
    have hσB:σ.B=B:=hs.2.2.1
    rw [hσB]at hv hbody
    rw [kept_eq]at hv
    refine viewTo ?_
    refine view_ok (al:=some fx) (fun f hf=>by cases hf; exact Nat.le_refl _) hB hs hv ?_
    intro m s2 hs2
    refine loopTo (I:=fun n s=>∃(a:(A key t).α) (t2:List SV),(A key t).inv a∧(A key t).μ a=n∧Is B t2 ⟨B,(keptM σ ((A key t).M a)).length,keptM σ ((A key t).M a)⟩ s∧∀(K:List SV→Prop),wFill ((A key t).t a) K→K t2) ?_ ((A key t).μ a0) s2
     ⟨a0,_,hinv,rfl,hs2,fun K hK=>wFill_ok _ _ _ _ hK⟩
    rintro n s3 ⟨a,t2,hi,rfl,hs3,hfill⟩
    have hb:=hfill _ (hbody a hi)
    rw [kept_eq,fnat_eq]at hb
    refine(wC_ok hN hC hB c hs3 hb).mono ?_
    rintro ex s4 ⟨t4,σ4,hs4,h4⟩
    cases ex with
    | nrm =>
     obtain⟨a',⟨hi',hmu⟩,hv'⟩:=h4
     rw [kept_eq]at hv'
     show Viewed (B.n+fx) s4 _
     refine view_ok (al:=some fx) (fun f hf=>by cases hf; exact Nat.le_refl _) hB hs4 hv' ?_
     intro m' s5 hs5
     exact⟨_,hmu,a',_,hi',rfl,hs5,fun K hK=>wFill_ok _ _ _ _ hK⟩
    | exit id=>exact⟨t4,σ4,hs4,h4⟩
    | ret=>exact⟨t4,σ4,hs4,h4⟩
    | goto l=>exact⟨t4,σ4,hs4,h4⟩
   ·rename_i n _
    refine loopTo (I:=fun n s=>∃(t2:List SV) (σ2:SMem),Is B t2 σ2 s∧unr (fun t σ Q=>wC P C A rd.isSome fx c t σ Q) Q n t2 σ2) ?_ (n+1) s ⟨t,σ,hs,h⟩
    rintro n s3 ⟨t2,σ2,hs3,h3⟩
    cases n with
    | zero=>exact h3.elim
    | succ n =>
     refine(wC_ok hN hC hB c hs3 h3).mono ?_
     rintro ex s4 ⟨t4,σ4,hs4,h4⟩
     cases ex with
     | nrm =>
      intro m w arr hn hr ht htr
      exact⟨m,s4,⟨n,by omega,t4,σ4,hs4,h4⟩,fun _ _=>rfl,hr,ht,htr,hn,fun b o h1 h2=>⟨b,o,h1,h2,rfl⟩⟩
     | exit id=>exact⟨t4,σ4,hs4,h4⟩
     | ret=>exact⟨t4,σ4,hs4,h4⟩
     | goto l=>exact⟨t4,σ4,hs4,h4⟩
  ·exact h.elim
 | .rangeFunc f params assign body,rd,fx,t,σ,s,Q,hs,h=>by
  unfold wC at h
  cases rd with
  | some l=>exact h.elim
  | none =>
   obtain⟨hog,h⟩:=op1_ok (show op1 f t _ from h)
   have ho:=opd_S hs.2.2.2.2 f
   obtain⟨T,W,ds⟩:=s
   obtain⟨hW,hds,rfl,hw,hT⟩:=hs
   simp only at hW hds hT
   subst hW hds
   split at h
   case h_2=>exact h.elim
   rename_i gf ks hop
   rw [hop]at ho
   split at h
   case h_2=>exact h.elim
   rename_i hhas
   rw [fnat_eq]at h
   have hnn:σ.den.n=σ.B.n+σ.n:=rfl
   have hlen:σ.L.length=σ.n:=hw.len
   intro h0 m w fr cs k hn hrd hr hl hfr htd
   obtain⟨R,hR⟩:∃R:LR,R=⟨g,T,params,assign,body,σ.B.n+σ.n,σ.B.n+(σ.n+1),fun i=>below_mono (Nat.le_succ _) _ (hl i),Nat.lt_succ_self _⟩:=⟨_,rfl⟩
   have hrun:=h R (by rw [hR])
   have hY:YdOk P ⟨true,σ.B,σ.n+1,rndK R (σ.n+1) (fun fx t σ Q=>wC P C A true fx assign t σ Q) (fun fx t σ Q=>wC P C A true fx body t σ Q) params.toList t⟩:=by
    intro args σ1 K hσB hw1 hB1 hk0 m1 w1 fr1 cs1 hr1 hb1
    have hσB:σ1.B=σ.B:=hσB
    obtain⟨st0,p0,R0,hg0,hk1⟩:=lpGet_ok hw1 (show lpGet σ1 (σ.n+1) _ from hk0)
    obtain⟨⟨hR0⟩,hk2⟩:=hk1
    obtain⟨t0,T0,hsp,hT0,hk3⟩:=setPar_ok (N:=σ.B.n) hT hk2
    rw [fnat_eq]at hk3
    rw [hR0,hR]at hg0
    simp only at hg0
    have hIs:Is σ.B t0 σ1 ⟨T0,σ1.den,[]⟩:=⟨rfl,rfl,hσB,hw1,hT0⟩
    rw [← hσB]at hsp
    have hn1:σ1.den.n=σ.B.n+σ1.n:=by rw [← hσB]; rfl
    have hlift:∀(x:SV),den σ1.B.n x=den σ.B.n x:=fun x=>by rw [hσB]
    obtain⟨x,W',m',w',⟨y,σ',rfl,rfl,h2,h3,h4⟩,h5,h6,h7,h8⟩:=callY_to (P:=P) (Q:=fun x W'=>∃y σ',x=den σ1.B.n y∧W'=σ'.den∧σ'.B=σ1.B∧σ'.Wf∧K y σ') hg0 hsp (by
     rw [hn1]
     refine(wC_ok hN hC hB assign (rd:=some (σ1.B.n+(σ.n+1))) hIs hk3).mono ?_
     rintro ex s1 ⟨t1,σ2,hs1,h1⟩
     cases ex with
     | exit id=>exact h1.elim
     | ret=>exact h1.elim
     | goto l=>exact h1.elim
     | nrm =>
      refine⟨rfl,?_⟩
      obtain⟨T1,W1,ds1⟩:=s1
      obtain⟨hW1,hds1,hσ2,hw2,hT1⟩:=hs1
      simp only at hW1 hds1 hT1
      subst hW1 hds1
      obtain⟨st,p,R1,hg1,h1⟩:=lpGet_ok hw2 h1
      split at h1
      ·obtain⟨σ3,hset,hσ3,hw3,h1⟩:=setK_ok hw2 h1
       have hl1:σ2.B.n=σ1.B.n:=by rw [hσ2,hσB]
       rw [hl1]at hg1 hset
       refine⟨_,_,_,_,_,_,_,_,hg1,hset,?_⟩
       refine(wC_ok hN hC hB body (rd:=some (σ1.B.n+(σ.n+1))) (⟨rfl,rfl,hσ3.trans hσ2,hw3,hT1⟩:Is σ.B t1 σ3 ⟨T1,σ3.den,[]⟩) h1).mono ?_
       rintro ex s3 ⟨t4,σ4,⟨hW4,_,hσ4,hw4,_⟩,h3⟩
       obtain⟨st3,p3,R3,hg3,h3⟩:=lpGet_ok hw4 h3
       have hl4:σ4.B.n=σ1.B.n:=by rw [hσ4,hσB]
       rw [hl4]at hg3
       rw [hW4]
       have fin:∀(st:LoopState) (p:Option Code) (b:Bool),((ex=.nrm∧st=.ready∧p=none∧b=true)∨(∃id,ex=.exit id∧st=.done∧p=some (.exit id)∧b=false)∨(ex=.ret∧st=.done∧p=some .ret∧b=false)∨(∃g,ex=.goto g∧st=.done∧p=some (.goto g)∧b=false)) →
         setK σ4 (σ.n+1) (.lp st p R3) (fun σ5=>K (.v (.bool b)) σ5)→∃st' p' b' W4 st3' pd3 f3 t3 ps3 as3 bd3 d3,σ4.den.get (σ1.B.n+(σ.n+1))=some (.loop st3' pd3 f3 t3 ps3 as3 bd3 d3)∧σ4.den.set (σ1.B.n+(σ.n+1)) (.loop st' p' f3 t3 ps3 as3 bd3 d3)=some W4 ∧
          ((ex=.nrm∧st'=.ready∧p'=none∧b'=true)∨(∃id,ex=.exit id∧st'=.done∧p'=some (.exit id)∧b'=false)∨(ex=.ret∧st'=.done∧p'=some .ret∧b'=false)∨(∃g,ex=.goto g∧st'=.done∧p'=some (.goto g)∧b'=false))∧∃y σ',RV.v (.bool b')=den σ1.B.n y∧W4=σ'.den∧σ'.B=σ1.B∧σ'.Wf∧K y σ':=by
        intro st p b hex hk
        obtain⟨σ5,hset5,hσ5,hw5,hk⟩:=setK_ok hw4 hk
        rw [hl4]at hset5
        exact⟨st,p,b,σ5.den,_,_,_,_,_,_,_,_,hg3,hset5,hex,.v (.bool b),σ5,rfl,rfl,hσ5.trans (hσ4.trans hσB.symm),hw5,hk⟩
       cases ex with
       | nrm=>exact fin _ _ _ (.inl ⟨rfl,rfl,rfl,rfl⟩) h3
       | exit id=>exact fin _ _ _ (.inr (.inl ⟨id,rfl,rfl,rfl,rfl⟩)) h3
       | ret=>exact fin _ _ _ (.inr (.inr (.inl ⟨rfl,rfl,rfl,rfl⟩))) h3
       | goto l=>exact fin _ _ _ (.inr (.inr (.inr ⟨l,rfl,rfl,rfl,rfl⟩))) h3
      ·exact h1.elim) m1 w1 fr1 cs1 hr1 hb1
    exact⟨y,σ',m',w',h4,h2,h3,h5,h6,h7,h8⟩
   have hw2:SMem.Wf ⟨σ.B,σ.n+2,.lp .ready none R :: .dead :: σ.L⟩:=⟨by simp [hlen]⟩
   obtain⟨hbd,hct⟩:=hC.v.c _ hY gf _ ⟨σ.B,σ.n+2,.lp .ready none R :: .dead :: σ.L⟩ _ hhas hw2 hB hrun
   refine rangeTo (caps:=ks.map fun k=>RV.ptr (σ.B.n+k) 0) hN hog ho hbd (fun _=>?_) h0 m w fr cs k hn hrd hr hl hfr htd
   have hden:SMem.den ⟨σ.B,σ.n+2,.lp .ready none R :: .dead :: σ.L⟩=(σ.den.push .dead).push (.loop .ready none g T params assign body σ.den.n):=by
    rw [hR]
    rfl
   rw [hden]at hct
   have hargs:denL σ.B.n (SV.yl (σ.n+1) :: ks.map fun k=>SV.ptr k 0)=[RV.yld (σ.den.n+1)]++ks.map fun k=>RV.ptr (σ.B.n+k) 0:=by
    simp only [denL,denL_caps]
    rfl
   rw [hargs]at hct
   refine hct.mono ?_
   rintro x W3 ⟨y,σ3,rfl,rfl,hσ3,hw3,hend⟩
   have hend:endK (σ.n+1) σ3 t Q:=hend
   obtain⟨st,p,R3,hg3,hend⟩:=lpGet_ok hw3 hend
   have hl3:σ3.B.n=σ.B.n:=by rw [hσ3]
   rw [hl3]at hg3
   have go:st≠.busy→setK σ3 (σ.n+1) .dead (fun σ=>pendK p t σ Q)→∃st p f' t' ps' as' bd' d' W4,σ3.den.get (σ.den.n+1)=some (.loop st p f' t' ps' as' bd' d')∧st≠.busy∧σ3.den.set (σ.den.n+1) .dead=some W4 ∧
      ((p=none∧lift σ.B Q .nrm ⟨T,W4,[]⟩)∨(∃id,p=some (.exit id)∧lift σ.B Q (.exit id) ⟨T,W4,[]⟩)∨(p=some .ret∧lift σ.B Q .ret ⟨T,W4,[]⟩)∨∃g,p=some (.goto g)∧lift σ.B Q (.goto g) ⟨T,W4,[]⟩):=by
    intro hb hk
    obtain⟨σ4,hset,hσ4,hw4,hk⟩:=setK_ok hw3 hk
    rw [hl3]at hset
    have hIs:Is σ.B t σ4 ⟨T,σ4.den,[]⟩:=⟨rfl,rfl,hσ4.trans hσ3,hw4,hT⟩
    refine⟨st,p,_,_,_,_,_,_,σ4.den,hg3,hb,hset,?_⟩
    cases p with
    | none=>exact .inl ⟨rfl,t,σ4,hIs,hk⟩
    | some c =>
     cases c with
     | exit id=>exact .inr (.inl ⟨id,rfl,t,σ4,hIs,hk⟩)
     | ret=>exact .inr (.inr (.inl ⟨rfl,t,σ4,hIs,hk⟩))
     | goto l=>exact .inr (.inr (.inr ⟨l,rfl,t,σ4,hIs,hk⟩))
     | _=>exact hk.elim
   cases st with
   | busy=>exact hend.elim
   | _=>exact go (by simp) hend
 | .refuse _,rd,fx,t,σ,s,Q,hs,h=>by simp [wC]at h
omit [Env] in
theorem oneS_den (N:Nat) (l:List SV):den N (oneS l)=one (denL N l):=by
 match l with
 | []=>rfl
 | [x]=>rfl
 | x :: y :: r=>rfl
theorem wRes_ok {σ:SMem} {t:List SV} {T:RT} (hT:TT σ.B.n t T) (hw:σ.Wf):∀ {l:List ResultVar} {K:List SV→Prop},wRes P l t σ K→∃xs,resultsR P T σ.den l=some (denL σ.B.n xs)∧K xs
 | [],K,h=>⟨[],rfl,h⟩
 | .tmp i :: r,K,h=>by
  have h':fsv (opS (.tmp i) t) fun x=>wRes P r t σ fun xs=>K (x :: xs):=h
  rw [fsv_eq]at h'
  obtain⟨xs,h1,h2⟩:=wRes_ok hT hw h'
  refine⟨opS (.tmp i) t :: xs,?_,h2⟩
  have hg:=opd_S hT (.tmp i)
  simp only [opd,opdB,tmpB_eq]at hg
  unfold resultsR at h1 ⊢
  simp only [omap,resultR,h1,hg,denL]
 | .cell a ty :: r,K,h=>by
  have h':wLoad P ty σ (opS (.tmp a) t) fun x=>wRes P r t σ fun xs=>K (x :: xs):=h
  obtain⟨op,x,h1,h2,h3⟩:=dec_load (a:=.tmp a) rfl hT (sees_den hw) h'
  obtain⟨xs,h4,h5⟩:=wRes_ok hT hw h3
  refine⟨x :: xs,?_,h5⟩
  have hres:resultR P T σ.den (.cell a ty)=some (den σ.B.n x):=by
   unfold decLoad at h1
   unfold resultR
   have hg:opd (.tmp a) T=T.get a:=by simp only [opd,opdB,tmpB_eq]
   split at h1
   ·rename_i i hg1 hi1
    rw [with1_of rfl]at h1
    simp only [Option.some.injEq]at h1
    subst h1
    simp only [hg]at h2
    unfold xLdn at h2
    split at h2
    ·rename_i b o hp
     split at h2
     ·rename_i c hc
      split at h2
      ·rename_i l hl
       simp only [Option.some.injEq,Eff.val.injEq]at h2
       simp only [hg1,hi1,hp,hc,hl,h2]
      ·simp at h2
     ·simp at h2
    ·simp at h2
   ·rename_i i hg1 hi1
    rw [with1_of rfl]at h1
    simp only [Option.some.injEq]at h1
    subst h1
    simp only [hg]at h2
    unfold xLd1 at h2
    split at h2
    ·rename_i b o hp
     split at h2
     ·rename_i c hc
      obtain⟨y,hy,he⟩:=oval_ok h2
      simp only [Eff.val.injEq]at he
      simp only [hg1,hi1,hp,hc,hy,he]
     ·simp at h2
    ·simp at h2
   ·simp at h1
  unfold resultsR at h4 ⊢
  simp only [omap,hres,h4,denL]
omit [Env] in
theorem padS_get:∀(n:Nat) (l:List SV) (i:Nat),l.length≤n→((padS n l)[i]?).getD (.v undef)=(l[i]?).getD (.v undef)
 | 0,l,i,h=>rfl
 | n+1,[],i,h=>by
  cases i with
  | zero=>rfl
  | succ i=>simpa [padS] using padS_get n [] i (Nat.zero_le _)
 | n+1,x :: r,i,h=>by
  cases i with
  | zero=>rfl
  | succ i=>simpa [padS] using padS_get n r i (by simpa using h)
omit [Env] in
theorem padS_len:∀(n:Nat) (l:List SV),l.length≤n→(padS n l).length=n
 | 0,l,h=>by simpa [padS] using h
 | n+1,[],h=>by simp [padS,padS_len n [] (Nat.zero_le _)]
 | n+1,x :: r,h=>by simp [padS,padS_len n r (by simpa using h)]
theorem wFunE_to {fx:Nat} (hN:NoOwn P) (hC:KnowOk P ev0 C) {args:List SV} {B:RW} {L:List SObj} {Q:List SV→SMem→Prop} (hB:BOk B) (hfx:fx≤L.length) (h:wFunE P C A fx g args B L Q) :
  ∀(m:Nat→Loc) (w:World) (cs:List Frame),Rel m (SMem.den ⟨B,L.length,L⟩) w→belowL (B.n+L.length) (denL B.n args)=true →
  ∃xs σ m' w' fr,Q xs σ∧σ.B=B∧σ.Wf∧Steps P (lone (Frame.enter P g ((denL B.n args).map (rv m)).toArray .normal) cs w) (lone fr cs w')∧fr.leaving P w' (.returned (rv m' (den B.n (oneS xs))))∧fr.fn=g ∧
   Rel m' σ.den w'∧PostN (B.n+fx) m (SMem.den ⟨B,L.length,L⟩) w m' σ.den w'∧below σ.den.n (den B.n (oneS xs))=true:=by
 intro m w cs hr hb
 unfold wFunE at h
 split at h
 case h_2=>exact h.elim
 rename_i fn hfn
 split at h
 case h_2=>exact h.elim
 rename_i c hc
 rw [fnat_eq]at h
 have hlen:args.length≤max args.length fn.ntmps:=Nat.le_max_left _ _
 have htt:=TT_of B.n (padS (max args.length fn.ntmps) args)
 have hT:∀i,(RT.of (denL B.n (padS (max args.length fn.ntmps) args)) (padS (max args.length fn.ntmps) args).length).get i=((denL B.n args)[i]?).getD ud:=by
  intro i
  rw [htt.get i,padS_get _ _ _ hlen,denL_eq,List.getElem?_map]
  cases args[i]?<;>rfl
 have hTn:(RT.of (denL B.n (padS (max args.length fn.ntmps) args)) (padS (max args.length fn.ntmps) args).length).n=max (denL B.n args).length fn.ntmps:=by
  rw [htt.n,padS_len _ _ hlen,denL_len]
 have hcode:=wC_ok (g:=g) (rd:=none) (fx:=fx) hN hC hB c (t:=padS (max args.length fn.ntmps) args) (σ:=⟨B,L.length,L⟩) (s:=⟨_,SMem.den ⟨B,L.length,L⟩,[]⟩) ⟨rfl,rfl,rfl,⟨rfl⟩,htt⟩ h
 have hlt:tlt (SMem.den ⟨B,L.length,L⟩).n (RT.of (denL B.n (padS (max args.length fn.ntmps) args)) (padS (max args.length fn.ntmps) args).length):=by
  intro i
  rw [hT]
  cases hx:(denL B.n args)[i]? with
  | none=>rfl
  | some y=>exact(belowL_iff _ _).1 hb y (List.mem_of_getElem? hx)
 have hfr:FrX w.heap.size m ⟨RT.of (denL B.n (padS (max args.length fn.ntmps) args)) (padS (max args.length fn.ntmps) args).length,SMem.den ⟨B,L.length,L⟩,[]⟩ (Frame.enter P g ((denL B.n args).map (rv m)).toArray .normal) g none w:=
  FrX.enter hfn hT hTn
 have htodo:(Frame.enter P g ((denL B.n args).map (rv m)).toArray .normal).todo=.code c :: []:=by simp [Frame.enter,hfn,hc]
 obtain⟨ex,s,m1,w1,fr1,⟨t,σ,⟨h1,h2,h3,h4,h5⟩,h6⟩,st1,hr1,hlt1,hfr1,hp1,hk1,hleft⟩:=hcode w.heap.size m w _ cs [] (show B.n+fx≤B.n+L.length by omega) (by simp) hr hlt hfr htodo
 subst h3
 have key:(ex=.nrm∨ex=.ret)∧∃xs,resultsR P s.t s.W fn.results.toList=some (denL σ.B.n xs)∧Q xs σ:=by
  cases ex with
  | nrm=>obtain⟨xs,h8,h9⟩:=wRes_ok h5 h4 h6; exact⟨.inl rfl,xs,by rw [h1]; exact h8,h9⟩
  | ret=>obtain⟨xs,h8,h9⟩:=wRes_ok h5 h4 h6; exact⟨.inr rfl,xs,by rw [h1]; exact h8,h9⟩
  | exit id=>exact h6.elim
  | goto l=>exact h6.elim
 obtain⟨hex,xs,hxs,hQ⟩:=key
 obtain⟨w2,fr2,st2,g1,g2,g3,g4,g5⟩:=leaveTo (cs:=cs) hfn hex hr1 hlt1 hfr1 hp1 (hk1.trans rfl) hleft hxs
 rw [h1]at g3 g4 g5
 refine⟨xs,σ,m1,w2,fr2,hQ,rfl,h4,st1.trans st2,?_,g2,g3,g4,?_⟩
 ·rw [oneS_den]; exact g1
 ·rw [oneS_den]; exact g5
theorem wFun_ok (hN:NoOwn P) (hC:KnowOk P ev0 C) {args:List SV} {B:RW} {Q:SV→SMem→Prop} (hB:BOk B) (h:wFun P C A g args B Q) :
  CallTo P g (denL B.n args) B fun x W=>∃y σ,x=den B.n y∧W=σ.den∧σ.B=B∧σ.Wf∧Q y σ:=by
 intro m w cs hr hb
 have e0:SMem.den ⟨B,0,[]⟩=B:=by simp [SMem.den]
 obtain⟨xs,σ,m',w',fr,h1,h2,h3,h4,h5,h6,h7,h8,h9⟩:=wFunE_to hN hC hB (Nat.le_refl 0) h m w cs (by rw [show([]:List SObj).length=0 from rfl,e0]; exact hr) hb
 rw [show([]:List SObj).length=0 from rfl,e0]at h8
 exact⟨_,_,m',w',fr,⟨oneS xs,σ,rfl,rfl,h2,h3,h1⟩,h4,h5,h6,h7,h8.all,h9⟩
theorem wPure_ok (hN:NoOwn P) (hC:KnowOk P ev0 C) {args:List SV} {B:RW} {x:SV} (h:BOk B→wPure P C A g args B x):CallOk P g (denL B.n args) B (den B.n x) B:=by
 intro m w cs hr hb
 have hB:BOk B:=.of hr
 obtain⟨y,W',m',w',fr,⟨y',σ,rfl,rfl,rfl,hw,hq⟩,h1,h2,h3,h4,h5,h6⟩:=wFun_ok hN hC hB (h hB) m w cs hr hb
 obtain⟨h7,h8⟩:=eqS_ok σ.B.n hq
 have hw0:SMem.Wf ⟨σ.B,0,[]⟩:=⟨rfl⟩
 obtain⟨h9,_,_⟩:=visK_ok hw0 0 h8
 have h9':below σ.B.n (den σ.B.n x)=true:=h9
 have hget:∀b o,σ.B.get b=some o→σ.den.get b=some o:=by
  intro b o ho
  rw [denM_get hw,if_pos (get_lt ho)]
  exact ho
 refine⟨m',w',fr,h1,by rw [← h7]; exact h2,h3,?_,?_,h9'⟩
 ·exact h4.less hB.wf (fun b o ho=>.inr ⟨o,hget b o ho,.inr rfl⟩) hB.lt hB.glb
 ·exact h5.view (Nat.le_refl _) fun b o ho _=>hget b o ho
end
end Go.Rv
namespace Go.Rv
open Go
theorem Ob_iff {p:Prop}:Ob p↔p:=⟨fun h=>h.h,Ob.mk⟩
inductive Sc where
 | i (k:IntKind)
 | b
 | l (ks:List IntKind)
 | ll (ks:List IntKind)
 | e (k:IntKind) (n:Nat)
 | lx (ks:List IntKind)
 | f (gs:List FuncId)
 | tx
inductive Sh where
 | one (s:Sc)
 | agg (l:List Sc)
 | ptr (l:List Sc)
inductive Dat where
 | z (n:Int)
 | p (c:Prop)
 | l (rows:List (List Int))
 | ll (R:List (List (List Int)))
 | lx (x:RV) (rows:List (List Int))
noncomputable section
def codeB:List UInt8→Nat
 | []=>0
 | b :: r=>256*codeB r+b.toNat+1
def codeOf (s:ByteArray):Int:=codeB s.data.toList
open Classical in
def strOf (z:Int):ByteArray:=if h:∃s,codeOf s=z then Classical.choose h else ⟨#[]⟩
def rowF:List IntKind→Nat→(Nat→Int)→List SV
 | [],_,_=>[]
 | .i8 :: ks,j,f=>.p (f j=1) :: rowF ks (j+1) f
 | .u16 :: ks,j,f=>.v (.string (strOf (f j))) :: rowF ks (j+1) f
 | k :: ks,j,f=>.i k (f j) :: rowF ks (j+1) f
def cellS (k:IntKind) (z:Int):SV:=match k with
 | .i8=>.p (z=1)
 | .u16=>.v (.string (strOf z))
 | k=>.i k z
def cellI (k:IntKind) (x:RV):Option Int:=match k with
 | .i8=>match x with
  | .v (.bool b)=>some (if b then 1 else 0)
  | _=>none
 | .u16=>match x with
  | .v (.string s)=>some (codeOf s)
  | _=>none
 | k=>match x with
  | .v (.int j z)=>if j=k then some z else none
  | _=>none
def canC (k:IntKind) (z:Int):Prop:=match k with
 | .i8=>z=0∨z=1
 | .u16=>codeOf (strOf z)=z
 | _=>True
def canR:List IntKind→List Int→Prop
 | k :: ks,z :: r=>canC k z∧canR ks r
 | _,_=>True
def hasX:List IntKind→Bool
 | []=>false
 | .i8 :: _=>true
 | .u16 :: _=>true
 | _ :: r=>hasX r
def canA (ks:List IntKind) (rows:List (List Int)) (p:Prop):Prop:=match hasX ks with
 | true=>(∀r∈rows,canR ks r)→p
 | false=>p
def canK (ks:List IntKind) (rows:List (List Int)) (p:Prop):Prop:=match hasX ks with
 | true=>Ob (∀r∈rows,canR ks r)∧p
 | false=>p
def cell (rows:List (List Int)) (i j:Nat):Int:=(rows.getD i []).getD j 0
def rowS (ks:List IntKind) (r:List Int):List SV:=rowF ks 0 fun j=>r.getD j 0
def elemOf (ks:List IntKind) (rows:List (List Int)) (i:Nat):List SV:=rowF ks 0 fun j=>cell rows i j
def intsOf:List IntKind→List RV→Option (List Int)
 | [],[]=>some []
 | k :: ks,x :: r=>match cellI k x with
  | some z=>match intsOf ks r with
   | some zs=>some (z :: zs)
   | none=>none
  | none=>none
 | _,_=>none
def rowsAt (ks:List IntKind) (c:List RV):Nat→Nat→Option (List (List Int))
 | _,0=>some []
 | o,n+1=>match lcut c o ks.length with
  | some l=>match intsOf ks l,rowsAt ks c (o+ks.length) n with
   | some r,some rs=>some (r :: rs)
   | _,_=>none
  | none=>none
def readRows (W:RW) (ks:List IntKind) (x:RV):Option (List (List Int)):=match x with
 | .v (.slice none 0 0)=>some []
 | .sl b o n e=>if e=ks.length then match cellsAt W b with
   | some c=>if o≤c.length then rowsAt ks c o n else none
   | none=>none
  else none
 | _=>none
def listsAt (W:RW) (ks:List IntKind) (c:List RV):Nat→Nat→Option (List (List (List Int)))
 | _,0=>some []
 | o,n+1=>match lget c o with
  | some y=>match readRows W ks y,listsAt W ks c (o+1) n with
   | some r,some rs=>some (r :: rs)
   | _,_=>none
  | none=>none
def readLL (W:RW) (ks:List IntKind) (x:RV):Option (List (List (List Int))):=if hasX ks=true then none else match x with
 | .v (.slice none 0 0)=>some []
 | .sl b o n e=>if e=1 then match cellsAt W b with
   | some c=>if o≤c.length then listsAt W ks c o n else none
   | none=>none
  else none
 | _=>none
def llElem (ks:List IntKind) (ys:Nat→RV) (R:List (List (List Int))) (i:Nat):List SV:=[.lst (ys i) (R.getD i []).length ks.length (elemOf ks (R.getD i []))]
def IsLL (B:RW) (ks:List IntKind) (x:RV) (ys:Nat→RV) (R:List (List (List Int))):Prop:=
 IsLst B x R.length 1 (llElem ks ys R)∧∀i,i < R.length→IsLst B (ys i) (R.getD i []).length ks.length (elemOf ks (R.getD i []))∧oneB (ys i)=true∧∀row∈R.getD i [],row.length=ks.length
def readSc (W:RW) (s:Sc) (x:RV):Option Dat:=match s with
 | .i k=>match x with
  | .v (.int j z)=>if j=k then some (.z z)else none
  | _=>none
 | .b=>match x with
  | .v (.bool c)=>some (.p (c=true))
  | _=>none
 | .l ks=>match readRows W ks x with
  | some rows=>some (.l rows)
  | none=>none
 | .ll ks=>match readLL W ks x with
  | some R=>some (.ll R)
  | none=>none
 | .e k n=>match x with
  | .v (.int j z)=>if j=k∧0≤z∧z < n then some (.z z)else none
  | _=>none
 | .lx ks=>match readRows W ks x with
  | some rows=>some (.lx x rows)
  | none=>none
 | .f gs=>match x with
  | .v (.func (.func g) a c)=>if a.toList=[]∧c.toList=[]∧g∈gs then some (.z (.ofNat g))else none
  | _=>none
 | .tx=>match x with
  | .v (.string u)=>some (.z (codeOf u))
  | _=>none
def readScs (W:RW):List Sc→List RV→Option (List Dat)
 | [],[]=>some []
 | s :: r,x :: xs=>match readSc W s x,readScs W r xs with
  | some d,some ds=>some (d :: ds)
  | _,_=>none
 | _,_=>none
def readR (W:RW):List Sh→List RV→Option (List Dat)
 | [],[]=>some []
 | .one s :: r,x :: xs=>match readSc W s x,readR W r xs with
  | some d,some ds=>some (d :: ds)
  | _,_=>none
 | .agg l :: r,x :: xs=>match x with
  | .agg cs=>match readScs W l cs,readR W r xs with
   | some d,some ds=>some (d++ds)
   | _,_=>none
  | _=>none
 | .ptr l :: r,x :: xs=>match x with
  | .ptr b 0=>match cellsAt W b with
   | some cs=>match readScs W l cs,readR W r xs with
    | some d,some ds=>some (d++ds)
    | _,_=>none
   | none=>none
  | _=>none
 | _,_=>none
def cellInts:List IntKind→List SV→(List Int→Prop)→Prop
 | [],[],K=>K []
 | .i8 :: ks,x :: r,K=>match x with
  | .p c=>∃z:Int,Ob ((z=1↔c)∧(z=0∨z=1))∧cellInts ks r fun zs=>K (z :: zs)
  | .v (.bool b)=>match b with
   | true=>cellInts ks r fun zs=>K (1 :: zs)
   | false=>cellInts ks r fun zs=>K (0 :: zs)
  | _=>False
 | .u16 :: ks,x :: r,K=>match x with
  | .v (.string u)=>cellInts ks r fun zs=>K (codeOf u :: zs)
  | _=>False
 | k :: ks,x :: r,K=>asInt x fun j z=>match decEq j k with
  | .isTrue _=>cellInts ks r fun zs=>K (z :: zs)
  | .isFalse _=>False
 | _,_,_=>False
def cellRows (ks:List IntKind) (c:List SV):Nat→Nat→(List (List Int)→Prop)→Prop
 | _,0,K=>K []
 | o,n+1,K=>match lcut c o ks.length with
  | some l=>cellInts ks l fun r=>cellRows ks c (o+ks.length) n fun rs=>K (r :: rs)
  | none=>False
def sRows (σ:SMem) (ks:List IntKind) (x:SV) (K:List (List Int)→Prop):Prop:=match x with
 | .v (.slice none 0 0)=>K []
 | .lst y n sz e=>match Nat.beq sz ks.length with
  | true=>∃rows:List (List Int),Ob (IsLst σ.B y n sz e∧rows.length=n∧(∀r∈rows,r.length=ks.length)∧∀i,i < n→e i=elemOf ks rows i)∧canK ks rows (K rows)
  | false=>False
 | .sl k o n e=>match Nat.beq e ks.length with
  | true=>match σ.get k with
   | some (.cells c _)=>match Nat.ble o c.length with
    | true=>cellRows ks c o n K
    | false=>False
   | _=>False
  | false=>False
 | .gsl k n sz z=>match Nat.beq sz ks.length with
  | true=>match σ.get k with
   | some (.gr n' sz' e _ z')=>match Nat.beq sz' ks.length && (z || !z')with
    | true=>∃rows:List (List Int),Ob (n'=n∧rows.length=n∧(∀r∈rows,r.length=ks.length)∧∀i,i < n→e.at i=elemOf ks rows i)∧canK ks rows (K rows)
    | false=>match Nat.beq sz' ks.length && !z with
     | true=>∃rows:List (List Int),Ob (0 < n'∧n≤n'∧rows.length=n∧(∀r∈rows,r.length=ks.length)∧∀i,i < n→e.at i=elemOf ks rows i)∧canK ks rows (K rows)
     | false=>False
   | _=>False
  | false=>False
 | _=>False
def sLL (σ:SMem) (ks:List IntKind) (x:SV) (K:List (List (List Int))→Prop):Prop:=match hasX ks with
 | true=>False
 | false=>match x with
 | .v (.slice none 0 0)=>K []
 | .lst y n sz e=>match Nat.beq sz 1 with
  | true=>∃(R:List (List (List Int))) (ys:Nat→RV),Ob (R.length=n∧(∀i,i < n→e i=llElem ks ys R i)∧IsLL σ.B ks y ys R)∧K R
  | false=>False
 | _=>False
def hasG:List FuncId→FuncId→Bool
 | [],_=>false
 | g :: r,h=>match Nat.beq g h with
  | true=>true
  | false=>hasG r h
def sSc (σ:SMem) (s:Sc) (x:SV) (K:Dat→Prop):Prop:=match s with
 | .i k=>asInt x fun j z=>match decEq j k with
  | .isTrue _=>K (.z z)
  | .isFalse _=>False
 | .b=>match x with
  | .p c=>K (.p c)
  | .v (.bool c)=>K (.p (c=true))
  | _=>False
 | .l ks=>sRows σ ks x fun rows=>K (.l rows)
 | .ll ks=>sLL σ ks x fun R=>K (.ll R)
 | .e k n=>asInt x fun j z=>match decEq j k with
  | .isTrue _=>Ob (0≤z∧z < n)∧K (.z z)
  | .isFalse _=>False
 | .lx ks=>match x with
  | .lst y n sz e=>sRows σ ks (.lst y n sz e) fun rows=>K (.lx y rows)
  | _=>False
 | .f gs=>match x with
  | .v (.func (.func g) a c)=>match a.toList,c.toList with
   | [],[]=>match hasG gs g with
    | true=>K (.z (.ofNat g))
    | false=>False
   | _,_=>False
  | _=>False
 | .tx=>match x with
  | .v (.string u)=>K (.z (codeOf u))
  | _=>False
def sScs (σ:SMem):List Sc→List SV→(List Dat→Prop)→Prop
 | [],[],K=>K []
 | s :: r,x :: xs,K=>sSc σ s x fun d=>sScs σ r xs fun ds=>K (d :: ds)
 | _,_,_=>False
def sRead (σ:SMem):List Sh→List SV→(List Dat→Prop)→Prop
 | [],[],K=>K []
 | .one s :: r,x :: xs,K=>sSc σ s x fun d=>sRead σ r xs fun ds=>K (d :: ds)
 | .agg l :: r,x :: xs,K=>match x with
  | .agg cs=>sScs σ l cs fun d=>sRead σ r xs fun ds=>K (d++ds)
  | _=>False
 | .ptr l :: r,x :: xs,K=>match x with
  | .ptr k 0=>match σ.get k with
   | some (.cells c _)=>sScs σ l c fun d=>sRead σ r xs fun ds=>K (d++ds)
   | _=>False
  | _=>False
 | _,_,_=>False
structure Fn0 where
 g:FuncId
 sh:List Sh
 pre:List Dat→Prop
 sp:List Dat→SV
def Fn0.con (F:Fn0):Con:=⟨F.g,fun args σ K=>sRead σ F.sh args fun l=>Ob (F.pre l)∧K (F.sp l)⟩
open Classical in
def Fn0.f (F:Fn0) (args:List RV) (W:RW):Option RV:=match readR W F.sh args with
 | some l=>if F.pre l then some (den 0 (F.sp l))else none
 | none=>none
def runF:List Fn0→FuncId→List RV→RW→Option (RV×RW)
 | [],_,_,_=>none
 | F :: r,g,args,W=>match Nat.beq F.g g with
  | true=>match F.f args W with
   | some x=>some (x,W)
   | none=>none
  | false=>runF r g args W
@[reducible] def fnEnv (ids:List Nat) (l:List Fn0):Env:=⟨ids,runF l⟩
def Fn0.Ok (P:Program) (F:Fn0):Prop:=
 (∀(args:List RV) (W:RW) (l:List Dat),readR W F.sh args=some l→F.pre l→∀ids,@CallOk (plainEnv ids) P F.g args W (den 0 (F.sp l)) W)∧(∃fn,P.funcs[F.g]?=some fn∧fn.body.isSome=true)∧∀(l:List Dat) (N:Nat),den N (F.sp l)=den 0 (F.sp l)
def allN:Nat→(Nat→Prop)→Prop
 | 0,_=>True
 | n+1,K=>allN n K∧fnat n K
def allG:List FuncId→(FuncId→Prop)→Prop
 | [],_=>True
 | g :: r,K=>K g∧allG r K
def allScs (B:RW):List Sc→(List SV→List Dat→Prop)→Prop
 | [],K=>K [] []
 | .i k :: r,K=>∀n:Int,allScs B r fun as ds=>K (.i k n :: as) (.z n :: ds)
 | .b :: r,K=>∀c:Prop,allScs B r fun as ds=>K (.p c :: as) (.p c :: ds)
 | .l ks :: r,K=>∀(x:RV) (rows:List (List Int)),IsLst B x rows.length ks.length (elemOf ks rows)→oneB x=true→(∀row∈rows,row.length=ks.length)→canA ks rows (allScs B r fun as ds=>K (.lst x rows.length ks.length (elemOf ks rows) :: as) (.l rows :: ds))
 | .ll ks :: r,K=>∀(x:RV) (ys:Nat→RV) (R:List (List (List Int))),IsLL B ks x ys R→oneB x=true→allScs B r fun as ds=>K (.lst x R.length 1 (llElem ks ys R) :: as) (.ll R :: ds)
 | .e k n :: r,K=>allN n fun j=>allScs B r fun as ds=>K (.v (.int k (.ofNat j)) :: as) (.z (.ofNat j) :: ds)
 | .lx ks :: r,K=>∀(x:RV) (rows:List (List Int)),IsLst B x rows.length ks.length (elemOf ks rows)→oneB x=true→(∀row∈rows,row.length=ks.length)→canA ks rows (allScs B r fun as ds=>K (.lst x rows.length ks.length (elemOf ks rows) :: as) (.lx x rows :: ds))
 | .f gs :: r,K=>allG gs fun g=>allScs B r fun as ds=>K (.v (.func (.func g) #[] #[]) :: as) (.z (.ofNat g) :: ds)
 | .tx :: r,K=>∀u:ByteArray,allScs B r fun as ds=>K (.v (.string u) :: as) (.z (codeOf u) :: ds)
def allSh (B:RW):List Sh→(List SV→List Dat→Prop)→Prop
 | [],K=>K [] []
 | .one s :: r,K=>allScs B [s] fun a d=>allSh B r fun as ds=>K (a++as) (d++ds)
 | .agg l :: r,K=>allScs B l fun a d=>allSh B r fun as ds=>K (.agg a :: as) (d++ds)
 | .ptr l :: r,K=>∀x:RV,allScs B l fun a d=>IsLst B x 1 l.length (fun _=>a)→allSh B r fun as ds=>K (.elm x 1 l.length (fun _=>a) 0 0 :: as) (d++ds)
def needF (P:Program) (l:List Fn0) (A:List SV→List Dat→Nat→List SV→Ann) (F:Fn0):Prop:=
 ∀B:RW,allSh B F.sh fun as ds=>F.pre ds→@wPure (fnEnv [] l) P ⟨l.map Fn0.con,[],Ora.no⟩ (A as ds) F.g as B (F.sp ds)
end
theorem elemOf_eq (ks:List IntKind) (rows:List (List Int)) (i:Nat):elemOf ks rows i=rowS ks (rows.getD i []):=rfl
theorem codeB_inj:∀ {a b:List UInt8},codeB a=codeB b→a=b
 | [],[],_=>rfl
 | [],y :: b,h=>by simp only [codeB]at h; omega
 | x :: a,[],h=>by simp only [codeB]at h; omega
 | x :: a,y :: b,h=>by
  simp only [codeB]at h
  have hx:=x.toNat_lt
  have hy:=y.toNat_lt
  have h1:x.toNat=y.toNat:=by omega
  have h2:codeB a=codeB b:=by omega
  rw [UInt8.toNat_inj.1 h1,codeB_inj h2]
theorem codeOf_inj {a b:ByteArray} (h:codeOf a=codeOf b):a=b:=
 ByteArray.ext (Array.ext' (codeB_inj (by unfold codeOf at h; omega)))
theorem strOf_code (s:ByteArray):strOf (codeOf s)=s:=by
 have h:∃u,codeOf u=codeOf s:=⟨s,rfl⟩
 unfold strOf
 rw [dif_pos h]
 exact codeOf_inj (Classical.choose_spec h)
theorem cellI_den (N:Nat) (k:IntKind) (z:Int) (h:canC k z):cellI k (den N (cellS k z))=some z:=by
 cases k with
 | i8=>rcases h with rfl | rfl<;>simp [cellI,cellS,den]
 | u16=>show some (codeOf (strOf z))=some z; rw [show codeOf (strOf z)=z from h]
 | _=>simp [cellI,cellS,den]
theorem cellI_spec {k:IntKind} {x:RV} {z:Int} (h:cellI k x=some z):canC k z∧∀N,den N (cellS k z)=x:=by
 cases k with
 | i8 =>
  simp only [cellI]at h
  split at h
  ·rename_i b
   simp only [Option.some.injEq]at h
   subst h
   cases b
   ·exact⟨.inl rfl,fun N=>by simp [cellS,den]⟩
   ·exact⟨.inr rfl,fun N=>by simp [cellS,den]⟩
  ·simp at h
 | u16 =>
  simp only [cellI]at h
  split at h
  ·rename_i s
   simp only [Option.some.injEq]at h
   subst h
   exact⟨by show codeOf (strOf (codeOf s))=codeOf s; rw [strOf_code],fun N=>by show RV.v (.string (strOf (codeOf s)))=_; rw [strOf_code]⟩
  ·simp at h
 | _ =>
  simp only [cellI]at h
  split at h
  ·split at h
   ·rename_i hj
    subst hj
    simp only [Option.some.injEq]at h
    subst h
    exact⟨trivial,fun N=>rfl⟩
   ·simp at h
  ·simp at h
theorem canR_of:∀ {ks:List IntKind} (r:List Int),hasX ks=false→canR ks r
 | [],_,_=>trivial
 | _ :: _,[],_=>trivial
 | k :: ks,z :: r,h=>by
  cases k with
  | i8=>simp [hasX]at h
  | u16=>simp [hasX]at h
  | _=>exact⟨trivial,canR_of r h⟩
theorem canA_ok {ks:List IntKind} {rows:List (List Int)} {p:Prop} (h:canA ks rows p) (hc:∀r∈rows,canR ks r):p:=by
 unfold canA at h
 split at h
 ·exact h hc
 ·exact h
theorem canK_ok {ks:List IntKind} {rows:List (List Int)} {p:Prop} (h:canK ks rows p):(∀r∈rows,canR ks r)∧p:=by
 unfold canK at h
 split at h
 ·exact⟨h.1.h,h.2⟩
 ·rename_i hx
  exact⟨fun r _=>canR_of r hx,h⟩
theorem rowF_cons (k:IntKind) (ks:List IntKind) (j:Nat) (f:Nat→Int):rowF (k :: ks) j f=cellS k (f j) :: rowF ks (j+1) f:=by cases k<;>rfl
theorem rowF_len:∀(ks:List IntKind) (j:Nat) (f:Nat→Int),(rowF ks j f).length=ks.length
 | [],_,_=>rfl
 | _ :: ks,j,f=>by simp [rowF_cons,rowF_len ks (j+1) f]
theorem rowF_congr:∀(ks:List IntKind) (j k:Nat) (f g:Nat→Int),(∀i,f (j+i)=g (k+i))→rowF ks j f=rowF ks k g
 | [],_,_,_,_,_=>rfl
 | x :: ks,j,k,f,g,h=>by
  have h0:=h 0
  simp only [Nat.add_zero]at h0
  simp only [rowF_cons,h0]
  congr 1
  exact rowF_congr ks (j+1) (k+1) f g fun i=>by
   have:=h (1+i)
   rwa [← Nat.add_assoc,← Nat.add_assoc]at this
theorem rowS_cons (k:IntKind) (ks:List IntKind) (z:Int) (r:List Int):rowS (k :: ks) (z :: r)=cellS k z :: rowS ks r:=by
 unfold rowS
 rw [rowF_cons]
 congr 1
 exact rowF_congr ks 1 0 _ _ fun i=>by
  show(z :: r).getD (1+i) 0=r.getD (0+i) 0
  rw [Nat.add_comm 1 i,Nat.zero_add,List.getD_cons_succ]
theorem intsOf_rowS (N:Nat):∀(ks:List IntKind) (r:List Int),r.length=ks.length→canR ks r→intsOf ks (denL N (rowS ks r))=some r
 | [],[],_,_=>rfl
 | k :: ks,z :: r,h,hc=>by
  have:=intsOf_rowS N ks r (by simpa using h) hc.2
  simp only [rowS_cons,denL,intsOf,cellI_den N k z hc.1,this]
 | [],_ :: _,h,_=>by simp at h
 | _ :: _,[],h,_=>by simp at h
theorem intsOf_len:∀ {ks:List IntKind} {l:List RV} {r:List Int},intsOf ks l=some r→r.length=ks.length∧canR ks r∧∀N,denL N (rowS ks r)=l
 | [],[],r,h=>by
  simp only [intsOf,Option.some.injEq]at h
  subst h
  exact⟨rfl,trivial,fun _=>rfl⟩
 | k :: ks,x :: l,r,h=>by
  simp only [intsOf]at h
  split at h
  ·rename_i z hx
   split at h
   ·rename_i zs hz
    simp only [Option.some.injEq]at h
    subst h
    obtain⟨h1,h2,h3⟩:=intsOf_len hz
    obtain⟨h4,h5⟩:=cellI_spec hx
    exact⟨by simp [h1],⟨h4,h2⟩,fun N=>by simp only [rowS_cons,denL,h3 N,h5 N]⟩
   ·simp at h
  ·simp at h
 | [],_ :: _,r,h=>by simp [intsOf]at h
 | _ :: _,[],r,h=>by simp [intsOf]at h
theorem rowsAt_of {ks:List IntKind} {c:List RV} {N:Nat}:∀ {rows:List (List Int)} {o:Nat},(∀i,i < rows.length→lcut c (o+i*ks.length) ks.length=some (denL N (elemOf ks rows i)))→(∀r∈rows,r.length=ks.length)→(∀r∈rows,canR ks r) →
  rowsAt ks c o rows.length=some rows
 | [],o,h,hl,hc=>rfl
 | r :: rs,o,h,hl,hc=>by
  have h0:=h 0 (by simp)
  simp only [Nat.zero_mul,Nat.add_zero,elemOf_eq,List.getD_cons_zero]at h0
  have ih:=rowsAt_of (ks:=ks) (c:=c) (N:=N) (rows:=rs) (o:=o+ks.length) (fun i hi=>by
   have:=h (i+1) (by simpa using hi)
   simp only [elemOf_eq,List.getD_cons_succ]at this
   rw [← show o+(i+1)*ks.length=o+ks.length+i*ks.length by rw [Nat.add_mul]; omega]
   exact this) (fun r hr=>hl r (List.mem_cons_of_mem _ hr)) fun r hr=>hc r (List.mem_cons_of_mem _ hr)
  simp only [List.length_cons,rowsAt,h0,intsOf_rowS N ks r (hl r List.mem_cons_self) (hc r List.mem_cons_self),ih]
theorem rowsAt_spec {ks:List IntKind} {c:List RV}:∀ {n o:Nat} {rows:List (List Int)},rowsAt ks c o n=some rows→rows.length=n∧(∀r∈rows,r.length=ks.length)∧(∀r∈rows,canR ks r)∧∀N i,i < n→lcut c (o+i*ks.length) ks.length=some (denL N (elemOf ks rows i))
 | 0,o,rows,h=>by
  simp only [rowsAt,Option.some.injEq]at h
  subst h
  exact⟨rfl,by simp,by simp,fun N i hi=>by omega⟩
 | n+1,o,rows,h=>by
  simp only [rowsAt]at h
  split at h
  ·rename_i l hl
   split at h
   ·rename_i r rs hr hrs
    simp only [Option.some.injEq]at h
    subst h
    obtain⟨h1,hc1,h2⟩:=intsOf_len hr
    obtain⟨h3,h4,hc4,h5⟩:=rowsAt_spec hrs
    refine⟨by simp [h3],?_,?_,?_⟩
    ·intro x hx
     rcases List.mem_cons.1 hx with rfl | hx
     ·exact h1
     ·exact h4 x hx
    ·intro x hx
     rcases List.mem_cons.1 hx with rfl | hx
     ·exact hc1
     ·exact hc4 x hx
    ·intro N i hi
     cases i with
     | zero =>
      simp only [Nat.zero_mul,Nat.add_zero,elemOf_eq,List.getD_cons_zero,h2 N]
      exact hl
     | succ i =>
      have:=h5 N i (by omega)
      simp only [elemOf_eq,List.getD_cons_succ]at this ⊢
      rw [show o+(i+1)*ks.length=o+ks.length+i*ks.length by rw [Nat.add_mul]; omega]
      exact this
   ·simp at h
  ·simp at h
theorem readRows_lst {W:RW} {ks:List IntKind} {x:RV} {rows:List (List Int)} (h:readRows W ks x=some rows):IsLst W x rows.length ks.length (elemOf ks rows)∧oneB x=true∧∀r∈rows,r.length=ks.length:=by
 unfold readRows at h
 split at h
 ·simp only [Option.some.injEq]at h
  subst h
  exact⟨.inl ⟨rfl,rfl⟩,rfl,by simp⟩
 ·rename_i b o n e
  split at h
  ·rename_i he
   subst he
   split at h
   ·rename_i c hc
    split at h
    case isFalse=>simp at h
    rename_i hoc
    obtain⟨h1,h2,_,h3⟩:=rowsAt_spec h
    subst h1
    refine⟨.inr ⟨b,o,c,rfl,hc,hoc,fun i hi=>⟨?_,h3 _ i hi⟩⟩,rfl,h2⟩
    exact rowF_len _ _ _
   ·simp at h
  ·simp at h
 ·simp at h
theorem readRows_can {W:RW} {ks:List IntKind} {x:RV} {rows:List (List Int)} (h:readRows W ks x=some rows):∀r∈rows,canR ks r:=by
 unfold readRows at h
 split at h
 ·simp only [Option.some.injEq]at h
  subst h
  simp
 ·split at h
  ·split at h
   ·split at h
    case isFalse=>simp at h
    exact(rowsAt_spec h).2.2.1
   ·simp at h
  ·simp at h
 ·simp at h
theorem lcut_one {α:Type} {l:List α} {o:Nat} {y:α} (h:lget l o=some y):lcut l o 1=some [y]:=by
 rw [lget_eq]at h
 obtain⟨h1,h2⟩:=List.getElem?_eq_some_iff.1 h
 rw [lcut_some (by omega),List.drop_eq_getElem_cons h1,h2]
 rfl
theorem lget_of_cut {α:Type} {l:List α} {o:Nat} {y:α} (h:lcut l o 1=some [y]):lget l o=some y:=by
 obtain⟨h1,h2⟩:=lcut_spec h
 have h3:o < l.length:=by omega
 rw [lget_eq]
 rw [List.drop_eq_getElem_cons h3]at h2
 simp only [List.take_succ_cons,List.take_zero,List.cons.injEq,and_true]at h2
 rw [List.getElem?_eq_getElem h3,h2]
theorem listsAt_of {W:RW} {ks:List IntKind} {c:List RV} {ys:Nat→RV}:∀ {R:List (List (List Int))} {o k:Nat},(∀i,i < R.length→lget c (o+i)=some (ys (k+i))∧readRows W ks (ys (k+i))=some (R.getD i []))→listsAt W ks c o R.length=some R
 | [],o,k,h=>rfl
 | r :: rs,o,k,h=>by
  obtain⟨h0,h1⟩:=h 0 (by simp)
  simp only [Nat.add_zero,List.getD_cons_zero]at h0 h1
  have ih:=listsAt_of (W:=W) (ks:=ks) (c:=c) (ys:=ys) (R:=rs) (o:=o+1) (k:=k+1) fun i hi=>by
   have:=h (i+1) (by simpa using hi)
   simp only [List.getD_cons_succ]at this
   rw [show o+1+i=o+(i+1)by omega,show k+1+i=k+(i+1)by omega]
   exact this
  simp only [List.length_cons,listsAt,h0,h1,ih]
theorem listsAt_spec {W:RW} {ks:List IntKind} {c:List RV}:∀ {n o:Nat} {R:List (List (List Int))},listsAt W ks c o n=some R→R.length=n∧∀i,i < n→∃y,lget c (o+i)=some y∧readRows W ks y=some (R.getD i [])
 | 0,o,R,h=>by
  simp only [listsAt,Option.some.injEq]at h
  subst h
  exact⟨rfl,fun i hi=>by omega⟩
 | n+1,o,R,h=>by
  simp only [listsAt]at h
  split at h
  ·rename_i y hy
   split at h
   ·rename_i r rs hr hrs
    simp only [Option.some.injEq]at h
    subst h
    obtain⟨h1,h2⟩:=listsAt_spec hrs
    refine⟨by simp [h1],fun i hi=>?_⟩
    cases i with
    | zero=>exact⟨y,hy,by rw [List.getD_cons_zero]; exact hr⟩
    | succ i =>
     obtain⟨z,h3,h4⟩:=h2 i (by omega)
     exact⟨z,by rw [show o+(i+1)=o+1+i by omega]; exact h3,by rw [List.getD_cons_succ]; exact h4⟩
   ·simp at h
  ·simp at h
theorem readLL_is {W:RW} {ks:List IntKind} {x:RV} {R:List (List (List Int))} (h:readLL W ks x=some R):(∃ys,IsLL W ks x ys R)∧oneB x=true:=by
 unfold readLL at h
 split at h
 ·simp at h
 split at h
 ·simp only [Option.some.injEq]at h
  subst h
  exact⟨⟨fun _=>.v undef,.inl ⟨rfl,rfl⟩,fun i hi=>absurd hi (Nat.not_lt_zero i)⟩,rfl⟩
 ·rename_i b o n e
  split at h
  ·rename_i he
   subst he
   split at h
   ·rename_i c hc
    split at h
    case isFalse=>simp at h
    rename_i hoc
    obtain⟨h1,h2⟩:=listsAt_spec h
    subst h1
    have hy:∀i,i < R.length→lget c (o+i)=some ((lget c (o+i)).getD (.v undef))∧readRows W ks ((lget c (o+i)).getD (.v undef))=some (R.getD i []):=fun i hi=>by
     obtain⟨y,h3,h4⟩:=h2 i hi
     rw [h3]
     exact⟨rfl,h4⟩
    refine⟨⟨fun i=>(lget c (o+i)).getD (.v undef),.inr ⟨b,o,c,rfl,hc,hoc,fun i hi=>⟨rfl,?_⟩⟩,fun i hi=>readRows_lst (hy i hi).2⟩,rfl⟩
    rw [Nat.mul_one]
    exact lcut_one (hy i hi).1
   ·simp at h
  ·simp at h
 ·simp at h
section
variable {σ:SMem} {W:RW}
theorem rows_of_lst (hW:Sees W σ) {ks:List IntKind} {y:RV} {rows:List (List Int)} (h1:IsLst σ.B y rows.length ks.length (elemOf ks rows)) (h3:∀r∈rows,r.length=ks.length) (h4:∀r∈rows,canR ks r):readRows W ks y=some rows:=by
 rcases h1 with ⟨rfl,h2⟩ | ⟨b,o,c,rfl,hc,hoc,hh⟩
 ·have:rows=[]:=List.eq_nil_of_length_eq_zero h2
  subst this
  rfl
 ·simp only [readRows,if_true,hW.base b c hc,if_pos hoc]
  exact rowsAt_of (N:=σ.B.n) (fun i hi=>(hh i hi).2) h3 h4
theorem sLL_ok (hW:Sees W σ) {ks:List IntKind} {x:SV} {K:List (List (List Int))→Prop} (h:sLL σ ks x K):∃R,readLL W ks (den σ.B.n x)=some R∧K R:=by
 unfold sLL at h
 split at h
 ·exact h.elim
 rename_i hx
 split at h
 ·refine⟨[],?_,h⟩
  show readLL W ks (.v (.slice none 0 0))=_
  unfold readLL
  rw [if_neg (by rw [hx]; exact Bool.noConfusion)]
  rfl
 ·rename_i y n sz e
  split at h
  ·rename_i hs
   have hs':=Nat.eq_of_beq_eq_true hs
   subst hs'
   obtain⟨R,ys,⟨rfl,h2,h3,h4⟩,h5⟩:=h
   refine⟨R,?_,h5⟩
   show readLL W ks y=some R
   rcases h3 with ⟨rfl,h6⟩ | ⟨b,o,c,rfl,hc,hoc,hh⟩
   ·have:R=[]:=List.eq_nil_of_length_eq_zero h6
    subst this
    unfold readLL
    rw [if_neg (by rw [hx]; exact Bool.noConfusion)]
    rfl
   ·simp only [readLL,hx,Bool.false_eq_true,if_false,if_true,hW.base b c hc,if_pos hoc]
    refine listsAt_of (ys:=ys) (k:=0) fun i hi=>?_
    rw [Nat.zero_add]
    obtain⟨h7,_,h8⟩:=h4 i hi
    refine⟨?_,rows_of_lst hW h7 h8 fun r _=>canR_of r hx⟩
    have:=(hh i hi).2
    rw [Nat.mul_one]at this
    exact lget_of_cut this
  ·exact h.elim
 ·exact h.elim
theorem cellInts_ok (N:Nat):∀ {ks:List IntKind} {l:List SV} {K:List Int→Prop},cellInts ks l K→∃r,intsOf ks (denL N l)=some r∧K r
 | [],[],K,h=>⟨[],rfl,h⟩
 | k :: ks,x :: r,K,h=>by
  have fin:∀z:Int,cellI k (den N x)=some z→cellInts ks r (fun zs=>K (z :: zs))→∃r',intsOf (k :: ks) (denL N (x :: r))=some r'∧K r':=fun z h1 h2=>by
   obtain⟨zs,h3,h4⟩:=cellInts_ok N h2
   exact⟨z :: zs,by simp only [denL,intsOf,h1,h3],h4⟩
  cases k with
  | i8 =>
   simp only [cellInts]at h
   split at h
   ·obtain⟨z,⟨h1,h2⟩,h3⟩:=h
    refine fin z ?_ h3
    rename_i c
    show some (if @decide c (Classical.propDecidable c)=true then (1:Int)else 0)=some z
    by_cases hc:c
    ·simp [hc,h1.2 hc]
    ·rcases h2 with rfl | rfl
     ·simp [hc]
     ·exact absurd (h1.1 rfl) hc
   ·split at h
    ·exact fin 1 rfl h
    ·exact fin 0 rfl h
   ·exact h.elim
  | u16 =>
   simp only [cellInts]at h
   split at h
   ·exact fin _ rfl h
   ·exact h.elim
  | _ =>
   obtain⟨j,z,h1,h2⟩:=asInt_ok (show asInt x _ from h)
   split at h2
   ·rename_i hj _
    subst hj
    exact fin z (by rw [h1 N]; simp [cellI]) h2
   ·exact h2.elim
 | [],_ :: _,K,h=>h.elim
 | k :: _,[],K,h=>by cases k<;>exact False.elim h
theorem cellRows_ok (N:Nat) {ks:List IntKind} {c:List SV}:∀ {n o:Nat} {K:List (List Int)→Prop},cellRows ks c o n K→∃rows,rowsAt ks (denL N c) o n=some rows∧K rows
 | 0,o,K,h=>⟨[],rfl,h⟩
 | n+1,o,K,h=>by
  simp only [cellRows]at h
  split at h
  ·rename_i l hl
   obtain⟨r,h1,h2⟩:=cellInts_ok N h
   obtain⟨rs,h3,h4⟩:=cellRows_ok N h2
   exact⟨r :: rs,by simp only [rowsAt,lcut_denL N hl,h1,h3],h4⟩
  ·exact h.elim
theorem sRows_ok (hW:Sees W σ) {ks:List IntKind} {x:SV} {K:List (List Int)→Prop} (h:sRows σ ks x K):∃rows,readRows W ks (den σ.B.n x)=some rows∧K rows:=by
 unfold sRows at h
 split at h
 ·exact⟨[],rfl,h⟩
 ·rename_i y n sz e
  split at h
  ·rename_i hs
   have hs':=Nat.eq_of_beq_eq_true hs
   subst hs'
   obtain⟨rows,⟨h1,h2,h3,h4⟩,h5⟩:=h
   obtain⟨hcan,h5⟩:=canK_ok h5
   refine⟨rows,?_,h5⟩
   rcases h1 with ⟨rfl,rfl⟩ | ⟨b,o,c,rfl,hc,hoc,hh⟩
   ·have:rows=[]:=List.eq_nil_of_length_eq_zero h2
    subst this
    rfl
   ·subst h2
    simp only [den,readRows,if_true,hW.base b c hc,if_pos hoc]
    refine rowsAt_of (N:=σ.B.n) (fun i hi=>?_) h3 hcan
    rw [← h4 i hi]
    exact(hh i hi).2
  ·exact h.elim
 ·rename_i k o n e
  split at h
  ·rename_i he
   have he':=Nat.eq_of_beq_eq_true he
   subst he'
   split at h
   ·rename_i c kd hk
    split at h
    ·rename_i hoc
     rw [Nat.ble_eq]at hoc
     obtain⟨rows,h1,h2⟩:=cellRows_ok σ.B.n h
     exact⟨rows,by simp only [den,readRows,if_true,hW.loc k c kd hk,denL_len,if_pos hoc,h1],h2⟩
    ·exact h.elim
   ·exact h.elim
  ·exact h.elim
 ·rename_i k n sz z
  split at h
  ·rename_i he
   have he':=Nat.eq_of_beq_eq_true he
   subst he'
   split at h
   ·rename_i n' sz' e kd z' hk
    split at h
    ·rename_i hz
     rw [Bool.and_eq_true]at hz
     have hs:=Nat.eq_of_beq_eq_true hz.1
     subst hs
     obtain⟨rows,⟨rfl,h2,h3,h4⟩,h5⟩:=h
     obtain⟨hcan,h5⟩:=canK_ok h5
     refine⟨rows,?_,h5⟩
     by_cases hd:z=true∧n'=0
     ·have:rows=[]:=List.eq_nil_of_length_eq_zero (h2.trans hd.2)
      subst this
      rw [show den σ.B.n (.gsl k n' ks.length z)=.v (.slice none 0 0)from if_pos hd]
      rfl
     ·have hz':z'=true→0 < n':=by
       intro e
       subst e
       have:z=true:=by simpa using hz.2
       have:n'≠0:=fun e=>hd ⟨this,e⟩
       omega
      have hc:=hW.alive k n' ks.length e kd z' hk hz'
      rw [show den σ.B.n (.gsl k n' ks.length z)=.sl (σ.B.n+k) 0 n' ks.length from if_neg hd]
      simp only [readRows,if_true,hc,Nat.zero_le]
      subst h2
      refine rowsAt_of (N:=σ.B.n) (fun i hi=>?_) h3 hcan
      rw [← h4 i hi]
      have:=gcells_cut (N:=σ.B.n) (n:=rows.length) (sz:=ks.length) (e:=e) (f:=0) (m:=ks.length) (l:=e.at i) hi (by omega) (lcut_full (by rw [h4 i hi]; exact rowF_len _ _ _))
      simpa using this
    ·split at h
     ·rename_i hz
      rw [Bool.and_eq_true]at hz
      have hs:=Nat.eq_of_beq_eq_true hz.1
      subst hs
      have hzf:z=false:=by simpa using hz.2
      subst hzf
      obtain⟨rows,⟨h0,h1,h2,h3,h4⟩,h5⟩:=h
      obtain⟨hcan,h5⟩:=canK_ok h5
      refine⟨rows,?_,h5⟩
      have hc:=hW.alive k n' ks.length e kd z' hk fun _=>h0
      rw [show den σ.B.n (.gsl k n ks.length false)=.sl (σ.B.n+k) 0 n ks.length from if_neg (by simp)]
      simp only [readRows,if_true,hc,Nat.zero_le]
      subst h2
      refine rowsAt_of (N:=σ.B.n) (fun i hi=>?_) h3 hcan
      rw [← h4 i hi]
      have:=gcells_cut (N:=σ.B.n) (n:=n') (sz:=ks.length) (e:=e) (f:=0) (m:=ks.length) (l:=e.at i) (by omega) (by omega) (lcut_full (by rw [h4 i hi]; exact rowF_len _ _ _))
      simpa using this
     ·exact h.elim
   ·exact h.elim
  ·exact h.elim
 ·exact h.elim
theorem hasG_ok:∀ {gs:List FuncId} {g:FuncId},hasG gs g=true→g∈gs
 | [],_,h=>by simp [hasG]at h
 | g' :: r,g,h=>by
  unfold hasG at h
  split at h
  ·rename_i e
   have:=Nat.eq_of_beq_eq_true e
   subst this
   exact List.mem_cons_self
  ·exact List.mem_cons_of_mem _ (hasG_ok h)
theorem allG_ok:∀ {gs:List FuncId} {K:FuncId→Prop},allG gs K→∀g∈gs,K g
 | [],_,_,g,hg=>by simp at hg
 | g' :: r,K,h,g,hg=>by
  rcases List.mem_cons.1 hg with rfl | hg
  ·exact h.1
  ·exact allG_ok h.2 g hg
theorem sSc_ok (hW:Sees W σ) {s:Sc} {x:SV} {K:Dat→Prop} (h:sSc σ s x K):∃d,readSc W s (den σ.B.n x)=some d∧K d:=by
 unfold sSc at h
 split at h
 ·obtain⟨j,z,h1,h2⟩:=asInt_ok h
  split at h2
  ·rename_i hj _
   subst hj
   exact⟨_,by simp only [readSc,h1 σ.B.n,if_true],h2⟩
  ·exact h2.elim
 ·split at h
  ·rename_i c
   refine⟨_,rfl,?_⟩
   have:(@decide c (Classical.propDecidable c)=true)=c:=propext (by simp)
   rw [this]
   exact h
  ·exact⟨_,rfl,h⟩
  ·exact h.elim
 ·obtain⟨rows,h1,h2⟩:=sRows_ok hW h
  exact⟨_,by simp only [readSc,h1],h2⟩
 ·obtain⟨R,h1,h2⟩:=sLL_ok hW h
  exact⟨_,by simp only [readSc,h1],h2⟩
 ·obtain⟨j,z,h1,h2⟩:=asInt_ok h
  split at h2
  ·rename_i hj _
   subst hj
   obtain⟨⟨h3⟩,h4⟩:=h2
   exact⟨_,by simp only [readSc,h1 σ.B.n]; rw [if_pos ⟨trivial,h3⟩],h4⟩
  ·exact h2.elim
 ·split at h
  ·rename_i y n sz e
   obtain⟨rows,h1,h2⟩:=sRows_ok hW h
   have h1':readRows W _ y=some rows:=h1
   exact⟨_,by simp only [readSc,den,h1'],h2⟩
  ·exact h.elim
 ·split at h
  ·rename_i g a c
   split at h
   ·rename_i ha hc
    split at h
    ·rename_i hg
     exact⟨_,by simp only [readSc,den]; rw [if_pos ⟨ha,hc,hasG_ok hg⟩],h⟩
    ·exact h.elim
   ·exact h.elim
  ·exact h.elim
 ·split at h
  ·exact⟨_,rfl,h⟩
  ·exact h.elim
theorem sScs_ok (hW:Sees W σ):∀ {ss:List Sc} {xs:List SV} {K:List Dat→Prop},sScs σ ss xs K→∃ds,readScs W ss (denL σ.B.n xs)=some ds∧K ds
 | [],[],K,h=>⟨[],rfl,h⟩
 | s :: r,x :: xs,K,h=>by
  obtain⟨d,h1,h2⟩:=sSc_ok hW (show sSc σ s x _ from h)
  obtain⟨ds,h3,h4⟩:=sScs_ok hW h2
  exact⟨d :: ds,by simp only [denL,readScs,h1,h3],h4⟩
 | [],_ :: _,K,h=>h.elim
 | _ :: _,[],K,h=>h.elim
theorem sRead_ok (hW:Sees W σ):∀ {sh:List Sh} {xs:List SV} {K:List Dat→Prop},sRead σ sh xs K→∃ds,readR W sh (denL σ.B.n xs)=some ds∧K ds
 | [],[],K,h=>⟨[],rfl,h⟩
 | .one s :: r,x :: xs,K,h=>by
  obtain⟨d,h1,h2⟩:=sSc_ok hW (show sSc σ s x _ from h)
  obtain⟨ds,h3,h4⟩:=sRead_ok hW h2
  exact⟨d :: ds,by simp only [denL,readR,h1,h3],h4⟩
 | .agg l :: r,x :: xs,K,h=>by
  cases x with
  | agg cs =>
   obtain⟨d,h1,h2⟩:=sScs_ok hW (show sScs σ l cs _ from h)
   obtain⟨ds,h3,h4⟩:=sRead_ok hW h2
   exact⟨d++ds,by simp only [denL,den,readR,h1,h3],h4⟩
  | _=>exact h.elim
 | .ptr l :: r,x :: xs,K,h=>by
  unfold sRead at h
  split at h
  ·rename_i k
   split at h
   ·rename_i c kd hk
    obtain⟨d,h1,h2⟩:=sScs_ok hW h
    obtain⟨ds,h3,h4⟩:=sRead_ok hW h2
    exact⟨d++ds,by simp only [denL,den,readR,hW.loc k c kd hk,h1,h3],h4⟩
   ·exact h.elim
  ·exact h.elim
 | [],_ :: _,K,h=>h.elim
 | .one _ :: _,[],K,h=>h.elim
 | .agg _ :: _,[],K,h=>h.elim
 | .ptr _ :: _,[],K,h=>h.elim
end
theorem readScs_len {W:RW}:∀ {ss:List Sc} {xs:List RV} {ds:List Dat},readScs W ss xs=some ds→xs.length=ss.length
 | [],[],ds,h=>rfl
 | s :: r,x :: xs,ds,h=>by
  simp only [readScs]at h
  split at h
  ·rename_i d ds' h1 h2
   simp [readScs_len h2]
  ·simp at h
 | [],_ :: _,ds,h=>by simp [readScs]at h
 | _ :: _,[],ds,h=>by simp [readScs]at h
theorem runF_mem:∀ {l:List Fn0} {g:FuncId} {args:List RV} {W:RW} {q:RV×RW},runF l g args W=some q→∃F∈l,F.g=g∧q.2=W∧F.f args W=some q.1
 | [],g,args,W,q,h=>by simp [runF]at h
 | F :: r,g,args,W,q,h=>by
  unfold runF at h
  split at h
  ·rename_i hg
   split at h
   ·rename_i x hx
    simp only [Option.some.injEq]at h
    subst h
    exact⟨F,List.mem_cons_self,Nat.eq_of_beq_eq_true hg,rfl,hx⟩
   ·simp at h
  ·obtain⟨F',h1,h2⟩:=runF_mem h
   exact⟨F',List.mem_cons_of_mem _ h1,h2⟩
theorem noOwn_fn {P:Program} (h:Named P) {l:List Fn0} (hl:∀F∈l,F.Ok P) (ids:List Nat):@NoOwn (fnEnv ids l) P:=by
 refine @NoOwn.mk (fnEnv ids l) P h ?_
 intro g args W x W' hx
 obtain⟨F,h1,rfl,h3,h4⟩:=runF_mem (show runF l g args W=some (x,W')from hx)
 simp only at h3 h4
 subst h3
 unfold Fn0.f at h4
 split at h4
 ·rename_i ds hds
  split at h4
  ·rename_i hpre
   simp only [Option.some.injEq]at h4
   subst h4
   exact⟨@conv_ok (plainEnv ids) (fnEnv ids l) rfl P _ _ _ _ _ ((hl F h1).1 args _ ds hds hpre ids),(hl F h1).2.1⟩
  ·simp at h4
 ·simp at h4
def distinct:List Fn0→Bool
 | []=>true
 | F :: r=>r.all (fun G=>!Nat.beq G.g F.g) && distinct r
theorem runF_of:∀ {l:List Fn0} {F:Fn0} {args:List RV} {W:RW} {x:RV},distinct l=true→F∈l→F.f args W=some x→runF l F.g args W=some (x,W)
 | [],F,args,W,x,hd,hm,h=>by simp at hm
 | G :: r,F,args,W,x,hd,hm,h=>by
  simp only [distinct,Bool.and_eq_true,List.all_eq_true]at hd
  unfold runF
  rcases List.mem_cons.1 hm with rfl | hm
  ·simp only [Nat.beq_refl,h]
  ·have:=hd.1 F hm
   have hne:Nat.beq G.g F.g=false:=by
    cases hb:Nat.beq G.g F.g with
    | false=>rfl
    | true =>
     have e:=Nat.eq_of_beq_eq_true hb
     rw [e,Nat.beq_refl]at this
     simp at this
   simp only [hne]
   exact runF_of hd.2 hm h
theorem consOk_fn {P:Program} {l:List Fn0} (hd:distinct l=true) (hl:∀F∈l,F.Ok P) (ids:List Nat):@ConsOk (fnEnv ids l) P (@ev0) (l.map Fn0.con):=by
 intro con hcon args σ W K hW h
 obtain⟨F,hF,rfl⟩:=List.mem_map.1 hcon
 obtain⟨ds,h1,⟨hpre⟩,h2⟩:=sRead_ok hW (show sRead σ F.sh args _ from h)
 refine⟨F.sp ds,?_,h2⟩
 have hf:F.f (denL σ.B.n args) W=some (den 0 (F.sp ds)):=by
  unfold Fn0.f
  rw [h1]
  simp only [if_pos hpre]
 unfold callF
 have:@Env.ext (fnEnv ids l) F.con.g (denL σ.B.n args) W=some (den 0 (F.sp ds),W):=runF_of hd hF hf
 rw [this]
 show some (den 0 (F.sp ds),W)=_
 rw [(hl F hF).2.2 ds σ.B.n]
theorem knowOk_fn {P:Program} {l:List Fn0} (hd:distinct l=true) (hl:∀F∈l,F.Ok P) (ids:List Nat):@KnowOk (fnEnv ids l) P (@ev0) ⟨l.map Fn0.con,[],Ora.no⟩:=
 @KnowOk.mk (fnEnv ids l) P (@ev0) _ (consOk_fn hd hl ids) (@OraOk.no (fnEnv ids l) P) (fun con h=>by simp at h)
theorem allN_ok:∀ {n:Nat} {K:Nat→Prop},allN n K→∀j,j < n→K j
 | 0,_,_,j,h=>absurd h (Nat.not_lt_zero j)
 | n+1,K,h,j,hj=>by
  unfold allN at h
  rw [fnat_eq]at h
  by_cases e:j=n
  ·subst e; exact h.2
  ·exact allN_ok h.1 j (by omega)
theorem allScs_ok {W:RW}:∀ {ss:List Sc} {xs:List RV} {ds:List Dat} {K:List SV→List Dat→Prop},readScs W ss xs=some ds→allScs W ss K→∃as,denL W.n as=xs∧K as ds
 | [],[],ds,K,h,hK=>by
  simp only [readScs,Option.some.injEq]at h
  subst h
  exact⟨[],rfl,hK⟩
 | s :: r,x :: xs,ds,K,h,hK=>by
  simp only [readScs]at h
  split at h
  ·rename_i d ds' h1 h2
   simp only [Option.some.injEq]at h
   subst h
   cases s with
   | i k =>
    simp only [readSc]at h1
    split at h1
    ·rename_i j z
     split at h1
     ·rename_i hj
      subst hj
      simp only [Option.some.injEq]at h1
      subst h1
      obtain⟨as,h3,h4⟩:=allScs_ok h2 ((show ∀n:Int,_ from hK) z)
      exact⟨_,by simp only [denL,den,h3],h4⟩
     ·simp at h1
    ·simp at h1
   | b =>
    simp only [readSc]at h1
    split at h1
    ·rename_i c
     simp only [Option.some.injEq]at h1
     subst h1
     obtain⟨as,h3,h4⟩:=allScs_ok h2 ((show ∀c:Prop,_ from hK) (c=true))
     exact⟨_,by simp only [denL,den,h3]; congr 2; simp,h4⟩
    ·simp at h1
   | l ks =>
    simp only [readSc]at h1
    split at h1
    ·rename_i rows hr
     simp only [Option.some.injEq]at h1
     subst h1
     obtain⟨h5,h6,h7⟩:=readRows_lst hr
     obtain⟨as,h3,h4⟩:=allScs_ok h2 (canA_ok ((show ∀(x:RV) (rows:List (List Int)),_ from hK) x rows h5 h6 h7) (readRows_can hr))
     exact⟨_,by simp only [denL,den,h3],h4⟩
    ·simp at h1
   | ll ks =>
    simp only [readSc]at h1
    split at h1
    ·rename_i R hr
     simp only [Option.some.injEq]at h1
     subst h1
     obtain⟨⟨ys,h5⟩,h6⟩:=readLL_is hr
     obtain⟨as,h3,h4⟩:=allScs_ok h2 ((show ∀(x:RV) (ys:Nat→RV) (R:List (List (List Int))),_ from hK) x ys R h5 h6)
     exact⟨_,by simp only [denL,den,h3],h4⟩
    ·simp at h1
   | e k n =>
    simp only [readSc]at h1
    split at h1
    ·rename_i j z
     split at h1
     ·rename_i hj
      obtain⟨rfl,hz,hzn⟩:=hj
      simp only [Option.some.injEq]at h1
      subst h1
      obtain⟨q,rfl⟩:=Int.eq_ofNat_of_zero_le hz
      obtain⟨as,h3,h4⟩:=allScs_ok h2 (allN_ok (show allN n _ from hK) q (by omega))
      exact⟨_,by simp only [denL,den,h3]; rfl,h4⟩
     ·simp at h1
    ·simp at h1
   | lx ks =>
    simp only [readSc]at h1
    split at h1
    ·rename_i rows hr
     simp only [Option.some.injEq]at h1
     subst h1
     obtain⟨h5,h6,h7⟩:=readRows_lst hr
     obtain⟨as,h3,h4⟩:=allScs_ok h2 (canA_ok ((show ∀(x:RV) (rows:List (List Int)),_ from hK) x rows h5 h6 h7) (readRows_can hr))
     exact⟨_,by simp only [denL,den,h3],h4⟩
    ·simp at h1
   | f gs =>
    simp only [readSc]at h1
    split at h1
    ·rename_i g a c
     split at h1
     ·rename_i hj
      obtain⟨ha,hc,hg⟩:=hj
      simp only [Option.some.injEq]at h1
      subst h1
      have ea:a=#[]:=Array.toList_eq_nil_iff.1 ha
      have ec:c=#[]:=Array.toList_eq_nil_iff.1 hc
      subst ea ec
      obtain⟨as,h3,h4⟩:=allScs_ok h2 (allG_ok (show allG gs _ from hK) g hg)
      exact⟨_,by simp only [denL,den,h3],h4⟩
     ·simp at h1
    ·simp at h1
   | tx =>
    simp only [readSc]at h1
    split at h1
    ·rename_i u
     simp only [Option.some.injEq]at h1
     subst h1
     obtain⟨as,h3,h4⟩:=allScs_ok h2 ((show ∀u:ByteArray,_ from hK) u)
     exact⟨_,by simp only [denL,den,h3],h4⟩
    ·simp at h1
  ·simp at h
 | [],_ :: _,ds,K,h,hK=>by simp [readScs]at h
 | _ :: _,[],ds,K,h,hK=>by simp [readScs]at h
theorem denL_append (N:Nat) (a b:List SV):denL N (a++b)=denL N a++denL N b:=by simp [denL_eq]
theorem allSh_ok {W:RW}:∀ {sh:List Sh} {xs:List RV} {ds:List Dat} {K:List SV→List Dat→Prop},readR W sh xs=some ds→allSh W sh K→∃as,denL W.n as=xs∧K as ds
 | [],[],ds,K,h,hK=>by
  simp only [readR,Option.some.injEq]at h
  subst h
  exact⟨[],rfl,hK⟩
 | .one s :: r,x :: xs,ds,K,h,hK=>by
  simp only [readR]at h
  split at h
  ·rename_i d ds' h1 h2
   simp only [Option.some.injEq]at h
   subst h
   have h1':readScs W [s] [x]=some [d]:=by simp only [readScs,h1]
   obtain⟨a,h3,h4⟩:=allScs_ok h1' (show allScs W [s] _ from hK)
   obtain⟨as,h5,h6⟩:=allSh_ok h2 h4
   exact⟨_,by rw [denL_append,h3,h5]; rfl,h6⟩
  ·simp at h
 | .agg l :: r,x :: xs,ds,K,h,hK=>by
  simp only [readR]at h
  split at h
  ·rename_i cs
   split at h
   ·rename_i d ds' h1 h2
    simp only [Option.some.injEq]at h
    subst h
    obtain⟨a,h3,h4⟩:=allScs_ok h1 (show allScs W l _ from hK)
    obtain⟨as,h5,h6⟩:=allSh_ok h2 h4
    exact⟨_,by simp only [denL,den,h3,h5],h6⟩
   ·simp at h
  ·simp at h
 | .ptr l :: r,x :: xs,ds,K,h,hK=>by
  simp only [readR]at h
  split at h
  ·rename_i b
   split at h
   ·rename_i cs hcs
    split at h
    ·rename_i d ds' h1 h2
     simp only [Option.some.injEq]at h
     subst h
     have hl:=readScs_len h1
     obtain⟨a,h3,h4⟩:=allScs_ok h1 ((show ∀x:RV,allScs W l _ from hK) (.sl b 0 1 l.length))
     have hal:a.length=l.length:=by
      have:(denL W.n a).length=cs.length:=by rw [h3]
      rw [denL_len]at this
      omega
     obtain⟨as,h5,h6⟩:=allSh_ok h2 (h4 (.inr ⟨b,0,cs,rfl,hcs,Nat.zero_le _,fun i hi=>⟨hal,by
      have e:i=0:=by omega
      subst e
      rw [h3,Nat.zero_mul]
      exact lcut_full hl⟩⟩))
     refine⟨_,?_,h6⟩
     simp only [denL,den,h5,blkOf,offOf,Nat.zero_mul,Nat.add_zero]
    ·simp at h
   ·simp at h
  ·simp at h
 | [],_ :: _,ds,K,h,hK=>by simp [readR]at h
 | .one _ :: _,[],ds,K,h,hK=>by simp [readR]at h
 | .agg _ :: _,[],ds,K,h,hK=>by simp [readR]at h
 | .ptr _ :: _,[],ds,K,h,hK=>by simp [readR]at h
theorem Rel.bare {e:Env} {m:Nat→Loc} {W:RW} {w:World} (h:@Rel e m W w):@Rel (plainEnv []) m W w:=by
 cases h with
 | mk h1 h2 h3 h4 h5=>exact @Rel.mk (plainEnv []) m W w h1 h2 h3 h4 (by
   intro i g hi
   have hi':([]:List Nat)[i]?=some g:=hi
   simp at hi')
theorem Rel.dress {e:Env} {m m':Nat→Loc} {W:RW} {w w':World} (h:@Rel (plainEnv []) m' W w') (hr:@Rel e m W w) (ha:Agree W.n m m'):@Rel e m' W w':=by
 cases h with
 | mk h1 h2 h3 h4 h5 =>
  refine @Rel.mk e m' W w' h1 h2 h3 h4 ?_
  intro i g hi
  obtain⟨k1,k2⟩:=@Rel.glb e _ _ _ hr i g hi
  exact⟨k1,by rw [ha i k1]; exact k2⟩
theorem Fn0.ok {P:Program} (hP:Named P) {l:List Fn0} (hd:distinct l=true) (hl:∀F∈l,F.Ok P) {A:List SV→List Dat→Nat→List SV→Ann} {F:Fn0} (hb:(P.funcs[F.g]?).any (fun fn=>fn.body.isSome)=true) (hs:∀(ds:List Dat) (N:Nat),den N (F.sp ds)=den 0 (F.sp ds))
  (h:Ob (needF P l A F)):F.Ok P:=by
 obtain⟨h⟩:=h
 refine⟨?_,?_,hs⟩
 ·intro args W ds hr hpre ids
  obtain⟨as,h1,h2⟩:=allSh_ok hr (h W)
  have h3:=@wPure_ok (fnEnv [] l) P _ (A as ds) F.g (noOwn_fn hP hl []) (knowOk_fn hd hl []) as W (F.sp ds) (fun _=>h2 hpre)
  rw [h1,hs]at h3
  have h4:@CallOk (plainEnv []) P F.g args W (den 0 (F.sp ds)) W:=@conv_ok (fnEnv [] l) (plainEnv []) rfl P _ _ _ _ _ h3
  intro m w cs hrel hb
  have hrel0:@Rel (plainEnv []) m W w:=Rel.bare hrel
  obtain⟨m',w',fr,g1,g2,g3,g4,g5,g6⟩:=h4 m w cs hrel0 hb
  refine⟨m',w',fr,g1,g2,g3,?_,g5,g6⟩
  exact Rel.dress g4 hrel g5.ag
 ·cases hg:P.funcs[F.g]? with
  | none=>rw [hg]at hb; simp at hb
  | some fn=>exact⟨fn,rfl,by rw [hg]at hb; simpa using hb⟩
end Go.Rv
namespace Go.Rv
open Go
noncomputable section
mutual
def shiftS (n:Nat):SV→SV
 | .ptr k o=>.ptr (n+k) o
 | .sl k o m e=>.sl (n+k) o m e
 | .gsl k m e z=>.gsl (n+k) m e z
 | .gel k sz i f=>.gel (n+k) sz i f
 | .fv g ks=>.fv g (ks.map fun k=>n+k)
 | .yl k=>.yl (n+k)
 | .mp k=>.mp (n+k)
 | .bf g s=>.bf g (shiftS n s)
 | .agg cs=>.agg (shiftL n cs)
 | .tup cs=>.tup (shiftL n cs)
 | x=>x
def shiftL (n:Nat):List SV→List SV
 | []=>[]
 | x :: r=>shiftS n x :: shiftL n r
end
def shiftO (n:Nat):SObj→SObj
 | .dead=>.dead
 | .cells c k=>.cells (shiftL n c) k
 | .gr m sz e k z=>.gr m sz e k z
 | .lp st p R=>.lp st p R
 | .mp ks c ro=>.mp ks (shiftL n c) ro
structure Alt where
 c:List Dat→Prop
 is:List SV→Bool
 res:List Dat→List SV
 obj:List Dat→List SObj
 cel:List Dat→List SV
def isNil (xs:List SV):Bool:=match xs with
 | .v (.slice none 0 0) :: _=>true
 | _=>false
structure FnE where
 g:FuncId
 blk:Option (List Sc)
 sh:List Sh
 pre:List Dat→Prop
 res:List Dat→List SV
 obj:List Dat→List SObj
 cel:List Dat→List SV
 gen:Bool:=false
 alt:Option Alt:=none
 px:Option (List (Int×FuncId)):=none
def FnE.named (F:FnE):FnE:={ F with gen:=true }
def gen1 (x:SV) (K:SV→Prop):Prop:=match x with
 | .i k z=>∀v:Int,v=z→K (.i k v)
 | x=>K x
def genL:List SV→(List SV→Prop)→Prop
 | [],K=>K []
 | x :: r,K=>gen1 x fun x=>genL r fun r=>K (x :: r)
def genA (x:SV) (K:SV→Prop):Prop:=match x with
 | .agg cs=>genL cs fun cs=>K (.agg cs)
 | x=>gen1 x K
def genAL:List SV→(List SV→Prop)→Prop
 | [],K=>K []
 | x :: r,K=>genA x fun x=>genAL r fun r=>K (x :: r)
def genS (g:Bool) (x:SV) (K:SV→Prop):Prop:=match g with
 | true=>match x with
  | .tup cs=>genAL cs fun cs=>K (.tup cs)
  | x=>genA x K
 | false=>K x
def genC (g:Bool) (l:List SV) (K:List SV→Prop):Prop:=match g with
 | true=>genL l K
 | false=>K l
def pushL (W:RW) (l:List RObj):RW:=⟨W.n+l.length,l++W.l⟩
open Classical in
def FnE.resA (F:FnE) (d:List Dat):List SV:=match F.alt with
 | none=>F.res d
 | some a=>if a.c d then a.res d else F.res d
open Classical in
def FnE.objA (F:FnE) (d:List Dat):List SObj:=match F.alt with
 | none=>F.obj d
 | some a=>if a.c d then a.obj d else F.obj d
open Classical in
def FnE.celA (F:FnE) (d:List Dat):List SV:=match F.alt with
 | none=>F.cel d
 | some a=>if a.c d then a.cel d else F.cel d
def FnE.fork (F:FnE) (d:List Dat) (V:List SV→List SObj→List SV→Prop):Prop:=match F.alt with
 | none=>V (F.res d) (F.obj d) (F.cel d)
 | some ⟨c,_,res,obj,cel⟩=>(c d→V (res d) (obj d) (cel d))∧(¬ c d→V (F.res d) (F.obj d) (F.cel d))
def FnE.ends (F:FnE) (d:List Dat) (xs:List SV) (V:List SV→List SObj→List SV→Prop):Prop:=match F.alt with
 | none=>V (F.res d) (F.obj d) (F.cel d)
 | some ⟨c,is,res,obj,cel⟩=>match is xs with
  | true=>Ob (c d)∧V (res d) (obj d) (cel d)
  | false=>Ob (¬ c d)∧V (F.res d) (F.obj d) (F.cel d)
def pxMap (x:RV) (tab:List (Int×FuncId)):RObj:=.map (tab.zipIdx.map fun e=>(.v (.int .i64 e.1.1),.fn (.func e.1.2) [x] [],e.2)) tab.length false
def pxL (a:SV):List (Int×FuncId)→List SV
 | []=>[]
 | x :: r=>.bf x.2 a :: pxL a r
def pxK:List (Int×FuncId)→List Int
 | []=>[]
 | x :: r=>x.1 :: pxK r
open Classical in
def FnE.run (F:FnE) (args:List RV) (W:RW):Option (RV×RW):=match F.px with
 | some tab=>match args with
  | [x]=>some (.mp W.n,W.push (pxMap x tab))
  | _=>none
 | none=>match F.blk with
  | none=>match readR W F.sh args with
   | some d=>if F.pre d then some (den W.n (oneS (F.resA d)),pushL W ((F.objA d).map (denO W.n)))else none
   | none=>none
  | some ss=>match args with
   | .ptr b 0 :: rest=>match W.get b with
    | some (.cells c .ex)=>match W.set b .dead with
     | some Wd=>match readScs Wd ss c,readR Wd F.sh rest with
      | some d0,some d=>if F.pre (d0++d)then match W.set b (.cells (denL W.n (F.celA (d0++d))) .ex)with
        | some W1=>some (den W.n (oneS (F.resA (d0++d))),pushL W1 ((F.objA (d0++d)).map (denO W.n)))
        | none=>none
       else none
      | _,_=>none
     | none=>none
    | _=>none
   | _=>none
def pushAll (σ:SMem) (l:List SObj) (K:Nat→SMem→Prop):Prop:=match σ with
 | ⟨B,n,L⟩=>fnat n fun n=>fnat (n+l.length) fun n2=>K n ⟨B,n2,l.map (shiftO n)++L⟩
def FnE.con (F:FnE):ConE:=⟨F.g,fun args σ K=>match F.px with
 | some tab=>match args with
  | [.ptr k 0]=>match Nat.blt k σ.n with
   | true=>pushK σ (.mp (pxK tab) (pxL (.ptr k 0) tab) false) fun k σ=>K (.mp k) σ
   | false=>False
  | _=>False
 | none=>match F.blk with
  | none=>sRead σ F.sh args fun d=>Ob (F.pre d)∧F.fork d fun res obj _=>pushAll σ obj fun n σ=>genS F.gen (shiftS n (oneS res)) fun x=>K x σ
  | some ss=>match args with
   | .ptr k 0 :: rest=>match σ.get k with
    | some (.cells c .ex)=>setK σ k .dead fun σd=>sScs σd ss c fun d0=>sRead σd F.sh rest fun d=>Ob (F.pre (d0++d)) ∧
      F.fork (d0++d) fun res obj cel=>genC F.gen (shiftL σ.n cel) fun cel=>setK σ k (.cells cel .ex) fun σ1=>pushAll σ1 obj fun n σ2=>genS F.gen (shiftS n (oneS res)) fun x=>K x σ2
    | _=>False
   | _=>False⟩
def runEs:List FnE→FuncId→List RV→RW→Option (RV×RW)
 | [],_,_,_=>none
 | F :: r,g,args,W=>match Nat.beq F.g g with
  | true=>F.run args W
  | false=>runEs r g args W
@[reducible] def fnEnv2 (ids:List Nat) (l:List Fn0) (e:List FnE):Env:=⟨ids,fun g args W=>match runF l g args W with
 | some q=>some q
 | none=>runEs e g args W⟩
def FnE.Ok (P:Program) (F:FnE):Prop:=
 (∀(args:List RV) (W W':RW) (x:RV),F.run args W=some (x,W')→∀ids,@CallOk (plainEnv ids) P F.g args W x W')∧(∃fn,P.funcs[F.g]?=some fn∧fn.body.isSome=true)∧∀ds,F.pre ds→∀o∈F.objA ds,∀n sz e k z,o=SObj.gr n sz e k z→PlainE n e
def distinctE:List FnE→Bool
 | []=>true
 | F :: r=>r.all (fun G=>!Nat.beq G.g F.g) && distinctE r
def apartB (l:List Fn0) (e:List FnE):Bool:=e.all fun F=>l.all fun G=>!Nat.beq G.g F.g
def somes:List SV→List (Option SV)
 | []=>[]
 | x :: r=>some x :: somes r
def needE (P:Program) (l:List Fn0) (e:List FnE) (A:List SV→List Dat→Nat→List SV→Ann) (F:FnE):Prop:=match F.blk with
 | none=>∀B:RW,allSh B F.sh fun as ds=>F.pre ds→@wFunE (fnEnv2 [] l e) P ⟨l.map Fn0.con,e.map FnE.con,Ora.no⟩ (A as ds) 0 F.g as B [] fun xs σ =>
   F.ends ds xs fun res obj _=>wView 0 B (somes res) obj xs σ
 | some ss=>∀B:RW,allScs B ss fun cs d0=>allSh B F.sh fun as ds=>F.pre (d0++ds)→@wFunE (fnEnv2 [] l e) P ⟨l.map Fn0.con,e.map FnE.con,Ora.no⟩ (A (.agg cs :: as) (d0++ds)) 1 F.g (.ptr 0 0 :: as) B [.cells cs .ex] fun xs σ =>
   F.ends (d0++ds) xs fun res obj cel=>wView 1 B (somes (shiftL 1 res)) (obj.map (shiftO 1)++[.cells (shiftL 1 cel) .ex]) xs σ
end
mutual
theorem den_shift (N n:Nat):∀x:SV,den N (shiftS n x)=den (N+n) x
 | .v x=>rfl
 | .i k z=>rfl
 | .p c=>rfl
 | .raw x=>rfl
 | .ptr k o=>by simp only [shiftS,den,Nat.add_assoc]
 | .sl k o m e=>by simp only [shiftS,den,Nat.add_assoc]
 | .gsl k m e z=>by simp only [shiftS,den,Nat.add_assoc]
 | .gel k sz i f=>by simp only [shiftS,den,Nat.add_assoc]
 | .fv g ks=>by simp only [shiftS,den,List.map_map,Function.comp_def,Nat.add_assoc]
 | .yl k=>by simp only [shiftS,den,Nat.add_assoc]
 | .mp k=>by simp only [shiftS,den,Nat.add_assoc]
 | .bf g s=>by simp only [shiftS,den,den_shift N n s]
 | .lst x n sz e=>rfl
 | .elm x n sz e i f=>rfl
 | .agg cs=>by simp only [shiftS,den,denL_shift N n cs]
 | .tup cs=>by simp only [shiftS,den,denL_shift N n cs]
 | .rv x=>rfl
theorem denL_shift (N n:Nat):∀l:List SV,denL N (shiftL n l)=denL (N+n) l
 | []=>rfl
 | x :: r=>by simp only [shiftL,denL,den_shift N n x,denL_shift N n r]
end
def plainG (o:SObj):Prop:=∀n sz e k z,o=.gr n sz e k z→PlainE n e
def plainO (o:SObj):Prop:=plainG o∧(∀st p R,o≠.lp st p R)∧∀ks c ro,o≠.mp ks c ro
theorem gcells_any (N N':Nat) {n sz:Nat} {e:El} (h:PlainE n e):gcells N n sz e=gcells N' n sz e:=by
 unfold gcells
 apply List.map_congr_left
 intro q hq
 have hq':q < n*sz:=by simpa using hq
 cases hc:(e.at (q / sz))[q % sz]? with
 | none=>rfl
 | some y =>
  obtain⟨v,h1,h2⟩:=plain1_ok (h (q / sz) (Nat.div_lt_of_lt_mul (by rw [Nat.mul_comm]; exact hq')) y (List.mem_of_getElem? hc))
  simp only [Option.getD_some,h1]
theorem shiftL_len (n:Nat):∀l:List SV,(shiftL n l).length=l.length
 | []=>rfl
 | x :: r=>by simp only [shiftL,List.length_cons,shiftL_len n r]
theorem mapEs_shift (N n:Nat):∀(ks:List Int) (c:List SV) (i:Nat),mapEs N i ks (shiftL n c)=mapEs (N+n) i ks c
 | k :: ks,x :: c,i=>by simp only [shiftL,mapEs,den_shift,mapEs_shift N n ks c]
 | [],_,_=>by simp [mapEs]
 | _ :: _,[],_=>by simp [mapEs,shiftL]
theorem denO_shift (N n:Nat) {o:SObj} (h:plainG o):denO N (shiftO n o)=denO (N+n) o:=by
 cases o with
 | dead=>rfl
 | cells c k=>simp only [shiftO,denO,denL_shift]
 | gr m sz e k z=>simp only [shiftO,denO,gcells_any N (N+n) (h m sz e k z rfl)]
 | lp st p R=>rfl
 | mp ks c ro=>simp only [shiftO,denO,mapEs_shift,shiftL_len]
theorem gen1_ok {x:SV} {K:SV→Prop} (h:gen1 x K):K x:=by
 unfold gen1 at h
 split at h
 ·exact h _ rfl
 ·exact h
theorem genL_ok:∀ {l:List SV} {K:List SV→Prop},genL l K→K l
 | [],_,h=>h
 | x :: r,K,h=>genL_ok (K:=fun r=>K (x :: r)) (gen1_ok (K:=fun x=>genL r fun r=>K (x :: r)) h)
theorem genA_ok {x:SV} {K:SV→Prop} (h:genA x K):K x:=by
 unfold genA at h
 split at h
 ·exact genL_ok (K:=fun cs=>K (.agg cs)) h
 ·exact gen1_ok h
theorem genAL_ok:∀ {l:List SV} {K:List SV→Prop},genAL l K→K l
 | [],_,h=>h
 | x :: r,K,h=>genAL_ok (K:=fun r=>K (x :: r)) (genA_ok (K:=fun x=>genAL r fun r=>K (x :: r)) h)
theorem genS_ok {g:Bool} {x:SV} {K:SV→Prop} (h:genS g x K):K x:=by
 unfold genS at h
 split at h
 ·split at h
  ·exact genAL_ok (K:=fun cs=>K (.tup cs)) h
  ·exact genA_ok h
 ·exact h
theorem genC_ok {g:Bool} {l:List SV} {K:List SV→Prop} (h:genC g l K):K l:=by
 unfold genC at h
 split at h
 ·exact genL_ok h
 ·exact h
theorem FnE.Ok.named {P:Program} {F:FnE} (h:F.Ok P):F.named.Ok P:=h
theorem pushAll_ok {σ:SMem} {l:List SObj} {K:Nat→SMem→Prop} (hw:σ.Wf) (hl:∀o∈l,plainG o) (h:pushAll σ l K) :
  ∃σ',σ'.den=pushL σ.den (l.map (denO σ.den.n))∧σ'.B=σ.B∧σ'.Wf∧K σ.n σ':=by
 obtain⟨B,n,L⟩:=σ
 simp only [pushAll,fnat_eq]at h
 have hlen:L.length=n:=hw.len
 refine⟨⟨B,n+l.length,l.map (shiftO n)++L⟩,?_,rfl,⟨?_⟩,h⟩
 ·have e1:(l.map (shiftO n)).map (denO B.n)=l.map (denO (B.n+n)):=by
   rw [List.map_map]
   exact List.map_congr_left fun o ho=>denO_shift B.n n (hl o ho)
  simp only [SMem.den,pushL,List.map_append,e1,List.length_map,List.append_assoc,Nat.add_assoc]
 ·simp only [List.length_append,List.length_map,hlen]
  omega
section
variable {P:Program}
theorem pxL_len (a:SV):∀tab,(pxL a tab).length=tab.length
 | []=>rfl
 | x :: r=>by simp only [pxL,List.length_cons,pxL_len a r]
theorem px_es (N:Nat) (a:SV):∀(tab:List (Int×FuncId)) (i:Nat),mapEs N i (pxK tab) (pxL a tab)=(tab.zipIdx i).map fun e=>(.v (.int .i64 e.1.1),.fn (.func e.1.2) [den N a] [],e.2)
 | [],i=>rfl
 | x :: r,i=>by
  simp only [pxK,pxL,mapEs,List.zipIdx_cons,List.map_cons,px_es N a r (i+1),den]
theorem FnE.fork_ok {F:FnE} {d:List Dat} {V:List SV→List SObj→List SV→Prop} (h:F.fork d V):V (F.resA d) (F.objA d) (F.celA d):=by
 unfold FnE.fork at h
 unfold FnE.resA FnE.objA FnE.celA
 split at h
 ·rename_i ha; simp only [ha]; exact h
 ·rename_i c is res obj cel ha
  simp only [ha]
  by_cases hc:c d
  ·simp only [if_pos hc]; exact h.1 hc
  ·simp only [if_neg hc]; exact h.2 hc
theorem FnE.ends_ok {F:FnE} {d:List Dat} {xs:List SV} {V:List SV→List SObj→List SV→Prop} (h:F.ends d xs V):V (F.resA d) (F.objA d) (F.celA d):=by
 unfold FnE.ends at h
 unfold FnE.resA FnE.objA FnE.celA
 split at h
 ·rename_i ha; simp only [ha]; exact h
 ·rename_i c is res obj cel ha
  simp only [ha]
  split at h
  ·simp only [if_pos h.1.h]; exact h.2
  ·simp only [if_neg h.1.h]; exact h.2
theorem FnE.con_ok {F:FnE} (hF:F.Ok P) {args:List SV} {σ:SMem} {K:SV→SMem→Prop} (hw:σ.Wf) (h:F.con.w args σ K) :
  ∃x σ',F.run (denL σ.B.n args) σ.den=some (den σ.B.n x,σ'.den)∧σ'.B=σ.B∧σ'.Wf∧K x σ':=by
 unfold FnE.con at h
 simp only at h
 unfold FnE.run
 split at h
 ·rename_i tab hpx
  split at h
  case h_2=>exact h.elim
  rename_i k
  split at h
  case h_2=>exact h.elim
  have h1:=pushK_ok h
  refine⟨_,_,?_,?_,?_,h1⟩
  rotate_left 1
  ·rfl
  ·exact⟨by simp [hw.len]⟩
  ·rw [den_push]
   simp only [denL,den,denO]
   congr 3
   unfold pxMap
   rw [pxL_len]
   congr 1
   rw [px_es]
   rfl
 split at h
 ·rename_i hb
  obtain⟨d,h1,⟨hpre⟩,h2⟩:=sRead_ok (sees_den hw) h
  obtain⟨σ',h3,h4,h5,h6⟩:=pushAll_ok hw (fun o ho=>hF.2.2 d hpre o ho) (FnE.fork_ok h2)
  refine⟨_,σ',?_,h4,h5,genS_ok (K:=fun x=>K x σ') h6⟩
  simp only [h1,if_pos hpre,h3,den_shift]
  rfl
 ·rename_i ss hb
  split at h
  ·rename_i k rest
   split at h
   ·rename_i c hc
    obtain⟨σd,hd1,hd2,hd3,hd4⟩:=setK_ok hw h
    obtain⟨d0,h1,h2⟩:=sScs_ok (sees_den hd3) hd4
    obtain⟨d,h3,⟨hpre⟩,h4⟩:=sRead_ok (sees_den hd3) h2
    obtain⟨σ1,h5,h6,h7,h8⟩:=setK_ok hw (genC_ok (FnE.fork_ok h4))
    obtain⟨σ2,h9,h10,h11,h12⟩:=pushAll_ok h7 (fun o ho=>hF.2.2 _ hpre o ho) h8
    rw [hd2]at h1 h3
    have hget:σ.den.get (σ.B.n+k)=some (.cells (denL σ.B.n c) .ex):=by
     rw [denM_get hw,if_neg (by omega),Nat.add_sub_cancel_left,hc]; rfl
    have hn1:σ1.den.n=σ.den.n:=(set_spec h5).1
    have hn0:σ.den.n=σ.B.n+σ.n:=rfl
    have hn:σ1.n=σ.n:=by
     have h13:σ1.B.n+σ1.n=σ.B.n+σ.n:=hn1
     rw [h6]at h13
     omega
    refine⟨_,σ2,?_,h10.trans h6,h11,genS_ok (K:=fun x=>K x σ2) h12⟩
    have hd1':σ.den.set (σ.B.n+k) .dead=some σd.den:=hd1
    have hcel:σ.den.set (σ.B.n+k) (.cells (denL σ.den.n (F.celA (d0++d))) .ex)=some σ1.den:=by
     rw [hn0,← denL_shift]
     exact h5
    simp only [denL,den,hget,hd1',h1,h3,if_pos hpre,hcel,h9,hn1,den_shift,hn]
    rfl
   ·exact h.elim
  ·exact h.elim
end
theorem somes_get:∀(l:List SV) (i:Nat),(somes l)[i]?=(l[i]?).map some
 | [],i=>by simp [somes]
 | x :: r,0=>by simp [somes]
 | x :: r,i+1=>by simp [somes,somes_get r i]
theorem visM_nomp {al:Option Nat} {σ:SMem}:∀ {M:List SObj} {p:Prop},visM al σ M p→∀o∈M,∀ks c ro,o≠.mp ks c ro
 | .mp _ _ _ :: r,p,h=>h.elim
 | .dead :: r,p,h=>fun o ho=>by
  rcases List.mem_cons.1 ho with rfl | ho
  ·simp
  ·exact visM_nomp (show visM al σ r p from h) o ho
 | .cells c k :: r,p,h=>fun o ho=>by
  rcases List.mem_cons.1 ho with rfl | ho
  ·simp
  ·obtain⟨_,h2⟩:=visC_nm (show visC σ c (visM al σ r p)from h)
   exact visM_nomp h2 o ho
 | .gr n sz e k z :: r,p,h=>fun o ho=>by
  rcases List.mem_cons.1 ho with rfl | ho
  ·simp
  ·have h2:visM al σ r p:=by
    unfold visM at h
    split at h
    ·split at h
     ·exact h.2
     ·exact h.elim
    ·exact h.2
   exact visM_nomp h2 o ho
 | .lp st pd R :: r,p,h=>fun o ho=>by
  rcases List.mem_cons.1 ho with rfl | ho
  ·simp
  ·have h2:visM al σ r p:=by
    unfold visM at h
    split at h
    ·exact h.2
    ·exact h.elim
   exact visM_nomp h2 o ho
 | [],_,_=>fun o ho=>by simp at ho
theorem wView_vis {fx:Nat} {B:RW} {pt:List (Option SV)} {M:List SObj} {t:List SV} {σ:SMem} (h:wView fx B pt M t σ) :
  pt.length=t.length∧fx≤M.length∧(∀(i:Nat) (x:SV),pt[i]?=some (some x)→nmA B.n x∧below (B.n+M.length) (den B.n x)=true) ∧
   ∀o∈M,(denO B.n o).lt (B.n+M.length)∧(∀c k,o=.cells c k→∀y∈c,nm1 B.n y)∧plainO o:=by
 unfold wView wViewA at h
 rw [fnat_eq,fpos_eq]at h
 split at h
 ·rename_i hc
  simp only [Bool.and_eq_true]at hc
  obtain⟨_,hlen,hfx⟩:=hc
  have hlen:=Nat.eq_of_beq_eq_true hlen
  obtain⟨hfx1,_⟩:=fixB_ok hfx
  obtain⟨h1,h2,h3⟩:=fitsT_ok (N:=B.n) h
  obtain⟨h5,h6⟩:=fitsM_ok (N:=B.n) h3
  have hw2:SMem.Wf ⟨B,M.length,M⟩:=⟨rfl⟩
  obtain⟨h7,h8⟩:=visTs_ok hw2 h6
  obtain⟨h9,_⟩:=visM_ok hw2 (al:=none) (fun f hf=>by simp at hf) h8
  exact⟨h1,by omega,h7,fun o ho=>⟨(h9 o ho).1,(h9 o ho).2.1,fun n sz e k z he=>((h9 o ho).2.2.1 n sz e k z he).2 rfl,⟨fun st p R e=>by
   obtain⟨f,hf,_⟩:=(h9 o ho).2.2.2 st p R e
   simp at hf,visM_nomp h8 o ho⟩⟩⟩
 ·exact h.elim
structure Low (N fx:Nat) (m2 m3:Nat→Loc):Prop where
 lo:∀a,a < N→m3 a=m2 a
 up:∀j,m3 (N+j)=m2 (N+fx+j)
theorem Low.agree {N fx:Nat} {m2 m3:Nat→Loc} (h:Low N fx m2 m3):Agree N m2 m3:=h.lo
theorem Low.one {N fx:Nat} {m2 m3:Nat→Loc} (h:Low N fx m2 m3) {y:SV} (hn:nm1 N y):rv m3 (den N y)=rv m2 (den (N+fx) y):=by
 cases y with
 | lst z n sz e=>exact rv_agree h.agree _ hn
 | elm z n sz e i f=>simp only [den,rv,h.lo _ hn.2]
 | ptr k o=>simp only [den,rv,h.up]
 | sl k o n e=>simp only [den,rv,h.up]
 | gel k sz i f=>simp only [den,rv,h.up]
 | fv g ks=>simp only [den,rv,rvL_eq,List.map_map,Function.comp_def,h.up]; rfl
 | yl k=>simp only [den,rv,h.up]
 | mp k=>simp only [den,rv,h.up]
 | bf g s =>
  cases s with
  | ptr k o=>simp only [den,rv,rvL,h.up]
  | _=>exact(show False from hn).elim
 | gsl k n sz z =>
  by_cases hd:z=true∧n=0
  ·rw [show den N (.gsl k n sz z)=.v (.slice none 0 0)from if_pos hd,show den (N+fx) (.gsl k n sz z)=.v (.slice none 0 0)from if_pos hd]
   rfl
  ·rw [show den N (.gsl k n sz z)=.sl (N+k) 0 n sz from if_neg hd,show den (N+fx) (.gsl k n sz z)=.sl (N+fx+k) 0 n sz from if_neg hd]
   simp only [rv,h.up]
 | rv z=>exact hn.elim
 | raw z=>exact hn.elim
 | agg z=>exact hn.elim
 | tup z=>exact hn.elim
 | _=>rfl
theorem Low.cell {N fx:Nat} {m2 m3:Nat→Loc} (h:Low N fx m2 m3) {y:SV} (hn:nmA N y):rv m3 (den N y)=rv m2 (den (N+fx) y):=by
 cases y with
 | agg cs =>
  simp only [den,rv,rvL_eq,denL_eq,List.map_map]
  congr 2
  apply List.map_congr_left
  intro x hx
  exact h.one (hn x hx)
 | _=>exact h.one hn
theorem nm1_shift {N n:Nat} {x:SV} (h:nm1 N (shiftS n x)):nm1 N x:=by
 cases x with
 | bf g s=>cases s<;>first | trivial | exact h | exact h.elim
 | _=>first | trivial | exact h | exact h.elim
theorem shiftL_eq (n:Nat):∀l:List SV,shiftL n l=l.map (shiftS n)
 | []=>rfl
 | x :: r=>by simp only [shiftL,List.map_cons,shiftL_eq n r]
theorem nmA_shift {N n:Nat} {x:SV} (h:nmA N (shiftS n x)):nmA N x:=by
 cases x with
 | agg cs =>
  intro y hy
  have h':∀y∈shiftL n cs,nm1 N y:=h
  exact nm1_shift (h' (shiftS n y) (by rw [shiftL_eq]; exact List.mem_map_of_mem hy))
 | v y=>exact trivial
 | i a b=>exact trivial
 | p a=>exact trivial
 | ptr a b=>exact trivial
 | sl a b c d=>exact trivial
 | gsl a b c d=>exact trivial
 | gel a b c d=>exact trivial
 | fv a b=>exact trivial
 | yl a=>exact trivial
 | mp a=>exact trivial
 | bf g s=>cases s<;>first | trivial | exact h | exact h.elim
 | raw a=>exact h.elim
 | tup a=>exact h.elim
 | rv a=>exact h.elim
 | lst a b c d=>exact h
 | elm a b c d e f=>exact h
theorem nm1_below {N fx k:Nat} {y:SV} (hn:nm1 N y) (h:below (N+fx+k) (den (N+fx) y)=true):below (N+k) (den N y)=true:=by
 cases y with
 | lst z n sz e=>exact below_mono (Nat.le_add_right _ _) _ hn
 | elm z n sz e i f =>
  have:=hn.2
  simp only [den,below,blt_eq,decide_eq_true_eq]
  omega
 | ptr j o =>
  simp only [den,below,blt_eq,decide_eq_true_eq]at h ⊢
  omega
 | sl j o n e =>
  simp only [den,below,blt_eq,decide_eq_true_eq]at h ⊢
  omega
 | gel j sz i f =>
  simp only [den,below,blt_eq,decide_eq_true_eq]at h ⊢
  omega
 | yl j =>
  simp only [den,below,blt_eq,decide_eq_true_eq]at h ⊢
  omega
 | mp j =>
  simp only [den,below,blt_eq,decide_eq_true_eq]at h ⊢
  omega
 | bf g s =>
  cases s with
  | ptr j o =>
   simp only [den,below,belowL,blt_eq,Bool.and_true,decide_eq_true_eq]at h ⊢
   omega
  | _=>exact(show False from hn).elim
 | fv g ks =>
  simp only [den]at h ⊢
  rw [below_fn]at h ⊢
  intro j hj
  have:=h j hj
  omega
 | gsl j n sz z =>
  by_cases hd:z=true∧n=0
  ·rw [show den N (.gsl j n sz z)=.v (.slice none 0 0)from if_pos hd]
   rfl
  ·rw [show den (N+fx) (.gsl j n sz z)=.sl (N+fx+j) 0 n sz from if_neg hd]at h
   rw [show den N (.gsl j n sz z)=.sl (N+j) 0 n sz from if_neg hd]
   simp only [below,blt_eq,decide_eq_true_eq]at h ⊢
   omega
 | rv z=>exact hn.elim
 | raw z=>exact hn.elim
 | agg z=>exact hn.elim
 | tup z=>exact hn.elim
 | _=>exact h
theorem oneB_den {N:Nat} (N':Nat) {y:SV} (h:oneB (den N y)=true):oneB (den N' y)=true:=by
 cases y with
 | gsl j n sz z =>
  by_cases hd:z=true∧n=0
  ·rw [show den N' (.gsl j n sz z)=.v (.slice none 0 0)from if_pos hd]; rfl
  ·rw [show den N' (.gsl j n sz z)=.sl (N'+j) 0 n sz from if_neg hd]; rfl
 | _=>first | exact h | rfl
theorem nmA_below {N fx k:Nat} {y:SV} (hn:nmA N y) (h:below (N+fx+k) (den (N+fx) y)=true):below (N+k) (den N y)=true:=by
 cases y with
 | agg cs =>
  have h':=(belowC_iff _ _).1 (show belowC (N+fx+k) (denL (N+fx) cs)=true from h)
  show belowC (N+k) (denL N cs)=true
  rw [belowC_iff]
  intro x hx
  rw [denL_eq]at hx
  obtain⟨y,hy,rfl⟩:=List.mem_map.1 hx
  obtain⟨h1,h2⟩:=h' (den (N+fx) y) (by rw [denL_eq]; exact List.mem_map_of_mem hy)
  exact⟨oneB_den N h1,nm1_below (hn y hy) h2⟩
 | _=>exact nm1_below hn h
theorem Low.obj {N fx k:Nat} {m2 m3:Nat→Loc} (h:Low N fx m2 m3) {o:SObj} (hc:∀c kd,o=.cells c kd→∀y∈c,nm1 N y) (hp:plainO o) {l:Loc} {heap:Array Obj} (hr:ORel m2 (denO (N+fx) o) l heap) (hlt:(denO (N+fx) o).lt (N+fx+k)) :
  ORel m3 (denO N o) l heap∧(denO N o).lt (N+k)∧(denO N o).own=(denO (N+fx) o).own∧(denO N o).live=(denO (N+fx) o).live:=by
 cases o with
 | dead=>exact⟨trivial,trivial,rfl,rfl⟩
 | cells c kd =>
  refine⟨?_,?_,by cases kd<;>rfl,rfl⟩
  ·obtain⟨arr,ty,fz,g1,g2,g3,g4,g5,g6⟩:=hr
   rw [denL_len]at g4 g6
   refine⟨arr,ty,fz,g1,?_,g3,by rw [denL_len]; exact g4,g5,by rw [denL_len]; exact g6⟩
   intro i x hx
   rw [denL_eq,List.getElem?_map]at hx
   obtain⟨y,hy,rfl⟩:=Option.map_eq_some_iff.1 hx
   rw [g2 i (den (N+fx) y) (by rw [denL_eq,List.getElem?_map,hy]; rfl),h.one (hc c kd rfl y (List.mem_of_getElem? hy))]
  ·have h':=(belowC_iff _ _).1 (show belowC (N+fx+k) (denL (N+fx) c)=true from hlt)
   show belowC (N+k) (denL N c)=true
   rw [belowC_iff]
   intro x hx
   rw [denL_eq]at hx
   obtain⟨y,hy,rfl⟩:=List.mem_map.1 hx
   obtain⟨h1,h2⟩:=h' (den (N+fx) y) (by rw [denL_eq]; exact List.mem_map_of_mem hy)
   exact⟨oneB_den N h1,nm1_below (hc c kd rfl y hy) h2⟩
 | gr n sz e kd z =>
  have hpl:=hp.1 n sz e kd z rfl
  have e1:denO (N+fx) (.gr n sz e kd z)=denO N (.gr n sz e kd z):=by
   simp only [denO,gcells_any (N+fx) N hpl]
  rw [e1]at hr ⊢
  refine⟨?_,?_,rfl,rfl⟩
  ·by_cases hd:z=true∧n=0
   ·rw [show denO N (.gr n sz e kd z)=.dead from if_pos hd]
    trivial
   ·rw [show denO N (.gr n sz e kd z)=.cells (gcells N n sz e) kd from if_neg hd]at hr ⊢
    obtain⟨arr,ty,fz,g1,g2,g3⟩:=hr
    refine⟨arr,ty,fz,g1,?_,g3⟩
    intro i x hx
    rw [g2 i x hx]
    obtain⟨v,rfl,_⟩:=gcells_plain hpl x (List.mem_of_getElem? hx)
    rfl
  ·by_cases hd:z=true∧n=0
   ·rw [show denO N (.gr n sz e kd z)=.dead from if_pos hd]
    trivial
   ·rw [show denO N (.gr n sz e kd z)=.cells (gcells N n sz e) kd from if_neg hd]
    show belowC (N+k) _=true
    rw [belowC_iff]
    intro x hx
    obtain⟨v,rfl,hv⟩:=gcells_plain hpl x hx
    refine⟨hv,?_⟩
    cases v<;>simp_all [below,oneV]
 | lp st p R=>exact absurd rfl (hp.2.1 st p R)
 | mp ks c ro=>exact absurd rfl (hp.2.2 ks c ro)
theorem Low.res {N fx k:Nat} {m2 m3 m':Nat→Loc} (h:Low N fx m2 m3) {R xs:List SV} (hl:R.length=xs.length) (hn:∀(i:Nat) (x:SV),R[i]?=some x→nmA N x∧below (N+fx+k) (den (N+fx) x)=true)
  (he:∀(i:Nat) (x y:SV),R[i]?=some x→xs[i]?=some y→rv m' (den N y)=rv m2 (den (N+fx) x)) :
  rv m' (den N (oneS xs))=rv m3 (den N (oneS R))∧below (N+k) (den N (oneS R))=true:=by
 have hall:rvL m' (denL N xs)=rvL m3 (denL N R):=by
  simp only [rvL_eq,denL_eq,List.map_map]
  apply List.ext_getElem?
  intro i
  simp only [List.getElem?_map]
  cases hR:R[i]? with
  | none =>
   rw [List.getElem?_eq_none (by rw [← hl]; exact List.getElem?_eq_none_iff.1 hR)]
   rfl
  | some x =>
   have hi:i < xs.length:=by rw [← hl]; exact(List.getElem?_eq_some_iff.1 hR).1
   rw [List.getElem?_eq_getElem hi]
   simp only [Option.map_some,Function.comp,he i x _ hR (List.getElem?_eq_getElem hi),h.cell (hn i x hR).1]
 have hbl:belowL (N+k) (denL N R)=true:=by
  rw [belowL_iff]
  intro x hx
  rw [denL_eq]at hx
  obtain⟨y,hy,rfl⟩:=List.mem_map.1 hx
  obtain⟨i,hi⟩:=List.getElem?_of_mem hy
  exact nmA_below (hn i y hi).1 (hn i y hi).2
 match R,xs,hl with
 | [],[],_=>exact⟨rfl,rfl⟩
 | [x],[y],_ =>
  simp only [denL,rvL,List.cons.injEq,and_true]at hall
  simp only [denL,belowL,Bool.and_true]at hbl
  exact⟨hall,hbl⟩
 | x :: x2 :: r,y :: y2 :: r2,_ =>
  refine⟨?_,hbl⟩
  show Value.tuple _=Value.tuple _
  rw [hall]
theorem pushL_get {W:RW} {l:List RObj} (a:Nat):(pushL W l).get a=if a < W.n then W.get a else l.reverse[a-W.n]?:=by
 have:=get_over (A:=l) (B:=W.l) (L:=W.n) a
 rw [rw_eta]at this
 exact this
theorem Low.of {N fx:Nat} {m2 m3:Nat→Loc} {ρ:Nat→Nat} (hm:∀a,m3 a=m2 (ρ a)) (hlo:∀a,a < N→m2 (ρ a)=m2 a) (hup:∀j,ρ (N+j)=N+fx+j):Low N fx m2 m3:=
 ⟨fun a ha=>by rw [hm,hlo a ha],fun j=>by rw [hm,hup]⟩
section
variable {P:Program}
theorem endTo {e:Env} {C:Know} {A:Nat→List SV→Ann} {g:FuncId} {fx:Nat} (hN:@NoOwn e P) (hC:@KnowOk e P ev0 C) {args:List SV} {B:RW} {L:List SObj} {R:List SV} {M:List SObj} {Q:List SV→SMem→Prop} (hQ:∀xs σ,Q xs σ→wView fx B (somes R) M xs σ) (hB:@BOk e B) (hfx:fx≤L.length)
  (h:@wFunE e P C A fx g args B L Q) (m:Nat→Loc) (w:World) (cs:List Frame) (hr:@Rel e m (SMem.den ⟨B,L.length,L⟩) w) (hb:belowL (B.n+L.length) (denL B.n args)=true) :
  ∃xs m' m2 w' fr,Steps P (lone (Frame.enter P g ((denL B.n args).map (rv m)).toArray .normal) cs w) (lone fr cs w')∧fr.leaving P w' (.returned (rv m' (den B.n (oneS xs))))∧fr.fn=g ∧
   @Rel e m2 (SMem.den ⟨B,M.length,M⟩) w'∧PostN (B.n+fx) m (SMem.den ⟨B,L.length,L⟩) w m2 (SMem.den ⟨B,M.length,M⟩) w'∧R.length=xs.length ∧
   (∀(i:Nat) (x y:SV),R[i]?=some x→xs[i]?=some y→rv m' (den B.n y)=rv m2 (den B.n x)) ∧
   (∀(i:Nat) (x:SV),R[i]?=some x→nmA B.n x∧below (B.n+M.length) (den B.n x)=true)∧fx≤M.length ∧
   ∀o∈M,(denO B.n o).lt (B.n+M.length)∧(∀c k,o=.cells c k→∀y∈c,nm1 B.n y)∧plainO o:=by
 obtain⟨xs,σ,m',w',fr,h1,rfl,h3,h4,h5,h6,h7,h8,h9⟩:=@wFunE_to e P C A g fx hN hC args B L _ hB hfx h m w cs hr hb
 have h1:=hQ _ _ h1
 obtain⟨v1,v2,v3,v4⟩:=wView_vis h1
 have hsl:∀l:List SV,(somes l).length=l.length:=by
  intro l
  induction l with
  | nil=>rfl
  | cons x r ih=>simp [somes,ih]
 have htt:=TT_of σ.B.n xs
 have hbel:tlt σ.den.n (RT.of (denL σ.B.n xs) xs.length):=by
  intro i
  rw [htt.get i]
  cases hx:xs[i]? with
  | none=>rfl
  | some y =>
   simp only [Option.getD_some]
   match xs,hx with
   | [x],hx =>
    cases i with
    | zero=>simp only [List.getElem?_cons_zero,Option.some.injEq]at hx; subst hx; exact h9
    | succ i=>simp at hx
   | x :: x2 :: r,hx =>
    have h9':belowL σ.den.n (denL σ.B.n (x :: x2 :: r))=true:=h9
    rw [belowL_iff]at h9'
    exact h9' _ (by rw [denL_eq]; exact List.mem_map_of_mem (List.mem_of_getElem? hx))
 have hview:=@view_ok e none fx (fun f hf=>by simp at hf) σ.B hB (somes R) M xs σ ⟨RT.of (denL σ.B.n xs) xs.length,σ.den,[]⟩ ⟨rfl,rfl,rfl,h3,htt⟩ h1 (fun s2=>s2.W=SMem.den ⟨σ.B,M.length,M⟩∧∀(i:Nat) (x:SV),R[i]?=some x→s2.t.get i=den σ.B.n x) (by
  rintro m0 s2 ⟨q1,q2,q3,q4,q5⟩
  refine⟨q1,fun i x hx=>?_⟩
  rw [q5.get i,fillT_get,somes_get,hx]
  rfl)
 obtain⟨m2,s2,⟨k1,k2⟩,k3,k4,k5,k6,k8,k10⟩:=hview m' w' ((xs.map fun x=>rv m' (den σ.B.n x)).toArray) h8.mono h7 hbel ⟨by simp,fun i=>by
  rw [htt.get i]
  rw [Array.getD_eq_getD_getElem?,List.getElem?_toArray,List.getElem?_map]
  cases xs[i]? with
  | none=>rfl
  | some y=>rfl⟩
 rw [k1]at k4 k10
 refine⟨xs,m',m2,w',fr,h4,h5,h6,k4,h8.trans (PostN.seen k3 (show σ.B.n+fx≤σ.B.n+M.length by omega) k10),?_,?_,?_,v2,v4⟩
 ·rw [← hsl R]; exact v1
 ·intro i x y hx hy
  have g1:=k6.get i
  rw [Array.getD_eq_getD_getElem?,List.getElem?_toArray,List.getElem?_map,hy,k2 i x hx]at g1
  exact g1
 ·intro i x hx
  exact v3 i x (by rw [somes_get,hx]; rfl)
theorem Rel.by {e:Env} {m m3:Nat→Loc} {W2 W:RW} {w:World} (ρ:Nat→Nat) (h:@Rel e m W2 w) (hm:∀a,m3 a=m (ρ a)) (hwf:W.wf)
  (hget:∀a o,W.get a=some o→o.lt W.n∧(o=.dead∨∃o2,W2.get (ρ a)=some o2∧o2.own=o.own∧o2.live=o.live∧ORel m3 o (m3 a) w.heap))
  (hinj:∀a b x y,W.get a=some x→W.get b=some y→x.live=true→y.live=true→a≠b→ρ a≠ρ b) (hglb:e.ids=[]):@Rel e m3 W w:=by
 refine @Rel.mk e m3 W w hwf ?_ (fun a o ha=>(hget a o ha).1) ?_ ?_
 ·intro a o ha
  rcases(hget a o ha).2 with rfl | ⟨_,_,_,_,h4⟩
  ·trivial
  ·exact h4
 ·intro a b x y ha hb hx hy hab
  rcases(hget a x ha).2 with rfl | ⟨x2,h1,h2,h3,_⟩
  ·simp [RObj.own]at hx
  ·rcases(hget b y hb).2 with rfl | ⟨y2,k1,k2,k3,_⟩
   ·simp [RObj.live]at hy
   ·have hxl:x.live=true:=by cases x<;>first | rfl | (simp [RObj.own]at hx)
    rw [hm,hm]
    exact @Rel.inj e _ _ _ h _ _ x2 y2 h1 k1 (by rw [h2]; exact hx) (by rw [k3]; exact hy) (hinj a b x y ha hb hxl hy hab)
 ·intro i g hi
  rw [hglb]at hi
  simp at hi
theorem runEs_mem:∀ {l:List FnE} {g:FuncId} {args:List RV} {W:RW} {q:RV×RW},runEs l g args W=some q→∃F∈l,F.g=g∧F.run args W=some q
 | [],g,args,W,q,h=>by simp [runEs]at h
 | F :: r,g,args,W,q,h=>by
  unfold runEs at h
  split at h
  ·rename_i hg
   exact⟨F,List.mem_cons_self,Nat.eq_of_beq_eq_true hg,h⟩
  ·obtain⟨F',h1,h2⟩:=runEs_mem h
   exact⟨F',List.mem_cons_of_mem _ h1,h2⟩
theorem noOwn_fn2 (h:Named P) {l:List Fn0} {es:List FnE} (hl:∀F∈l,F.Ok P) (he:∀F∈es,F.Ok P) (ids:List Nat):@NoOwn (fnEnv2 ids l es) P:=by
 refine @NoOwn.mk (fnEnv2 ids l es) P h ?_
 intro g args W x W' hx
 have hx':(match runF l g args W with
  | some q=>some q
  | none=>runEs es g args W)=some (x,W'):=hx
 split at hx'
 ·rename_i q hq
  simp only [Option.some.injEq]at hx'
  subst hx'
  obtain⟨h1,h2⟩:=@NoOwn.ext (fnEnv ids l) P (noOwn_fn h hl ids) g args W x W' hq
  exact⟨@conv_ok (fnEnv ids l) (fnEnv2 ids l es) rfl P _ _ _ _ _ h1,h2⟩
 ·obtain⟨F,h1,rfl,h3⟩:=runEs_mem hx'
  exact⟨@conv_ok (plainEnv ids) (fnEnv2 ids l es) rfl P _ _ _ _ _ ((he F h1).1 args W W' x h3 ids),(he F h1).2.1⟩
theorem runEs_of:∀ {l:List FnE} {F:FnE} {args:List RV} {W:RW},distinctE l=true→F∈l→runEs l F.g args W=F.run args W
 | [],F,args,W,hd,hm=>by simp at hm
 | G :: r,F,args,W,hd,hm=>by
  simp only [distinctE,Bool.and_eq_true,List.all_eq_true]at hd
  unfold runEs
  rcases List.mem_cons.1 hm with rfl | hm
  ·simp only [Nat.beq_refl]
  ·have:=hd.1 F hm
   have hne:Nat.beq G.g F.g=false:=by
    cases hb:Nat.beq G.g F.g with
    | false=>rfl
    | true =>
     have e:=Nat.eq_of_beq_eq_true hb
     rw [e,Nat.beq_refl]at this
     simp at this
   simp only [hne]
   exact runEs_of hd.2 hm
theorem runF_none:∀ {l:List Fn0} {g:FuncId} {args:List RV} {W:RW},(l.all fun G=>!Nat.beq G.g g)=true→runF l g args W=none
 | [],g,args,W,h=>rfl
 | G :: r,g,args,W,h=>by
  simp only [List.all_cons,Bool.and_eq_true]at h
  unfold runF
  have:Nat.beq G.g g=false:=by simpa using h.1
  simp only [this]
  exact runF_none h.2
theorem knowOk_fn2 {l:List Fn0} {es:List FnE} (hd:distinct l=true) (hde:distinctE es=true) (hap:apartB l es=true) (hl:∀F∈l,F.Ok P) (he:∀F∈es,F.Ok P) (ids:List Nat):@KnowOk (fnEnv2 ids l es) P (@ev0) ⟨l.map Fn0.con,es.map FnE.con,Ora.no⟩:=by
 refine @KnowOk.mk (fnEnv2 ids l es) P (@ev0) _ ?_ (@OraOk.no (fnEnv2 ids l es) P) ?_
 ·intro con hcon args σ W K hW h
  obtain⟨F,hF,rfl⟩:=List.mem_map.1 hcon
  obtain⟨ds,h1,⟨hpre⟩,h2⟩:=sRead_ok hW (show sRead σ F.sh args _ from h)
  refine⟨F.sp ds,?_,h2⟩
  have hf:F.f (denL σ.B.n args) W=some (den 0 (F.sp ds)):=by
   unfold Fn0.f
   rw [h1]
   simp only [if_pos hpre]
  unfold callF
  have:@Env.ext (fnEnv2 ids l es) F.con.g (denL σ.B.n args) W=some (den 0 (F.sp ds),W):=by
   show(match runF l F.g (denL σ.B.n args) W with
    | some q=>some q
    | none=>runEs es F.g (denL σ.B.n args) W)=_
   rw [runF_of hd hF hf]
  rw [this]
  show some (den 0 (F.sp ds),W)=_
  rw [(hl F hF).2.2 ds σ.B.n]
 ·intro con hcon args σ K hw h
  obtain⟨F,hF,rfl⟩:=List.mem_map.1 hcon
  obtain⟨x,σ',h1,h2⟩:=FnE.con_ok (he F hF) hw h
  refine⟨x,σ',?_,h2⟩
  unfold callF
  have hnone:runF l F.g (denL σ.B.n args) σ.den=none:=runF_none (by
   unfold apartB at hap
   rw [List.all_eq_true]at hap
   exact hap F hF)
  have:@Env.ext (fnEnv2 ids l es) F.con.g (denL σ.B.n args) σ.den=some (den σ.B.n x,σ'.den):=by
   show(match runF l F.g (denL σ.B.n args) σ.den with
    | some q=>some q
    | none=>runEs es F.g (denL σ.B.n args) σ.den)=_
   rw [hnone]
   simp only
   rw [runEs_of hde hF,h1]
  rw [this]
end
end Go.Rv
namespace Go.Rv
open Go
variable {P:Program}
theorem FnE.none_ok {e:Env} (_:e.ids=[]) {C:Know} {A:Nat→List SV→Ann} {g:FuncId} (hN:@NoOwn e P) (hC:@KnowOk e P ev0 C) {as:List SV} {W:RW} {R:List SV} {M:List SObj} {Q:List SV→SMem→Prop} (hQ:∀xs σ,Q xs σ→wView 0 W (somes R) M xs σ)
  (h:@wFunE e P C A 0 g as W [] Q):@CallOk e P g (denL W.n as) W (den W.n (oneS R)) (pushL W (M.map (denO W.n))):=by
 intro m w cs hr hb
 have hB:@BOk e W:=@BOk.of e m W w hr
 have e0:SMem.den ⟨W,([]:List SObj).length,[]⟩=W:=by simp [SMem.den]
 obtain⟨xs,m',m2,w',fr,h4,h5,h6,h7,h8,h9,h10,h11,h12,h13⟩:=endTo (L:=[]) hN hC hQ hB (Nat.zero_le _) h m w cs (by rw [e0]; exact hr) hb
 rw [e0]at h8
 have hM:SMem.den ⟨W,M.length,M⟩=pushL W (M.map (denO W.n)):=by simp [SMem.den,pushL]
 rw [hM]at h7 h8
 have hlow:Low W.n 0 m2 m2:=⟨fun _ _=>rfl,fun j=>by rw [Nat.add_zero]⟩
 obtain⟨r1,r2⟩:=hlow.res (k:=M.length) h9 (fun i x hx=>by simpa using h11 i x hx) (fun i x y hx hy=>by simpa using h10 i x y hx hy)
 refine⟨m2,w',fr,h4,by rw [← r1]; exact h5,h6,h7,h8.all,?_⟩
 simpa [pushL] using r2
theorem FnE.blk_ok {e:Env} (hids:e.ids=[]) {C:Know} {A:Nat→List SV→Ann} {g:FuncId} (hN:@NoOwn e P) (hC:@KnowOk e P ev0 C) {as:List SV} {cs:List SV} {W Wd W1:RW} {b:Nat} {R:List SV} {O:List SObj} {cel:List SV}
  (hget:W.get b=some (.cells (denL W.n cs) .ex)) (hset:W.set b .dead=some Wd) (hset1:W.set b (.cells (denL W.n cel) .ex)=some W1)
  {Q:List SV→SMem→Prop} (hQ:∀xs σ,Q xs σ→wView 1 Wd (somes (shiftL 1 R)) (O.map (shiftO 1)++[.cells (shiftL 1 cel) .ex]) xs σ) (h:@wFunE e P C A 1 g (.ptr 0 0 :: as) Wd [.cells cs .ex] Q) :
  @CallOk e P g (.ptr b 0 :: denL W.n as) W (den W.n (oneS R)) (pushL W1 (O.map (denO W.n))):=by
 intro m w cs' hr hb
 have hwf:=@Rel.wf e m W w hr
 have hlt:=@Rel.lt e m W w hr
 obtain⟨hn,hbn,hwfd,hgd⟩:=set_spec hset
 obtain⟨hn1,_,hwf1,hg1⟩:=set_spec hset1
 have hwfd:=hwfd hwf
 have hgd:=hgd hwf
 have hwf1:=hwf1 hwf
 have hg1:=hg1 hwf
 have hB:@BOk e Wd:=@BOk.mk e Wd hwfd (fun a o ha=>by
  rw [hgd]at ha
  rw [hn]
  split at ha
  ·simp only [Option.some.injEq]at ha; subst ha; trivial
  ·exact hlt a o ha) (fun i g hi=>by rw [hids]at hi; simp at hi)
 have hw1:SMem.Wf ⟨Wd,1,[.cells cs .ex]⟩:=⟨rfl⟩
 have hW0:∀a o,(SMem.den ⟨Wd,1,[.cells cs .ex]⟩).get a=some o→(a < W.n∧(a=b∧o=.dead∨a≠b∧W.get a=some o))∨(a=W.n∧o=.cells (denL W.n cs) .ex):=by
  intro a o ha
  rw [denM_get hw1]at ha
  show _∨_
  split at ha
  ·rename_i hla
   have hla':a < W.n:=by rw [← hn]; exact hla
   have ha':Wd.get a=some o:=ha
   rw [hgd]at ha'
   refine .inl ⟨hla',?_⟩
   by_cases hab:a=b
   ·rw [if_pos hab]at ha'
    simp only [Option.some.injEq]at ha'
    exact .inl ⟨hab,ha'.symm⟩
   ·rw [if_neg hab]at ha'
    exact .inr ⟨hab,ha'⟩
  ·rename_i hla
   have hla':¬ a < W.n:=by rw [← hn]; exact hla
   have ha':(SMem.get ⟨Wd,1,[.cells cs .ex]⟩ (a-Wd.n)).map (denO Wd.n)=some o:=ha
   simp only [SMem.get,blt_eq]at ha'
   split at ha'
   ·rename_i hk
    have hk:a-Wd.n < 1:=by simpa using hk
    have e1:1-1-(a-Wd.n)=0:=by omega
    rw [e1]at ha'
    have ha2:some (denO Wd.n (.cells cs .ex))=some o:=ha'
    simp only [Option.some.injEq]at ha2
    refine .inr ⟨by omega,?_⟩
    rw [← ha2,hn]
    rfl
   ·simp at ha'
 let ρ0:Nat→Nat:=fun a=>if a=W.n then b else a
 have hρ0:∀a,a < W.n→ρ0 a=a:=fun a ha=>if_neg (by omega)
 have hρN:ρ0 W.n=b:=if_pos rfl
 have hag0:Agree W.n m (fun a=>m (ρ0 a)):=fun a ha=>by
  show m (ρ0 a)=m a
  rw [hρ0 a ha]
 have hcb:belowC W.n (denL W.n cs)=true:=hlt b _ hget
 have hr0:@Rel e (fun a=>m (ρ0 a)) (SMem.den ⟨Wd,1,[.cells cs .ex]⟩) w:=by
  refine Rel.by ρ0 hr (fun _=>rfl) ?_ ?_ ?_ hids
  ·show([SObj.cells cs .ex].map (denO Wd.n)++Wd.l).length=Wd.n+1
   have:Wd.l.length=Wd.n:=hwfd
   simp [this]
  ·intro a o ha
   have hnn:(SMem.den ⟨Wd,1,[.cells cs .ex]⟩).n=W.n+1:=by show Wd.n+1=_; rw [hn]
   rw [hnn]
   rcases hW0 a o ha with ⟨hla,⟨rfl,rfl⟩ | ⟨hab,hga⟩⟩ | ⟨rfl,rfl⟩
   ·exact⟨trivial,.inl rfl⟩
   ·refine⟨RObj.lt_mono (Nat.le_succ _) (hlt a o hga),.inr ⟨o,by rw [hρ0 a hla]; exact hga,rfl,rfl,?_⟩⟩
    rw [hρ0 a hla]
    exact(@Rel.obj e m W w hr a o hga).agree (hlt a o hga) hag0
   ·refine⟨RObj.lt_mono (Nat.le_succ _) (show RObj.lt W.n (.cells (denL W.n cs) .ex)from hcb),.inr ⟨_,by rw [hρN]; exact hget,rfl,rfl,?_⟩⟩
    rw [hρN]
    exact(@Rel.obj e m W w hr b _ hget).agree (show RObj.lt W.n (.cells (denL W.n cs) .ex)from hcb) hag0
  ·intro x y ox oy hx hy hlx hly hxy
   rcases hW0 x ox hx with ⟨hla,⟨rfl,rfl⟩ | ⟨hab,hga⟩⟩ | ⟨rfl,rfl⟩
   ·simp [RObj.live]at hlx
   ·rcases hW0 y oy hy with ⟨hlb,⟨rfl,rfl⟩ | ⟨hab2,hgb⟩⟩ | ⟨rfl,rfl⟩
    ·simp [RObj.live]at hly
    ·rw [hρ0 x hla,hρ0 y hlb]; exact hxy
    ·rw [hρ0 x hla,hρN]; exact hab
   ·rcases hW0 y oy hy with ⟨hlb,⟨rfl,rfl⟩ | ⟨hab2,hgb⟩⟩ | ⟨rfl,rfl⟩
    ·simp [RObj.live]at hly
    ·rw [hρN,hρ0 y hlb]; exact fun e=>hab2 e.symm
    ·exact absurd rfl hxy
 have hbl:belowL W.n (denL W.n as)=true:=by
  have hb':belowL W.n (.ptr b 0 :: denL W.n as)=true:=hb
  simp only [belowL,Bool.and_eq_true]at hb'
  exact hb'.2
 have hbel:belowL (Wd.n+1) (denL Wd.n (.ptr 0 0 :: as))=true:=by
  rw [hn]
  simp only [denL,belowL,Bool.and_eq_true]
  refine⟨?_,?_⟩
  ·simp [den,below,blt_eq]
  ·rw [belowL_iff]at hbl ⊢
   exact fun x hx=>below_mono (Nat.le_succ _) x (hbl x hx)
 obtain⟨xs,m',m2,w',fr,h4,h5,h6,h7,h8,h9,h10,h11,h12,h13⟩:=endTo (L:=[SObj.cells cs .ex]) hN hC hQ hB (Nat.le_refl 1) h (fun a=>m (ρ0 a)) w cs' hr0 hbel
 have hargs:(denL Wd.n (.ptr 0 0 :: as)).map (rv fun a=>m (ρ0 a))=(RV.ptr b 0 :: denL W.n as).map (rv m):=by
  rw [hn]
  simp only [denL,List.map_cons]
  congr 1
  ·simp only [den,rv,Nat.add_zero,hρN]
  ·apply List.map_congr_left
   intro x hx
   exact rv_agree hag0 x ((belowL_iff _ _).1 hbl x hx)
 rw [hargs]at h4
 let ρ1:Nat→Nat:=fun a=>if a=b then W.n else if a < W.n then a else a+1
 have hρb:ρ1 b=W.n:=if_pos rfl
 have hρl:∀a,a < W.n→a≠b→ρ1 a=a:=fun a h1 h2=>by show(if a=b then W.n else if a < W.n then a else a+1)=a; rw [if_neg h2,if_pos h1]
 have hρu:∀j,ρ1 (W.n+j)=W.n+1+j:=fun j=>by
  show(if W.n+j=b then W.n else if W.n+j < W.n then W.n+j else W.n+j+1)=_
  rw [if_neg (by omega),if_neg (by omega)]
  omega
 have hm2:∀a,a < W.n+1→m2 a=m (ρ0 a):=fun a ha=>h8.ag a (by rw [hn]; exact ha)
 have hlow:Low W.n 1 m2 (fun a=>m2 (ρ1 a)):=by
  refine⟨fun a ha=>?_,fun j=>?_⟩
  ·show m2 (ρ1 a)=m2 a
   by_cases hab:a=b
   ·subst hab
    rw [hρb,hm2 W.n (by omega),hm2 a (by omega),hρN,hρ0 a ha]
   ·rw [hρl a ha hab]
  ·show m2 (ρ1 (W.n+j))=_
   rw [hρu]
 have hMlen:(O.map (shiftO 1)++[SObj.cells (shiftL 1 cel) .ex]).length=O.length+1:=by simp
 have hkn:Wd.n+(O.map (shiftO 1)++[SObj.cells (shiftL 1 cel) .ex]).length=W.n+1+O.length:=by rw [hMlen,hn]; omega
 have hw2:SMem.Wf ⟨Wd,(O.map (shiftO 1)++[SObj.cells (shiftL 1 cel) .ex]).length,O.map (shiftO 1)++[SObj.cells (shiftL 1 cel) .ex]⟩:=⟨rfl⟩
 have hplO:∀o∈O,plainO o∧∀c kd,o=.cells c kd→∀y∈c,nm1 W.n y:=by
  intro o ho
  obtain⟨q1,q2,q3⟩:=h13 (shiftO 1 o) (List.mem_append_left _ (List.mem_map_of_mem ho))
  rw [hn]at q2
  refine⟨?_,?_⟩
  ·refine⟨fun n sz e2 k z he=>?_,fun st p R he=>?_,fun ks c ro he=>?_⟩
   ·subst he
    exact q3.1 n sz e2 k z rfl
   ·subst he
    exact q3.2.1 st p R rfl
   ·subst he
    exact q3.2.2 ks (shiftL 1 c) ro rfl
  ·intro c kd he y hy
   subst he
   exact nm1_shift (q2 (shiftL 1 c) kd rfl (shiftS 1 y) (by rw [shiftL_eq]; exact List.mem_map_of_mem hy))
 have hcel:∀y∈cel,nm1 W.n y:=by
  obtain⟨q1,q2,q3⟩:=h13 (.cells (shiftL 1 cel) .ex) (List.mem_append_right _ List.mem_cons_self)
  rw [hn]at q2
  intro y hy
  exact nm1_shift (q2 (shiftL 1 cel) .ex rfl (shiftS 1 y) (by rw [shiftL_eq]; exact List.mem_map_of_mem hy))
 have hend:∀a o,(pushL W1 (O.map (denO W.n))).get a=some o→(a < W.n∧a≠b∧W.get a=some o∧(SMem.den ⟨Wd,(O.map (shiftO 1)++[SObj.cells (shiftL 1 cel) .ex]).length,O.map (shiftO 1)++[SObj.cells (shiftL 1 cel) .ex]⟩).get (ρ1 a)=some o) ∨
   ∃so:SObj,o=denO W.n so∧plainO so∧(∀c kd,so=.cells c kd→∀y∈c,nm1 W.n y)∧(SMem.den ⟨Wd,(O.map (shiftO 1)++[SObj.cells (shiftL 1 cel) .ex]).length,O.map (shiftO 1)++[SObj.cells (shiftL 1 cel) .ex]⟩).get (ρ1 a)=some (denO (W.n+1) so):=by
  intro a o ha
  rw [pushL_get,hn1]at ha
  split at ha
  ·rename_i hla
   rw [hg1]at ha
   by_cases hab:a=b
   ·rw [if_pos hab]at ha
    simp only [Option.some.injEq]at ha
    refine .inr ⟨.cells cel .ex,ha.symm,⟨by intro n sz e2 k z he; simp at he,by simp⟩,?_,?_⟩
    ·intro c kd he
     simp only [SObj.cells.injEq]at he
     obtain⟨rfl,rfl⟩:=he
     exact hcel
    ·rw [hab,hρb,denM_get hw2,if_neg (by show ¬ W.n < Wd.n; omega)]
     show(SMem.get ⟨Wd,_,_⟩ (W.n-Wd.n)).map (denO Wd.n)=_
     have e1:W.n-Wd.n=0:=by omega
     rw [e1]
     simp only [SMem.get,blt_eq,lget_eq]
     rw [if_pos (by simp)]
     rw [show(O.map (shiftO 1)++[SObj.cells (shiftL 1 cel) .ex]).length-1-0=(O.map (shiftO 1)).length by simp,List.getElem?_append_right (Nat.le_refl _)]
     simp only [Nat.sub_self,List.getElem?_cons_zero,Option.map_some,denO,denL_shift,hn]
   ·rw [if_neg hab]at ha
    refine .inl ⟨hla,hab,ha,?_⟩
    rw [hρl a hla hab,denM_get hw2,if_pos (by show a < Wd.n; omega)]
    show Wd.get a=some o
    rw [hgd,if_neg hab]
    exact ha
  ·rename_i hla
   have hil:a-W.n < (O.map (denO W.n)).length:=by
    have:=(List.getElem?_eq_some_iff.1 ha).1
    simpa using this
   have hil':a-W.n < O.length:=by simpa using hil
   rw [List.getElem?_reverse hil,List.getElem?_map]at ha
   obtain⟨so,hso,rfl⟩:=Option.map_eq_some_iff.1 ha
   obtain⟨p1,p2⟩:=hplO so (List.mem_of_getElem? hso)
   refine .inr ⟨so,rfl,p1,p2,?_⟩
   have ea:ρ1 a=W.n+1+(a-W.n):=by
    have:=hρu (a-W.n)
    rwa [show W.n+(a-W.n)=a by omega]at this
   rw [ea,denM_get hw2,if_neg (by show ¬ W.n+1+(a-W.n) < Wd.n; omega)]
   show(SMem.get ⟨Wd,_,_⟩ (W.n+1+(a-W.n)-Wd.n)).map (denO Wd.n)=_
   have e1:W.n+1+(a-W.n)-Wd.n=1+(a-W.n):=by omega
   rw [e1]
   simp only [SMem.get,blt_eq,lget_eq]
   rw [if_pos (by rw [hMlen]; simp; omega),hMlen]
   have e2:(O.map (denO W.n)).length-1-(a-W.n)=O.length-1-(a-W.n):=by simp
   rw [e2]at hso
   rw [show O.length+1-1-(1+(a-W.n))=O.length-1-(a-W.n)by omega,List.getElem?_append_left (by simp; omega),List.getElem?_map,hso]
   simp only [Option.map_some,denO_shift _ _ p1.1,hn]
 have hlt2:=@Rel.lt e _ _ _ h7
 have hobj2:=@Rel.obj e _ _ _ h7
 have hn2:(SMem.den ⟨Wd,(O.map (shiftO 1)++[SObj.cells (shiftL 1 cel) .ex]).length,O.map (shiftO 1)++[SObj.cells (shiftL 1 cel) .ex]⟩).n=W.n+1+O.length:=hkn
 have hpn:(pushL W1 (O.map (denO W.n))).n=W.n+O.length:=by simp [pushL,hn1]
 have hrel:@Rel e (fun a=>m2 (ρ1 a)) (pushL W1 (O.map (denO W.n))) w':=by
  refine Rel.by ρ1 h7 (fun _=>rfl) ?_ ?_ ?_ hids
  ·show(O.map (denO W.n)++W1.l).length=W1.n+(O.map (denO W.n)).length
   have:W1.l.length=W1.n:=hwf1
   simp [this]
   omega
  ·intro a o ha
   rw [hpn]
   rcases hend a o ha with ⟨hla,hab,hga,hg2⟩ | ⟨so,rfl,p1,p2,hg2⟩
   ·have hlo:=hlt a o hga
    refine⟨RObj.lt_mono (Nat.le_add_right _ _) hlo,.inr ⟨o,hg2,rfl,rfl,?_⟩⟩
    exact(hobj2 _ _ hg2).agree hlo hlow.agree
   ·have hl2:=hlt2 _ _ hg2
    rw [hn2]at hl2
    obtain⟨q1,q2,q3,q4⟩:=hlow.obj p2 p1 (hobj2 _ _ hg2) hl2
    exact⟨q2,.inr ⟨_,hg2,q3.symm,q4.symm,q1⟩⟩
  ·intro x y _ _ hx hy _ _ hxy
   show(if x=b then W.n else if x < W.n then x else x+1)≠(if y=b then W.n else if y < W.n then y else y+1)
   split<;>split<;>(try split)<;>(try split)<;>omega
 obtain⟨r1,r2⟩:=hlow.res (k:=O.length) (R:=R) (xs:=xs) (m':=m') (by rw [← h9,shiftL_eq,List.length_map]) (fun i x hx=>by
  obtain⟨q1,q2⟩:=h11 i (shiftS 1 x) (by rw [shiftL_eq,List.getElem?_map,hx]; rfl)
  rw [den_shift,hkn,hn]at q2
  rw [hn]at q1
  exact⟨nmA_shift q1,q2⟩) (fun i x y hx hy=>by
  have:=h10 i (shiftS 1 x) y (by rw [shiftL_eq,List.getElem?_map,hx]; rfl) hy
  rw [den_shift,hn]at this
  exact this)
 refine⟨fun a=>m2 (ρ1 a),w',fr,h4,?_,h6,hrel,?_,?_⟩
 ·rw [← r1,← hn]
  exact h5
 ·refine⟨fun a ha=>?_,by rw [hpn]; omega,h8.size,?_,?_,h8.os,h8.tape,h8.output⟩
  ·show m2 (ρ1 a)=m a
   rw [hlow.lo a ha,hm2 a (by omega),hρ0 a ha]
  ·intro r hr2 hk
   refine h8.keep r hr2 ?_
   intro a o ha ho
   rcases hW0 a o ha with ⟨hla,⟨rfl,rfl⟩ | ⟨hab,hga⟩⟩ | ⟨rfl,rfl⟩
   ·simp [RObj.own]at ho
   ·show(m (ρ0 a)).blk≠r
    rw [hρ0 a hla]
    exact hk a o hga ho
   ·show(m (ρ0 W.n)).blk≠r
    rw [hρN]
    exact hk b _ hget rfl
  ·intro a o ha ho
   have hex:∃o2,(SMem.den ⟨Wd,(O.map (shiftO 1)++[SObj.cells (shiftL 1 cel) .ex]).length,O.map (shiftO 1)++[SObj.cells (shiftL 1 cel) .ex]⟩).get (ρ1 a)=some o2∧o2.own=true:=by
    rcases hend a o ha with ⟨hla,hab,hga,hg2⟩ | ⟨so,rfl,p1,p2,hg2⟩
    ·exact⟨o,hg2,ho⟩
    ·have hl2:=hlt2 _ _ hg2
     rw [hn2]at hl2
     obtain⟨q1,q2,q3,q4⟩:=hlow.obj p2 p1 (hobj2 _ _ hg2) hl2
     exact⟨_,hg2,by rw [← q3]; exact ho⟩
   obtain⟨o2,hg2,ho2⟩:=hex
   rcases h8.own _ o2 hg2 ho2 with q | ⟨a3,x3,q1,q2,q3⟩
   ·exact .inl q
   ·rcases hW0 a3 x3 q1 with ⟨hla,⟨rfl,rfl⟩ | ⟨hab,hga⟩⟩ | ⟨rfl,rfl⟩
    ·simp [RObj.own]at q2
    ·refine .inr ⟨a3,x3,hga,q2,?_⟩
     have q3':(m (ρ0 a3)).blk=(m2 (ρ1 a)).blk:=q3
     rw [hρ0 a3 hla]at q3'
     exact q3'
    ·refine .inr ⟨b,_,hget,rfl,?_⟩
     have q3':(m (ρ0 W.n)).blk=(m2 (ρ1 a)).blk:=q3
     rw [hρN]at q3'
     exact q3'
 ·rw [hpn]; exact r2
theorem FnE.ok (hP:Named P) {l:List Fn0} {es:List FnE} (hd:distinct l=true) (hde:distinctE es=true) (hap:apartB l es=true) (hl:∀F∈l,F.Ok P) (he:∀F∈es,F.Ok P) {A:List SV→List Dat→Nat→List SV→Ann} {F:FnE}
  (hb:(P.funcs[F.g]?).any (fun fn=>fn.body.isSome)=true) (hpl:∀ds,F.pre ds→∀o∈F.obj ds,∀n sz e k z,o=SObj.gr n sz e k z→PlainE n e) (h:Ob (needE P l es A F))
  (hpl2:∀a,F.alt=some a→∀ds,F.pre ds→a.c ds→∀o∈a.obj ds,∀n sz e k z,o=SObj.gr n sz e k z→PlainE n e:=by intro a h; exact absurd (show none=some a from h) (by simp)) (hpx:F.px=none:=by rfl):F.Ok P:=by
 obtain⟨h⟩:=h
 have hpl:∀ds,F.pre ds→∀o∈F.objA ds,∀n sz e k z,o=SObj.gr n sz e k z→PlainE n e:=by
  intro ds hp o ho
  unfold FnE.objA at ho
  split at ho
  ·exact hpl ds hp o ho
  ·rename_i a ha
   split at ho
   ·rename_i hc
    exact hpl2 a ha ds hp hc o ho
   ·exact hpl ds hp o ho
 have hN:=noOwn_fn2 hP hl he []
 have hC:=knowOk_fn2 hd hde hap hl he []
 refine⟨?_,?_,hpl⟩
 ·intro args W W' x hrun ids
  have key:@CallOk (fnEnv2 [] l es) P F.g args W x W':=by
   unfold FnE.run at hrun
   simp only [hpx]at hrun
   unfold needE at h
   split at hrun
   ·rename_i hblk
    simp only [hblk]at h
    split at hrun
    ·rename_i d hd'
     split at hrun
     ·rename_i hpre
      simp only [Option.some.injEq,Prod.mk.injEq]at hrun
      obtain⟨rfl,rfl⟩:=hrun
      obtain⟨as,h1,h2⟩:=allSh_ok hd' (h W)
      rw [← h1]
      exact FnE.none_ok rfl hN hC (fun xs σ hq=>FnE.ends_ok hq) (h2 hpre)
     ·simp at hrun
    ·simp at hrun
   ·rename_i ss hblk
    simp only [hblk]at h
    split at hrun
    case h_2=>simp at hrun
    rename_i b rest
    split at hrun
    case h_2=>simp at hrun
    rename_i c hget
    split at hrun
    case h_2=>simp at hrun
    rename_i Wd hset
    split at hrun
    case h_2=>simp at hrun
    rename_i d0 d hd0 hd'
    split at hrun
    case isFalse=>simp at hrun
    rename_i hpre
    split at hrun
    case h_2=>simp at hrun
    rename_i W1 hset1
    simp only [Option.some.injEq,Prod.mk.injEq]at hrun
    obtain⟨rfl,rfl⟩:=hrun
    obtain⟨cs,h1,h2⟩:=allScs_ok hd0 (h Wd)
    obtain⟨as,h3,h4⟩:=allSh_ok hd' h2
    have hn:Wd.n=W.n:=(set_spec hset).1
    rw [hn]at h1 h3
    subst h1 h3
    exact FnE.blk_ok rfl hN hC hget hset hset1 (fun xs σ hq=>FnE.ends_ok hq) (h4 hpre)
  have h4:@CallOk (plainEnv []) P F.g args W x W':=@conv_ok (fnEnv2 [] l es) (plainEnv []) rfl P _ _ _ _ _ key
  intro m w cs hrel hb
  have hrel0:@Rel (plainEnv []) m W w:=Rel.bare hrel
  obtain⟨m',w',fr,g1,g2,g3,g4,g5,g6⟩:=h4 m w cs hrel0 hb
  refine⟨m',w',fr,g1,g2,g3,?_,g5,g6⟩
  refine @Rel.mk (plainEnv ids) m' W' w' (@Rel.wf (plainEnv []) _ _ _ g4) (@Rel.obj (plainEnv []) _ _ _ g4) (@Rel.lt (plainEnv []) _ _ _ g4) (@Rel.inj (plainEnv []) _ _ _ g4) ?_
  intro i g hi
  obtain⟨k1,k2⟩:=@Rel.glb (plainEnv ids) _ _ _ hrel i g hi
  exact⟨Nat.lt_of_lt_of_le k1 g5.mono,by rw [g5.ag i k1]; exact k2⟩
 ·cases hg:P.funcs[F.g]? with
  | none=>rw [hg]at hb; simp at hb
  | some fn=>exact⟨fn,rfl,by rw [hg]at hb; simpa using hb⟩
theorem rowF_plain:∀(ks:List IntKind) (j:Nat) (f:Nat→Int),∀y∈rowF ks j f,plain1 y
 | [],_,_,y,h=>by simp [rowF]at h
 | k :: ks,j,f,y,h=>by
  rw [rowF_cons]at h
  rcases List.mem_cons.1 h with rfl | h
  ·cases k<;>first | trivial | rfl
  ·exact rowF_plain ks (j+1) f y h
theorem plain_elemOf (ks:List IntKind) (rows:List (List Int)) (n:Nat):PlainE n (.fn (elemOf ks rows)):=fun _ _ y hy=>rowF_plain ks 0 _ y hy
end Go.Rv
namespace Go.Rv
open Go
theorem snoc_at {R:List (List Int)} {ks:List IntKind} {r:List Int} {cs:List SV} (hr:cs=rowS ks r) {i:Nat} (hi:i < R.length+1):(El.snoc (.fn (elemOf ks R)) R.length cs).at i=elemOf ks (R++[r]) i:=by
 simp only [El.at,elemOf_eq]
 by_cases h:i < R.length
 ·rw [if_pos h]; simp only [List.getD_eq_getElem?_getD,List.getElem?_append_left h]
 ·have e:i=R.length:=by omega
  subst e
  rw [if_neg h,hr]
  simp
end Go.Rv
namespace Go.Rv
open Go
structure LawF where
 g:FuncId
 sh:List Sh
 pre:List Dat→Prop
def hasTabs (tabs:Tabs) (W:RW):Prop:=∀i o,(tabRw tabs).get i=some o→W.get i=some o
noncomputable section
open Classical in
def lawA (gA:FuncId) (tabs:Tabs) (g:FuncId) (args:List RV) (W:RW):Option (RV×RW):=if g=gA∧args=[]∧hasTabs tabs W then some (.v (.bool true),W)else none
def lawExt (l:List Fn0) (es:List FnE) (gA:FuncId) (tabs:Tabs) (g:FuncId) (args:List RV) (W:RW):Option (RV×RW):=match runF l g args W with
 | some q=>some q
 | none=>match runEs es g args W with
  | some q=>some q
  | none=>lawA gA tabs g args W
@[reducible] def lawEnv (l:List Fn0) (es:List FnE) (gA:FuncId) (tabs:Tabs):Env:=⟨tabs.map (·.1),lawExt l es gA tabs⟩
def conAwake (gA:FuncId) (tabs:Tabs):ConE:=⟨gA,fun args σ K=>match args with
 | []=>Ob (hasTabs tabs σ.B)∧K (.v (.bool true)) σ
 | _=>False⟩
def isTrue (x:SV):Prop:=match x with
 | .v (.bool true)=>True
 | .p c=>Ob c
 | _=>False
def needL (P:Program) (l:List Fn0) (es:List FnE) (gA:FuncId) (tabs:Tabs) (A:List SV→List Dat→Nat→List SV→Ann) (F:LawF):Prop:=
 ∀B:RW,hasTabs tabs B→allSh B F.sh fun as ds=>F.pre ds→@wFun (lawEnv l es gA tabs) P ⟨l.map Fn0.con,es.map FnE.con++[conAwake gA tabs],Ora.no⟩ (A as ds) F.g as B fun x _=>isTrue x
end
theorem lift_tab {e1 e2:Env} {tabs:Tabs} (h1:e1.ids=tabs.map (·.1)) (h2:e2.ids=tabs.map (·.1)) {P:Program} {g:FuncId} {x:RV} {W1 W:RW} (h:@CallOk e1 P g [] (tabRw tabs) x W1) (hx:below 0 x=true) (hW:hasTabs tabs W):@CallOk e2 P g [] W x W:=by
 intro m w cs hr hb
 have hn:(tabRw tabs).n=tabs.length:=rfl
 have hr0:@Rel e1 m (tabRw tabs) w:=by
  refine @Rel.mk e1 _ _ _ (by simp [RW.wf,tabRw]) ?_ ?_ ?_ ?_
  ·intro b o hbo
   exact @Rel.obj e2 _ _ _ hr b o (hW b o hbo)
  ·intro b o hbo
   obtain⟨t,ht,rfl⟩:=tabRw_get hbo
   refine(belowC_iff _ _).2 fun x hx=>?_
   obtain⟨z,_,rfl⟩:=List.mem_map.1 hx
   exact⟨rfl,rfl⟩
  ·intro a b x y ha _ hx
   obtain⟨t,ht,rfl⟩:=tabRw_get ha
   simp [RObj.own]at hx
  ·intro i g hi
   have h3:=@Rel.glb e2 _ _ _ hr i g (by rw [h2,← h1]; exact hi)
   refine⟨?_,h3.2⟩
   rw [h1,List.getElem?_map]at hi
   rw [hn]
   cases ht:tabs[i]? with
   | none=>rw [ht]at hi; simp at hi
   | some t=>exact(List.getElem?_eq_some_iff.1 ht).1
 obtain⟨m',w',fr,st,hl,hf,hr',hp,hx'⟩:=h m w cs hr0 rfl
 have hst:=hp.toStill fun b o hbo=>by
  obtain⟨t,ht,rfl⟩:=tabRw_get hbo
  rfl
 have hv:rv m' x=rv m x:=rv_agree (n:=0) (fun b hb=>absurd hb (Nat.not_lt_zero b)) x hx
 rw [hv]at hl
 exact⟨m,w',fr,st,hl,hf,@Rel.still e2 m W w w' hr hst,(Post.refl m W w).still hst,below_mono (Nat.zero_le _) _ hx⟩
section
variable {P:Program}
theorem noOwn_law (h:Named P) {l:List Fn0} {es:List FnE} (hl:∀F∈l,F.Ok P) (he:∀F∈es,F.Ok P) {gA:FuncId} {tabs:Tabs}
  (hA:∀W,hasTabs tabs W→@CallOk (plainEnv (tabs.map (·.1))) P gA [] W (.v (.bool true)) W) (hbA:∃fn,P.funcs[gA]?=some fn∧fn.body.isSome=true):@NoOwn (lawEnv l es gA tabs) P:=by
 refine @NoOwn.mk (lawEnv l es gA tabs) P h ?_
 intro g args W x W' hx
 have hx':lawExt l es gA tabs g args W=some (x,W'):=hx
 unfold lawExt at hx'
 split at hx'
 ·rename_i q hq
  simp only [Option.some.injEq]at hx'
  subst hx'
  obtain⟨h1,h2⟩:=@NoOwn.ext (fnEnv (tabs.map (·.1)) l) P (noOwn_fn h hl (tabs.map (·.1))) g args W x W' hq
  exact⟨@conv_ok (fnEnv (tabs.map (·.1)) l) (lawEnv l es gA tabs) rfl P _ _ _ _ _ h1,h2⟩
 ·split at hx'
  ·rename_i q hq
   simp only [Option.some.injEq]at hx'
   subst hx'
   obtain⟨F,h1,rfl,h3⟩:=runEs_mem hq
   exact⟨@conv_ok (plainEnv (tabs.map (·.1))) (lawEnv l es gA tabs) rfl P _ _ _ _ _ ((he F h1).1 args W W' x h3 _),(he F h1).2.1⟩
  ·unfold lawA at hx'
   split at hx'
   ·rename_i hc
    obtain⟨rfl,rfl,hc⟩:=hc
    simp only [Option.some.injEq,Prod.mk.injEq]at hx'
    obtain⟨rfl,rfl⟩:=hx'
    exact⟨@conv_ok (plainEnv (tabs.map (·.1))) (lawEnv l es g tabs) rfl P _ _ _ _ _ (hA W hc),hbA⟩
   ·simp at hx'
theorem runEs_none:∀ {l:List FnE} {g:FuncId} {args:List RV} {W:RW},(l.all fun G=>!Nat.beq G.g g)=true→runEs l g args W=none
 | [],g,args,W,h=>rfl
 | G :: r,g,args,W,h=>by
  simp only [List.all_cons,Bool.and_eq_true]at h
  unfold runEs
  have:Nat.beq G.g g=false:=by simpa using h.1
  simp only [this]
  exact runEs_none h.2
theorem knowOk_law {l:List Fn0} {es:List FnE} (hd:distinct l=true) (hde:distinctE es=true) (hap:apartB l es=true) (hl:∀F∈l,F.Ok P) (he:∀F∈es,F.Ok P) {gA:FuncId} {tabs:Tabs}
  (h1:(l.all fun G=>!Nat.beq G.g gA)=true) (h2:(es.all fun G=>!Nat.beq G.g gA)=true) :
  @KnowOk (lawEnv l es gA tabs) P (@ev0) ⟨l.map Fn0.con,es.map FnE.con++[conAwake gA tabs],Ora.no⟩:=by
 refine @KnowOk.mk (lawEnv l es gA tabs) P (@ev0) _ ?_ (@OraOk.no (lawEnv l es gA tabs) P) ?_
 ·intro con hcon args σ W K hW h
  obtain⟨F,hF,rfl⟩:=List.mem_map.1 hcon
  obtain⟨ds,h1,⟨hpre⟩,h2⟩:=sRead_ok hW (show sRead σ F.sh args _ from h)
  refine⟨F.sp ds,?_,h2⟩
  have hf:F.f (denL σ.B.n args) W=some (den 0 (F.sp ds)):=by
   unfold Fn0.f
   rw [h1]
   simp only [if_pos hpre]
  unfold callF
  have:@Env.ext (lawEnv l es gA tabs) F.con.g (denL σ.B.n args) W=some (den 0 (F.sp ds),W):=by
   show lawExt l es gA tabs F.g (denL σ.B.n args) W=_
   unfold lawExt
   rw [runF_of hd hF hf]
  rw [this]
  show some (den 0 (F.sp ds),W)=_
  rw [(hl F hF).2.2 ds σ.B.n]
 ·intro con hcon args σ K hw h
  rcases List.mem_append.1 hcon with hcon | hcon
  ·obtain⟨F,hF,rfl⟩:=List.mem_map.1 hcon
   obtain⟨x,σ',h1,h2⟩:=FnE.con_ok (he F hF) hw h
   refine⟨x,σ',?_,h2⟩
   unfold callF
   have hnone:runF l F.g (denL σ.B.n args) σ.den=none:=runF_none (by
    unfold apartB at hap
    rw [List.all_eq_true]at hap
    exact hap F hF)
   have:@Env.ext (lawEnv l es gA tabs) F.con.g (denL σ.B.n args) σ.den=some (den σ.B.n x,σ'.den):=by
    show lawExt l es gA tabs F.g (denL σ.B.n args) σ.den=_
    unfold lawExt
    rw [hnone]
    simp only
    rw [runEs_of hde hF,h1]
   rw [this]
  ·simp only [List.mem_cons,List.not_mem_nil,or_false]at hcon
   subst hcon
   cases args with
   | cons a r=>exact(show False from h).elim
   | nil =>
    obtain⟨⟨ht⟩,hK⟩:=(show Ob (hasTabs tabs σ.B)∧K (.v (.bool true)) σ from h)
    refine⟨.v (.bool true),σ,?_,rfl,hw,hK⟩
    have ht':hasTabs tabs σ.den:=by
     intro i o ho
     have h3:=ht i o ho
     rw [denM_get hw,if_pos (get_lt h3)]
     exact h3
    have:@Env.ext (lawEnv l es gA tabs) gA [] σ.den=some (.v (.bool true),σ.den):=by
     show lawExt l es gA tabs gA [] σ.den=_
     unfold lawExt
     rw [runF_none h1,runEs_none h2]
     simp only [lawA]
     rw [if_pos ⟨rfl,rfl,ht'⟩]
    unfold callF
    show(match @Env.ext (lawEnv l es gA tabs) gA [] σ.den with
     | some r=>some r
     | none=>_)=_
    rw [this]
    rfl
theorem law_calls (hP:Named P) {l:List Fn0} {es:List FnE} (hd:distinct l=true) (hde:distinctE es=true) (hap:apartB l es=true) (hl:∀F∈l,F.Ok P) (he:∀F∈es,F.Ok P) {gA:FuncId} {tabs:Tabs}
  (h1:(l.all fun G=>!Nat.beq G.g gA)=true) (h2:(es.all fun G=>!Nat.beq G.g gA)=true)
  (hA:∀W,hasTabs tabs W→@CallOk (plainEnv (tabs.map (·.1))) P gA [] W (.v (.bool true)) W) (hbA:∃fn,P.funcs[gA]?=some fn∧fn.body.isSome=true)
  {A:List SV→List Dat→Nat→List SV→Ann} {F:LawF} (hn:Ob (needL P l es gA tabs A F)) {m:Nat→Loc} {W:RW} {w:World} (hr:@Rel (plainEnv (tabs.map (·.1))) m W w) (ht:hasTabs tabs W)
  {args:List RV} {ds:List Dat} (hrd:readR W F.sh args=some ds) (hpre:F.pre ds) (hb:belowL W.n args=true) (hro:∀b o,W.get b=some o→o.own=false) :
  Calls P F.g (args.map (rv m)).toArray w fun e w'=>e=.returned (.bool true)∧RowKit.Below w.heap.size w w':=by
 obtain⟨as,ha,hw⟩:=allSh_ok hrd (hn.h W ht)
 have hB:@BOk (lawEnv l es gA tabs) W:=@BOk.of (lawEnv l es gA tabs) m W w (@Rel.conv (plainEnv (tabs.map (·.1))) (lawEnv l es gA tabs) rfl m W w hr)
 have hc:=@wFun_ok (lawEnv l es gA tabs) P _ _ _ (noOwn_law hP hl he hA hbA) (knowOk_law hd hde hap hl he h1 h2) as W _ hB (hw hpre)
 rw [ha]at hc
 intro cs
 obtain⟨y,W',m',w',fr,⟨y',σ,rfl,rfl,hσ,hwf,hq⟩,st,hlv,hfn,hr',hp,hx⟩:=hc m w cs (@Rel.conv (plainEnv (tabs.map (·.1))) (lawEnv l es gA tabs) rfl m W w hr) hb
 have hy:rv m' (den W.n y')=.bool true:=by
  unfold isTrue at hq
  split at hq
  ·rfl
  ·rename_i c
   simp only [den,rv]
   congr 1
   exact @decide_eq_true c (Classical.propDecidable c) hq.h
  ·exact hq.elim
 exact⟨.returned (rv m' (den W.n y')),w',fr,⟨by rw [hy],hp.below hro⟩,st,hfn,hlv⟩
end
end Go.Rv
namespace Go.Rv
open Go
structure In where
 g:FuncId
 A:List SV→List SObj→Nat→List SV→Ann
noncomputable section
def Ora.withY (V:Ora) (Y:Yd):Ora:=⟨V.on,V.has,V.run,Y⟩
def oraOf [Env] (P:Program) (l:List Con) (es:List ConE):List In→Ora
 | []=>Ora.no
 | i :: r=>⟨true,fun g=>match Nat.beq g i.g with
   | true=>true
   | false=>(oraOf P l es r).has g,
  fun Y g args σ K=>match Nat.beq g i.g with
   | true=>match σ with
    | ⟨B,n,L⟩=>wFunE P ⟨l,es,(oraOf P l es r).withY Y⟩ (i.A args L) n g args B L fun xs σ=>K (oneS xs) σ
   | false=>(oraOf P l es r).run Y g args σ K,Yd.no⟩
def needEI (P:Program) (l:List Fn0) (e:List FnE) (I:List SV→List Dat→List In) (A:List SV→List Dat→Nat→List SV→Ann) (F:FnE):Prop:=match F.blk with
 | none=>∀B:RW,allSh B F.sh fun as ds=>F.pre ds→@wFunE (fnEnv2 [] l e) P ⟨l.map Fn0.con,e.map FnE.con,@oraOf (fnEnv2 [] l e) P (l.map Fn0.con) (e.map FnE.con) (I as ds)⟩ (A as ds) 0 F.g as B [] fun xs σ =>
   F.ends ds xs fun res obj _=>wView 0 B (somes res) obj xs σ
 | some ss=>∀B:RW,allScs B ss fun cs d0=>allSh B F.sh fun as ds=>F.pre (d0++ds)→@wFunE (fnEnv2 [] l e) P ⟨l.map Fn0.con,e.map FnE.con,@oraOf (fnEnv2 [] l e) P (l.map Fn0.con) (e.map FnE.con) (I (.agg cs :: as) (d0++ds))⟩ (A (.agg cs :: as) (d0++ds)) 1 F.g (.ptr 0 0 :: as) B [.cells cs .ex] fun xs σ =>
   F.ends (d0++ds) xs fun res obj cel=>wView 1 B (somes (shiftL 1 res)) (obj.map (shiftO 1)++[.cells (shiftL 1 cel) .ex]) xs σ
end
section
variable {P:Program}
theorem oraOf_ok [Env] (hN:NoOwn P) {C:Know} (hC:KnowOk P ev0 C):∀I:List In,OraOk P (oraOf P C.C C.E I)
 | []=>OraOk.no
 | i :: r=>by
  have ih:=oraOf_ok hN hC r
  refine⟨?_,YdOk.no⟩
  intro Y hY g args σ K hhas hw hB h
  unfold oraOf at hhas h
  simp only at hhas h
  cases hg:Nat.beq g i.g with
  | false =>
   simp only [hg]at hhas h
   exact ih.c Y hY g args σ K hhas hw hB h
  | true =>
   simp only [hg]at h
   obtain⟨B,n,L⟩:=σ
   have hn:L.length=n:=hw.len
   subst hn
   simp only at h
   have hK:KnowOk P ev0 ⟨C.C,C.E,(oraOf P C.C C.E r).withY Y⟩:=⟨hC.c,⟨ih.c,hY⟩,hC.e⟩
   refine⟨?_,?_⟩
   ·have h':=h
    unfold wFunE at h'
    split at h'
    ·rename_i fn hfn
     split at h'
     ·rename_i c hc
      exact⟨fn,hfn,by simp [hc]⟩
     ·exact h'.elim
    ·exact h'.elim
   ·intro m w cs hr hb
    obtain⟨xs,σ',m',w',fr,h1,h2,h3,h4,h5,h6,h7,h8,h9⟩:=wFunE_to hN hK hB (Nat.le_refl _) h m w cs hr hb
    exact⟨_,_,m',w',fr,⟨oneS xs,σ',rfl,rfl,h2,h3,h1⟩,h4,h5,h6,h7,h8.all,h9⟩
theorem KnowOk.ora [Env] (hN:NoOwn P) {l:List Con} {es:List ConE} (hC:KnowOk P ev0 ⟨l,es,Ora.no⟩) (I:List In):KnowOk P ev0 ⟨l,es,oraOf P l es I⟩:=⟨hC.c,oraOf_ok hN hC I,hC.e⟩
theorem FnE.okI (hP:Named P) {l:List Fn0} {es:List FnE} (hd:distinct l=true) (hde:distinctE es=true) (hap:apartB l es=true) (hl:∀F∈l,F.Ok P) (he:∀F∈es,F.Ok P) {I:List SV→List Dat→List In} {A:List SV→List Dat→Nat→List SV→Ann} {F:FnE}
  (hb:(P.funcs[F.g]?).any (fun fn=>fn.body.isSome)=true) (hpl:∀ds,F.pre ds→∀o∈F.obj ds,∀n sz e k z,o=SObj.gr n sz e k z→PlainE n e) (h:Ob (needEI P l es I A F))
  (hpl2:∀a,F.alt=some a→∀ds,F.pre ds→a.c ds→∀o∈a.obj ds,∀n sz e k z,o=SObj.gr n sz e k z→PlainE n e:=by intro a h; exact absurd (show none=some a from h) (by simp)) (hpx:F.px=none:=by rfl):F.Ok P:=by
 obtain⟨h⟩:=h
 have hpl:∀ds,F.pre ds→∀o∈F.objA ds,∀n sz e k z,o=SObj.gr n sz e k z→PlainE n e:=by
  intro ds hp o ho
  unfold FnE.objA at ho
  split at ho
  ·exact hpl ds hp o ho
  ·rename_i a ha
   split at ho
   ·rename_i hc
    exact hpl2 a ha ds hp hc o ho
   ·exact hpl ds hp o ho
 have hN:=noOwn_fn2 hP hl he []
 have hC0:=knowOk_fn2 hd hde hap hl he []
 have hC:∀ins,@KnowOk (fnEnv2 [] l es) P ev0 ⟨l.map Fn0.con,es.map FnE.con,@oraOf (fnEnv2 [] l es) P (l.map Fn0.con) (es.map FnE.con) ins⟩:=fun ins=>@KnowOk.ora P (fnEnv2 [] l es) hN _ _ hC0 ins
 refine⟨?_,?_,hpl⟩
 ·intro args W W' x hrun ids
  have key:@CallOk (fnEnv2 [] l es) P F.g args W x W':=by
   unfold FnE.run at hrun
   simp only [hpx]at hrun
   unfold needEI at h
   split at hrun
   ·rename_i hblk
    simp only [hblk]at h
    split at hrun
    ·rename_i d hd'
     split at hrun
     ·rename_i hpre
      simp only [Option.some.injEq,Prod.mk.injEq]at hrun
      obtain⟨rfl,rfl⟩:=hrun
      obtain⟨as,h1,h2⟩:=allSh_ok hd' (h W)
      rw [← h1]
      exact FnE.none_ok rfl hN (hC _) (fun xs σ hq=>FnE.ends_ok hq) (h2 hpre)
     ·simp at hrun
    ·simp at hrun
   ·rename_i ss hblk
    simp only [hblk]at h
    split at hrun
    case h_2=>simp at hrun
    rename_i b rest
    split at hrun
    case h_2=>simp at hrun
    rename_i c hget
    split at hrun
    case h_2=>simp at hrun
    rename_i Wd hset
    split at hrun
    case h_2=>simp at hrun
    rename_i d0 d hd0 hd'
    split at hrun
    case isFalse=>simp at hrun
    rename_i hpre
    split at hrun
    case h_2=>simp at hrun
    rename_i W1 hset1
    simp only [Option.some.injEq,Prod.mk.injEq]at hrun
    obtain⟨rfl,rfl⟩:=hrun
    obtain⟨cs,h1,h2⟩:=allScs_ok hd0 (h Wd)
    obtain⟨as,h3,h4⟩:=allSh_ok hd' h2
    have hn:Wd.n=W.n:=(set_spec hset).1
    rw [hn]at h1 h3
    subst h1 h3
    exact FnE.blk_ok rfl hN (hC _) hget hset hset1 (fun xs σ hq=>FnE.ends_ok hq) (h4 hpre)
  have h4:@CallOk (plainEnv []) P F.g args W x W':=@conv_ok (fnEnv2 [] l es) (plainEnv []) rfl P _ _ _ _ _ key
  intro m w cs hrel hb
  have hrel0:@Rel (plainEnv []) m W w:=Rel.bare hrel
  obtain⟨m',w',fr,g1,g2,g3,g4,g5,g6⟩:=h4 m w cs hrel0 hb
  refine⟨m',w',fr,g1,g2,g3,?_,g5,g6⟩
  refine @Rel.mk (plainEnv ids) m' W' w' (@Rel.wf (plainEnv []) _ _ _ g4) (@Rel.obj (plainEnv []) _ _ _ g4) (@Rel.lt (plainEnv []) _ _ _ g4) (@Rel.inj (plainEnv []) _ _ _ g4) ?_
  intro i g hi
  obtain⟨k1,k2⟩:=@Rel.glb (plainEnv ids) _ _ _ hrel i g hi
  exact⟨Nat.lt_of_lt_of_le k1 g5.mono,by rw [g5.ag i k1]; exact k2⟩
 ·cases hg:P.funcs[F.g]? with
  | none=>rw [hg]at hb; simp at hb
  | some fn=>exact⟨fn,rfl,by rw [hg]at hb; simpa using hb⟩
end
end Go.Rv
namespace Go.Rv
open Go
structure KnE where
 F:FnE
 dec:List Dat→Bool
 out:List Dat→RV
noncomputable section
def KnE.run (k:KnE) (args:List RV) (W:RW):Option (RV×RW):=match readR W k.F.sh args with
 | some ds=>match k.dec ds with
  | true=>some (k.out ds,W)
  | false=>none
 | none=>none
def runKs:List KnE→FuncId→List RV→RW→Option (RV×RW)
 | [],_,_,_=>none
 | k :: r,g,args,W=>match Nat.beq k.F.g g with
  | true=>k.run args W
  | false=>runKs r g args W
@[reducible] def knEnv (ids:List Nat) (ks:List KnE):Env:=⟨ids,runKs ks⟩
end
variable {P:Program}
end Go.Rv
namespace Go.Rv
open Go Go.ChangeShapes Go.WideShapes Go.Deep
theorem rowAt_le {p:Program} {f:TypeId→Bool}:∀ {d:Nat} {e:TypeId} {count off n:Nat},rowAt p f d e count off n=true→off≤count*p.cellsOf e
 | 0,_,_,_,_,h=>by simp [rowAt]at h
 | d+1,e,count,off,n,h=>by
  unfold rowAt at h
  simp only at h
  split at h
  ·simp at h
  ·rename_i hs
   have hs':0 < p.cellsOf e:=Nat.pos_of_ne_zero hs
   have hdm:=Nat.div_add_mod off (p.cellsOf e)
   rw [Bool.or_eq_true,Bool.and_eq_true,Bool.and_eq_true,Bool.and_eq_true]at h
   rcases h with ⟨⟨h1,h2⟩,_⟩ | ⟨h1,_⟩
   ·have h1:off % p.cellsOf e=0:=by simpa using h1
    have h2:off / p.cellsOf e+n≤count:=by simpa using h2
    have:p.cellsOf e*(off / p.cellsOf e)≤p.cellsOf e*count:=Nat.mul_le_mul_left _ (by omega)
    rw [Nat.mul_comm count]
    omega
   ·have h1:off / p.cellsOf e < count:=by simpa using h1
    have:p.cellsOf e*(off / p.cellsOf e+1)≤p.cellsOf e*count:=Nat.mul_le_mul_left _ (by omega)
    have hm:=Nat.mod_lt off hs'
    rw [Nat.mul_add,Nat.mul_one]at this
    rw [Nat.mul_comm count]
    omega
theorem liesAt_le {p:Program}:∀ {d:Nat} {e:TypeId} {count off:Nat} {u:TypeId} {n:Nat},liesAt p d e count off u n=true→off≤count*p.cellsOf e
 | 0,_,_,_,_,_,h=>by simp [liesAt]at h
 | d+1,e,count,off,u,n,h=>by
  unfold liesAt at h
  rw [Bool.or_eq_true]at h
  rcases h with h | h
  ·exact rowAt_le h
  ·split at h
   ·exact liesAt_le h
   ·simp at h
theorem slice_at {P:Program} {w:World} {base:Nat} {t el:TypeId} {a:Addr} {len cap:Nat} (hu:P.underlying t=some (.slice el)) (h:Value.okWide P w .any base t (.slice (some a) len cap)) :
  a.spot=none∧∃arr ty fz,w.heap[a.block]?=some (.cells arr ty fz)∧a.off≤arr.size:=by
 unfold Value.okWide at h
 rw [hu]at h
 simp only [Cell.okWide,hu,Cell.ok]at h
 obtain⟨_,_,_,h1,row,cells,h2,h3⟩:=h
 refine⟨h1,?_⟩
 unfold World.shape? at h2
 split at h2
 ·rename_i c ty fz hh
  simp only [Option.some.injEq,Prod.mk.injEq]at h2
  obtain⟨rfl,rfl⟩:=h2
  refine⟨c,ty,fz,hh,?_⟩
  have h4:=liesAt_le h3
  exact Nat.le_trans h4 (Nat.div_mul_le_self _ _)
 ·simp at h2
def flatR (rows:List (List Int)):List RV:=rows.flatten.map fun z=>.v (.int .i64 z)
theorem flat_len {sz:Nat}:∀ {rows:List (List Int)},(∀r∈rows,r.length=sz)→(flatR rows).length=rows.length*sz
 | [],_=>by simp [flatR]
 | r :: rs,h=>by
  have:=flat_len (rows:=rs) fun r hr=>h r (List.mem_cons_of_mem _ hr)
  simp only [flatR,List.flatten_cons,List.map_append,List.length_append,List.length_map,List.length_cons]at this ⊢
  rw [h r List.mem_cons_self,Nat.add_mul,Nat.one_mul,this]
  omega
theorem flat_at {sz:Nat}:∀ {rows:List (List Int)},(∀r∈rows,r.length=sz)→∀(k:Nat) (x:RV),(flatR rows)[k]?=some x→∃i j r z,k=i*sz+j∧rows[i]?=some r∧r[j]?=some z∧x=.v (.int .i64 z)
 | [],_,k,x,h=>by simp [flatR]at h
 | r :: rs,hr,k,x,h=>by
  have hl:=hr r List.mem_cons_self
  by_cases hk:k < sz
  ·have:(flatR (r :: rs))[k]?=(r.map fun z=>RV.v (.int .i64 z))[k]?:=by
    simp only [flatR,List.flatten_cons,List.map_append]
    rw [List.getElem?_append_left (by rw [List.length_map,hl]; exact hk)]
   rw [this,List.getElem?_map,Option.map_eq_some_iff]at h
   obtain⟨z,h1,rfl⟩:=h
   exact⟨0,k,r,z,by omega,rfl,h1,rfl⟩
  ·have:(flatR (r :: rs))[k]?=(flatR rs)[k-sz]?:=by
    simp only [flatR,List.flatten_cons,List.map_append]
    rw [List.getElem?_append_right (by rw [List.length_map,hl]; omega),List.length_map,hl]
   rw [this]at h
   obtain⟨i,j,r',z,h1,h2,h3,rfl⟩:=flat_at (fun r h=>hr r (List.mem_cons_of_mem _ h)) _ _ h
   exact⟨i+1,j,r',z,by rw [Nat.add_mul]; omega,by simpa using h2,h3,rfl⟩
theorem ints_row (r:List Int):∀(sz:Nat),r.length=sz→intsOf (List.replicate sz .i64) (r.map fun z=>RV.v (.int .i64 z))=some r:=by
 induction r with
 | nil =>
  intro sz h
  have:sz=0:=by simpa using h.symm
  subst this
  rfl
 | cons z r ih =>
  intro sz h
  cases sz with
  | zero=>simp at h
  | succ sz =>
   simp only [List.replicate_succ,List.map_cons,intsOf,cellI,if_true,ih sz (by simpa using h)]
theorem rowsAt_flat {sz:Nat} {c:List RV}:∀ {rows:List (List Int)} {o:Nat},(∀r∈rows,r.length=sz)→c.drop o=flatR rows→o≤c.length→rowsAt (List.replicate sz .i64) c o rows.length=some rows
 | [],o,_,_,_=>rfl
 | r :: rs,o,hr,hc,ho=>by
  have hl:=hr r List.mem_cons_self
  have hfl:=flat_len hr
  have hlen:c.length-o=(rs.length+1)*sz:=by rw [← List.length_drop,hc,hfl,List.length_cons]
  rw [Nat.add_mul,Nat.one_mul]at hlen
  have hcut:lcut c o sz=some (r.map fun z=>RV.v (.int .i64 z)):=by
   rw [lcut_some (by omega),hc]
   simp only [flatR,List.flatten_cons,List.map_append]
   rw [List.take_append_of_le_length (by rw [List.length_map,hl]; exact Nat.le_refl _),List.take_of_length_le (by rw [List.length_map,hl]; exact Nat.le_refl _)]
  have hd:c.drop (o+sz)=flatR rs:=by
   rw [← List.drop_drop,hc]
   simp only [flatR,List.flatten_cons,List.map_append]
   rw [List.drop_append_of_le_length (by rw [List.length_map,hl]; exact Nat.le_refl _),List.drop_of_length_le (by rw [List.length_map,hl]; exact Nat.le_refl _),List.nil_append]
  have ih:=rowsAt_flat (o:=o+sz) (fun r h=>hr r (List.mem_cons_of_mem _ h)) hd (by omega)
  simp only [List.length_cons,rowsAt,List.length_replicate,hcut,ints_row r sz hl,ih]
theorem read_flat {W:RW} {b sz:Nat} {rows:List (List Int)} (hr:∀r∈rows,r.length=sz) (hc:cellsAt W b=some (flatR rows)):readRows W (List.replicate sz .i64) (.sl b 0 rows.length sz)=some rows:=by
 unfold readRows
 simp only [List.length_replicate,if_true,hc,Nat.zero_le]
 exact rowsAt_flat hr (by simp) (Nat.zero_le _)
section
variable [Env]
structure More (m m':Nat→Loc) (W W':RW) (w:World):Prop where
 rel:Rel m' W' w
 ag:Agree W.n m m'
 le:W.n≤W'.n
 get:∀b o,W.get b=some o→W'.get b=some o
 ro:∀b o,W'.get b=some o→o.own=false
theorem add_rows {m:Nat→Loc} {W:RW} {w:World} (hr:Rel m W w) (hro:∀b o,W.get b=some o→o.own=false) {a:Addr} (hs:a.spot=none) {arr:Array Value} {ty:TypeId} {fz:Nat×Nat} (hh:w.heap[a.block]?=some (.cells arr ty fz))
  {sz len cap:Nat} (hsz:0 < sz) (hlc:len≤cap) (hend:a.off+cap*sz≤arr.size) {rows:List (List Int)} (hlen:rows.length=len) (hrow:∀r∈rows,r.length=sz)
  (hc:∀i j r z,rows[i]?=some r→r[j]?=some z→arr[a.off+(i*sz+j)]?=some (.int .i64 z)) :
  ∃m' W' x,More m m' W W' w∧rv m' x=.slice (some a) len cap∧below W'.n x=true∧readRows W' (List.replicate sz .i64) x=some rows:=by
 have hfl:=flat_len hrow
 let l:Loc:=⟨a.block,a.off,a.off+cap*sz⟩
 have hup:∀b y,W.get b=some y→upd m W.n l b=m b:=fun b y hb=>by simp [upd,Nat.ne_of_lt (get_lt hb)]
 have hbc:∀n,belowC n (flatR rows)=true:=fun n=>(belowC_iff _ _).2 fun x hx=>by
  obtain⟨z,_,rfl⟩:=List.mem_map.1 hx
  exact⟨rfl,rfl⟩
 have hrel:Rel (upd m W.n l) (W.push (.cells (flatR rows) .ro)) w:=by
  refine⟨wf_push hr.wf _,?_,?_,?_,fun i g hi=>⟨Nat.lt_succ_of_lt (hr.glb i g hi).1,by rw [agree_upd m W.n l i (hr.glb i g hi).1]; exact(hr.glb i g hi).2⟩⟩
  ·intro b o hb
   rw [get_push]at hb
   by_cases hbn:b=W.n
   ·rw [if_pos hbn]at hb
    simp only [Option.some.injEq]at hb
    subst hb
    have hmb:upd m W.n l b=l:=by simp [upd,hbn]
    rw [hmb]
    refine⟨arr,ty,fz,hh,?_,fun hk=>absurd rfl hk,?_,hend,fun hk=>by simp at hk⟩
    ·intro k x hk
     obtain⟨i,j,r,z,rfl,h1,h2,rfl⟩:=flat_at hrow k x hk
     exact hc i j r z h1 h2
    ·rw [hfl,hlen]
     show a.off+len*sz≤a.off+cap*sz
     have:=Nat.mul_le_mul_right sz hlc
     omega
   ·rw [if_neg hbn]at hb
    rw [hup b o hb]
    exact(hr.obj b o hb).agree (hr.lt b o hb) (agree_upd _ _ _)
  ·intro b o hb
   rw [get_push]at hb
   by_cases hbn:b=W.n
   ·rw [if_pos hbn]at hb
    simp only [Option.some.injEq]at hb
    subst hb
    exact hbc _
   ·rw [if_neg hbn]at hb
    exact RObj.lt_mono (Nat.le_succ _) (hr.lt b o hb)
  ·intro b b' x y hb hb' hx hy hne
   rw [get_push]at hb
   by_cases hbn:b=W.n
   ·rw [if_pos hbn]at hb
    simp only [Option.some.injEq]at hb
    subst hb
    simp [RObj.own]at hx
   ·rw [if_neg hbn]at hb
    rw [hro b x hb]at hx
    simp at hx
 refine⟨upd m W.n l,W.push (.cells (flatR rows) .ro),.sl W.n 0 len sz,⟨hrel,agree_upd _ _ _,Nat.le_succ _,?_,?_⟩,?_,?_,?_⟩
 ·intro b o hb
  rw [get_push,if_neg (Nat.ne_of_lt (get_lt hb))]
  exact hb
 ·intro b o hb
  rw [get_push]at hb
  by_cases hbn:b=W.n
  ·rw [if_pos hbn]at hb
   simp only [Option.some.injEq]at hb
   subst hb
   rfl
  ·rw [if_neg hbn]at hb
   exact hro b o hb
 ·simp only [rv,upd,if_true,Nat.add_zero]
  have e1:(a.off+cap*sz-a.off) / sz=cap:=by rw [Nat.add_sub_cancel_left,Nat.mul_div_cancel _ hsz]
  show Value.slice (some ⟨a.block,a.off,none⟩) len ((a.off+cap*sz-a.off) / sz)=_
  rw [e1]
  cases a
  simp only at hs
  subst hs
  rfl
 ·simp [below,blt_eq,RW.push]
 ·rw [← hlen]
  exact read_flat hrow (by unfold cellsAt; rw [get_push,if_pos rfl])
theorem add_nil {m:Nat→Loc} {W:RW} {w:World} (hr:Rel m W w) (hro:∀b o,W.get b=some o→o.own=false) (ks:List IntKind) :
  ∃m' W' x,More m m' W W' w∧rv m' x=.slice none 0 0∧below W'.n x=true∧readRows W' ks x=some []:=
 ⟨m,W,.v (.slice none 0 0),⟨hr,fun _ _=>rfl,Nat.le_refl _,fun _ _ h=>h,hro⟩,rfl,rfl,rfl⟩
omit [Env] in
theorem cell_arr {w:World} {a:Addr} (hs:a.spot=none) {arr:Array Value} {ty:TypeId} {fz:Nat×Nat} (hh:w.heap[a.block]?=some (.cells arr ty fz)) {i:Nat} {v:Value} (h:w.cell? (a.add i)=some v):arr[a.off+i]?=some v:=by
 obtain⟨blk,off,sp⟩:=a
 simp only at hs hh
 subst hs
 have e:(⟨blk,off,none⟩:Addr).add i=⟨blk,off+i,none⟩:=by
  unfold Addr.add
  split
  ·rename_i hi; subst hi; rfl
  ·rfl
 rw [e]at h
 simp only [World.cell?,hh,Option.isSome_none,Bool.false_eq_true,if_false]at h
 exact h
section
variable {H:Type} {enc:TypeId×Value→H} {P:Program}
theorem add_ints {m:Nat→Loc} {W:RW} {w:World} (hr:Rel m W w) (hro:∀b o,W.get b=some o→o.own=false) {t el:TypeId} (hu:P.underlying t=some (.slice el)) (he:P.underlying el=some (.int .i64)) (hc1:P.cellsOf el=1)
  {base:Nat} {v:Value} {d:DataW H} {p:List MemPlace} (hval:Value.okWide P w .any base t v) (hd:DataW.Trod enc P w 0 (fun _=>true) true t v d p) :
  ∃m' W' x rows,More m m' W W' w∧rv m' x=v∧below W'.n x=true∧readRows W' [.i64] x=some rows∧rows.length≤9223372036854775807:=by
 obtain⟨b,len,cap,rfl⟩:=okWide_slice hu hval
 obtain⟨fuel,hf⟩:=hd
 rcases open_ints hu he hc1 hf with ⟨hcs,_⟩ | ⟨a,len',cap',zs,hcs,_,hlc,hm,hzl,_,hcell,_⟩
 ·simp [Value.cells]at hcs
  obtain⟨rfl,rfl,rfl⟩:=hcs
  obtain⟨m',W',x,h1,h2,h3,h4⟩:=add_nil hr hro [.i64]
  exact⟨m',W',x,[],h1,h2,h3,h4,by simp⟩
 ·simp [Value.cells]at hcs
  obtain⟨rfl,rfl,rfl⟩:=hcs
  obtain⟨hs,arr,ty,fz,hh,hoff⟩:=slice_at hu hval
  simp only [if_true]at hzl
  have hat:∀i,i < cap→arr[a.off+i]?=some (.int .i64 (zs.getD i 0)):=fun i hi=>cell_arr hs hh (hcell i (by omega))
  have hend:a.off+cap*1≤arr.size:=by
   rw [Nat.mul_one]
   cases cap with
   | zero=>exact hoff
   | succ c =>
    have:=(Array.getElem?_eq_some_iff.1 (hat c (by omega))).1
    omega
  obtain⟨m',W',x,h1,h2,h3,h4⟩:=add_rows hr hro hs hh (sz:=1) (by omega) hlc hend (rows:=(zs.take len).map fun z=>[z]) (by simp; omega) (by
   intro r hr
   obtain⟨z,_,rfl⟩:=List.mem_map.1 hr
   rfl) (by
   intro i j r z hi hj
   rw [List.getElem?_map,Option.map_eq_some_iff]at hi
   obtain⟨z',hz,rfl⟩:=hi
   have hj0:j=0:=by
    cases j with
    | zero=>rfl
    | succ j=>simp at hj
   subst hj0
   simp only [List.getElem?_cons_zero,Option.some.injEq]at hj
   subst hj
   rw [List.getElem?_take]at hz
   split at hz
   ·rename_i hil
    have hcap:i < cap:=by omega
    rw [Nat.mul_one,Nat.add_zero,hat i hcap,List.getD_eq_getElem?_getD,hz]
    rfl
   ·simp at hz)
  refine⟨m',W',x,_,h1,h2,h3,h4,?_⟩
  rw [List.length_map,List.length_take]
  have:maxLen=9223372036854775807:=rfl
  omega
end
end
end Go.Rv
namespace Go.Rv
open Go Go.ChangeShapes Go.WideShapes Go.Deep
section
variable {H:Type} {enc:TypeId×Value→H} {P:Program}
section
variable {w:World} {base:Nat} {spare:Nat→Bool} {held:Bool}
end
section
variable [Env]
end
end
end Go.Rv
