import Derived.Test.YtfebjikidfcbcaaSyP2
import Derived.Test.YtfebjikidfcbcaaGrM
import Derived.Test.YtfebjikidfcbcaaStM
import Derived.Test.YtfebjikidfcbcaaKtT
import Derived.Test.YtfebjikidfcbcaaKtA
import Derived.Test.YtfebjikidfcbcaaSyP2
import Derived.KernelRfl
import Derived.Test.YtfebjikidfcbcaaProg
namespace Go.Proofs.Ytfebjikidfcbcaa.Sy
open Go Go.Rv
set_option linter.unusedVariables false
def itQ (Q:Int→Int) (a:Int):Nat→Int
 | 0=>a
 | k+1=>Q (itQ Q a k)
def itR (Q:Int→Int) (row:Int→List Int) (a:Int):Nat→Rows
 | 0=>[]
 | k+1=>itR Q row a k++[row (itQ Q a k)]
theorem itQ_succ (Q:Int→Int) (a:Int) (k:Nat):itQ Q a (k+1)=Q (itQ Q a k):=rfl
theorem it_len (Q:Int→Int) (row:Int→List Int) (a:Int):∀k,(itR Q row a k).length=k
 | 0=>rfl
 | k+1=>by simp [itR,it_len Q row a k]
theorem getD_appL {α:Type} {l r:List α} {d:α} {i:Nat} (h:i < l.length):(l++r).getD i d=l.getD i d:=by
 rw [List.getD_eq_getElem?_getD,List.getD_eq_getElem?_getD,List.getElem?_append_left h]
theorem it_get (Q:Int→Int) (row:Int→List Int) (a:Int):∀k i,i < k→(itR Q row a k).getD i []=row (itQ Q a i)
 | 0,i,hi=>by omega
 | k+1,i,hi=>by
  have hl:=it_len Q row a k
  simp only [itR]
  by_cases e:i=k
  ·subst e
   rw [List.getD_eq_getElem?_getD,List.getElem?_append_right (by omega),hl,Nat.sub_self]
   rfl
  ·rw [getD_appL (by omega)]
   exact it_get Q row a k i (by omega)
theorem it_cell (Q:Int→Int) (row:Int→List Int) (a:Int) {k i:Nat} (h:i < k) (j:Nat):cell (itR Q row a k) i j=(row (itQ Q a i)).getD j 0:=by
 unfold cell
 rw [it_get Q row a k i h]
theorem snoc3 {R:Rows} {k:Nat} {x y z:Int} (hl:R.length=k):∀i,i < k+1→(behind k (.fn (Rv.elemOf [.i64,.i64,.i64] R)) 1 (litEl [SV.i .i64 x,SV.i .i64 y,SV.i .i64 z] 3 1)).at i=(El.fn (Rv.elemOf [.i64,.i64,.i64] (R++[[x,y,z]]))).at i:=fun i hi=>by
 have:=snoc_at (R:=R) (ks:=[.i64,.i64,.i64]) (r:=[x,y,z]) (cs:=[SV.i .i64 x,SV.i .i64 y,SV.i .i64 z]) rfl (i:=i) (by omega)
 rw [hl]at this
 exact this
theorem l3_0 {x y z:Int}:[x,y,z].getD 0 0=x:=rfl
theorem l3_1 {x y z:Int}:[x,y,z].getD 1 0=y:=rfl
theorem l3_2 {x y z:Int}:[x,y,z].getD 2 0=z:=rfl
end Go.Proofs.Ytfebjikidfcbcaa.Sy
