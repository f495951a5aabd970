import Derived.Test.YtfebjikidfcbcaaGrM
namespace Go.Proofs.Ytfebjikidfcbcaa.Sy
open Go Go.Rv
def sumF (f:Nat→Int):Nat→Int
 | 0=>0
 | n+1=>sumF f n+f n
theorem sumF_congr {f g:Nat→Int}:∀ {n:Nat},(∀i,i < n→f i=g i)→sumF f n=sumF g n
 | 0,_=>rfl
 | n+1,h=>by
  simp only [sumF]
  rw [sumF_congr fun i hi=>h i (by omega),h n (by omega)]
theorem sumF_zero:∀(n:Nat),sumF (fun _=>0) n=0
 | 0=>rfl
 | n+1=>by simp only [sumF,sumF_zero n]; omega
theorem sumF_add (f g:Nat→Int):∀n,sumF (fun i=>f i+g i) n=sumF f n+sumF g n
 | 0=>rfl
 | n+1=>by simp only [sumF,sumF_add f g n]; omega
theorem sumF_nn {f:Nat→Int}:∀ {n:Nat},(∀i,i < n→0≤f i)→0≤sumF f n
 | 0,_=>by simp [sumF]
 | n+1,h=>by
  have h1:=sumF_nn (f:=f) (n:=n) fun i hi=>h i (by omega)
  have h2:=h n (by omega)
  simp only [sumF]
  omega
end Go.Proofs.Ytfebjikidfcbcaa.Sy
