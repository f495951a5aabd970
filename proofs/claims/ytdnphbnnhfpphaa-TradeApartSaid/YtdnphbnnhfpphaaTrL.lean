import Derived.Test.YtdnphbnnhfpphaaTrC
namespace Go.Proofs.Ytdnphbnnhfpphaa.Sy
open Go Go.Rv
theorem dn_up2 {n:Nat} {L:Rows} (h:LgOk n L) {i q:Int} {c:Nat} (hc:c < 2) {k:Nat}:∀ {m:Nat},k≤m→m≤L.length→dn L i q c k≤dn L i q c m
 | 0,hk,_=>by
  have:k=0:=by omega
  subst this
  exact Int.le_refl _
 | m+1,hk,hm=>by
  by_cases e:k=m+1
  ·subst e; exact Int.le_refl _
  ·have ih:=dn_up2 h (i:=i) (q:=q) hc (k:=k) (m:=m) (by omega) (by omega)
   have A:=(h.a m (by omega)).cg c hc
   by_cases e2:cell L m 1=i∧cell L m 0=q
   ·rw [dn_hit e2.1 e2.2]; omega
   ·rw [dn_miss e2]; exact ih
end Go.Proofs.Ytdnphbnnhfpphaa.Sy
