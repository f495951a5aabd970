import Derived.Test.YtdnphbnnhfpphaaTrE
import Derived.Test.YtdnphbnnhfpphaaTrH
namespace Go.Proofs.Ytdnphbnnhfpphaa.Sy
open Go Go.Rv
def rw4 (L:Rows) (k:Nat):List Int:=[cell L k 0,cell L k 1,cell L k 2,cell L k 3]
def fO (L:Rows) (g:Int):Nat→Rows
 | 0=>[]
 | k+1=>if cell L k 1=g then fO L g k++[rw4 L k]else fO L g k
def fB (L:Rows) (g:Int):Nat→Rows
 | 0=>[]
 | k+1=>if cell L k 1=g∧cell L k 0=1 then fB L g k++[rw4 L k]else fB L g k
def fR (L:Rows) (g:Int):Nat→Rows
 | 0=>[]
 | k+1=>if cell L k 1=g∧¬ cell L k 0=1 then fR L g k++[rw4 L k]else fR L g k
structure ApS where
 R:Rows
 L:Rows
 q:Int
 g:Nat
 k:Nat
structure ApOk (v:ApS):Prop where
 m:MkOk v.R
 a:LgOk v.R.length v.L
 w:∀r∈v.L,r.length=4
 l:v.L.length≤20
 g:v.g < v.R.length
end Go.Proofs.Ytdnphbnnhfpphaa.Sy
