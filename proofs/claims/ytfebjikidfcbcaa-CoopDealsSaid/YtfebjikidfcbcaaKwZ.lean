import Derived.Test.YtfebjikidfcbcaaSyP2
import Derived.Deep.Strs
namespace Go.Proofs.Ytfebjikidfcbcaa.Sy
open Go Go.Rv Go.ChangeShapes Go.WideShapes Go.ChangeAt Go.RowKit
set_option linter.unusedVariables false
section
variable {H:Type} {enc:TypeId×Value→H} {P:Program} {w:World} {base:Nat} {spare:Nat→Bool} {held:Bool}
theorem agg_coop {t:TypeId} {f0 f1 f2:Field} (hs:P.underlying t=some (.struct #[f0,f1,f2])) {d:Nat} (hC:P.cellsOf t=6) (o0:f0.offset=0) (k0:P.cellsOf f0.type=4) (o1:f1.offset=4) (k1:P.cellsOf f1.type=1) (o2:f2.offset=5) (k2:P.cellsOf f2.type=1)
  (i0:intT P d f0.type=true) (i2:intT P d f2.type=true) {r:Reach} {b0:Nat} {v:Value} {dd:DataW H} {p:List MemPlace} (hv:Value.okWide P w r b0 t v) (h:DataW.Trod enc P w base spare held t v dd p) :
  ∃(z0 z1 z2 z3 z4:Int) (s:Value) (y:DataW H×List MemPlace) (n:Nat),v=.agg #[.int .i64 z0,.int .i64 z1,.int .i64 z2,.int .i64 z3,s,.int .i64 z4]∧DataW.trod enc P w base spare held n f1.type [s]=some y:=by
 obtain⟨cs,rfl,hsz⟩:=okWide_struct hs hv
 obtain⟨fuel,hf⟩:=h
 obtain⟨y0,y1,y2,n,hx,hl,h0,h1,h2⟩:=Go.Deep.trod_struct3 hs hf
 obtain⟨a0,a1,a2,a3,a4,a5,rfl⟩:∃a0 a1 a2 a3 a4 a5,cs=#[a0,a1,a2,a3,a4,a5]:=by
  have hsz:=hsz.trans hC
  obtain⟨l⟩:=cs
  match l,hsz with
  | [a0,a1,a2,a3,a4,a5],_=>exact⟨a0,a1,a2,a3,a4,a5,rfl⟩
 simp only [o0,k0,o1,k1,o2,k2,Value.cells]at h0 h1 h2
 obtain⟨_,g0⟩:=trod_ints d i0 h0
 obtain⟨_,g2⟩:=trod_ints d i2 h2
 obtain⟨z0,e0⟩:=g0 0 (by omega)
 obtain⟨z1,e1⟩:=g0 1 (by omega)
 obtain⟨z2,e2⟩:=g0 2 (by omega)
 obtain⟨z3,e3⟩:=g0 3 (by omega)
 obtain⟨z4,e4⟩:=g2 0 (by omega)
 have E0:a0=.int .i64 z0:=by simpa using e0
 have E1:a1=.int .i64 z1:=by simpa using e1
 have E2:a2=.int .i64 z2:=by simpa using e2
 have E3:a3=.int .i64 z3:=by simpa using e3
 have E4:a5=.int .i64 z4:=by simpa using e4
 subst E0
 subst E1
 subst E2
 subst E3
 subst E4
 exact⟨z0,z1,z2,z3,z4,a4,y1,n,rfl,by simpa using h1⟩
end
end Go.Proofs.Ytfebjikidfcbcaa.Sy
