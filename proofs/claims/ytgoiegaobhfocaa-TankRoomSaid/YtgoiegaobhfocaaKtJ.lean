import Derived.Test.YtgoiegaobhfocaaSyP2
import Derived.Test.YtgoiegaobhfocaaKtI
namespace Go.Proofs.Ytgoiegaobhfocaa.Sy
open Go Go.Rv
set_option linter.unusedVariables false
noncomputable section
def nextDec (l:List Dat):Bool:=match l with
 | .l T :: .l R :: .z s1 :: .z s2 :: .z s3 :: .z s4 :: .z s5 :: .z s6 :: .z u1 :: .z u2 :: .z v1 :: .z v2 :: .z a1 :: .z a2 :: .z g1 :: .z g2 :: .z le :: .z mo :: .z w1 :: .z w2 :: .z lt :: .z gr :: .z t1 :: .z t2 :: .z t3 :: .z t4 :: .z t5 :: .z t6 :: .z nu :: .z n1 :: .z n2 :: .z n3 :: .z n4 :: .z n5 :: .z n6 :: .z fl :: []=>decide (1≤lt) && decide (lt≤100000) && decide (-100000≤fl) && decide (fl≤100000) && decide (0≤gr) && decide (gr≤10000000) && decide (-100000≤0-u1) && decide (0-u1≤100000) && decide (-100000≤0-u2) && decide (0-u2≤100000) && decide (-100000≤s1) && decide (s1≤100000) && decide (-100000≤s2) && decide (s2≤100000) && decide (-100000≤s3) && decide (s3≤100000) && decide (-100000≤s4) && decide (s4≤100000) && decide (-100000≤s5) && decide (s5≤100000) && decide (-100000≤s6) && decide (s6≤100000) && decide (-100000≤u1) && decide (u1≤100000) && decide (-100000≤u2) && decide (u2≤100000) && decide (-100000≤v1) && decide (v1≤100000) && decide (-100000≤v2) && decide (v2≤100000) && decide (-100000≤a1) && decide (a1≤100000) && decide (-100000≤a2) && decide (a2≤100000) && decide (-100000≤g1) && decide (g1≤100000) && decide (-100000≤g2) && decide (g2≤100000) && decide (-100000≤n1) && decide (n1≤100000) && decide (-100000≤n2) && decide (n2≤100000) && decide (-100000≤n3) && decide (n3≤100000) && decide (-100000≤n4) && decide (n4≤100000) && decide (-100000≤n5) && decide (n5≤100000) && decide (-100000≤n6) && decide (n6≤100000)
 | _=>false
def nextOut (l:List Dat):RV:=match l with
 | .l T :: .l R :: .z s1 :: .z s2 :: .z s3 :: .z s4 :: .z s5 :: .z s6 :: .z u1 :: .z u2 :: .z v1 :: .z v2 :: .z a1 :: .z a2 :: .z g1 :: .z g2 :: .z le :: .z mo :: .z w1 :: .z w2 :: .z lt :: .z gr :: .z t1 :: .z t2 :: .z t3 :: .z t4 :: .z t5 :: .z t6 :: .z nu :: .z n1 :: .z n2 :: .z n3 :: .z n4 :: .z n5 :: .z n6 :: .z fl :: []=>fint (wLo lt fl gr n1 s1 a1 (0-u2) 0 100000) fun o0=>fint (wHi lt fl gr n2 s2 a2 (0-u1) 0 100000) fun o1=>fint (wLo lt fl gr n3 s3 0 v1 0 100000) fun o2=>fint (wHi lt fl gr n4 s4 0 v2 0 100000) fun o3=>fint (wLo lt fl gr n5 s5 g1 0 (-50) 400) fun o4=>fint (wHi lt fl gr n6 s6 g2 0 (-50) 400) fun o5=>.agg [.v (.int .i64 o0),.v (.int .i64 o1),.v (.int .i64 o2),.v (.int .i64 o3),.v (.int .i64 o4),.v (.int .i64 o5)]
 | _=>ud
def nextK:KnE:=⟨F_nextW,nextDec,nextOut⟩
end
theorem nextK_ok:nextK.Ok P:=by
 refine⟨nextW_ok,rfl,rfl,fun ds hd=>?_,rfl⟩
 have hd:nextDec ds=true:=hd
 unfold nextDec at hd
 split at hd
 ·simp only [Bool.and_eq_true,decide_eq_true_eq]at hd
  refine⟨?_,rfl,fun N=>?_⟩
  ·refine⟨by omega,by omega,by omega,?_⟩
   intro x hx
   simp only [List.mem_cons,List.not_mem_nil,or_false]at hx
   rcases hx with rfl | rfl | rfl | rfl | rfl | rfl | rfl | rfl | rfl | rfl | rfl | rfl | rfl | rfl | rfl | rfl | rfl | rfl | rfl | rfl | rfl | rfl | rfl<;>omega
  ·simp only [nextK,F_nextW,nextOut,fint_eq,oneS,den,denL]
 ·simp at hd
end Go.Proofs.Ytgoiegaobhfocaa.Sy
