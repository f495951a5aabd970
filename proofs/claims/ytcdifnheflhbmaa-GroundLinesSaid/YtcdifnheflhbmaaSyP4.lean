import Derived.Test.YtcdifnheflhbmaaSyP3
import Derived.Test.YtcdifnheflhbmaaSyP2
namespace Go.Rv
open Go
mutual
def ren (f:Nat→Nat):RV→RV
 | .v x=>.v x
 | .ptr b o=>.ptr (f b) o
 | .sl b o n e=>.sl (f b) o n e
 | .mp b=>.mp (f b)
 | .it b=>.it (f b)
 | .fn g a c=>.fn g (renL f a) (renL f c)
 | .yld b=>.yld (f b)
 | .agg cs=>.agg (renL f cs)
 | .tup cs=>.tup (renL f cs)
def renL (f:Nat→Nat):List RV→List RV
 | []=>[]
 | x :: r=>ren f x :: renL f r
end
theorem renL_eq (f:Nat→Nat):∀l:List RV,renL f l=l.map (ren f)
 | []=>rfl
 | x :: r=>by simp only [renL,List.map_cons,renL_eq f r]
mutual
theorem rv_ren (m:Nat→Loc) (f:Nat→Nat):∀x:RV,rv m (ren f x)=rv (fun b=>m (f b)) x
 | .v x=>rfl
 | .ptr b o=>rfl
 | .sl b o n e=>rfl
 | .mp b=>rfl
 | .it b=>rfl
 | .fn g a c=>by simp only [ren,rv,rvL_ren m f a,rvL_ren m f c]
 | .yld b=>rfl
 | .agg cs=>by simp only [ren,rv,rvL_ren m f cs]
 | .tup cs=>by simp only [ren,rv,rvL_ren m f cs]
theorem rvL_ren (m:Nat→Loc) (f:Nat→Nat):∀l:List RV,rvL m (renL f l)=rvL (fun b=>m (f b)) l
 | []=>rfl
 | x :: r=>by simp only [renL,rvL,rv_ren m f x,rvL_ren m f r]
end
mutual
theorem renId_of {n:Nat} (f:Nat→Nat) (h:∀b,b < n→f b=b):∀x:RV,below n x=true→ren f x=x
 | .v x,_=>rfl
 | .ptr b o,hx=>by
  simp only [below,blt_eq,decide_eq_true_eq]at hx
  simp only [ren,h b hx]
 | .sl b o c e,hx=>by
  simp only [below,blt_eq,decide_eq_true_eq]at hx
  simp only [ren,h b hx]
 | .mp b,hx=>by
  simp only [below,blt_eq,decide_eq_true_eq]at hx
  simp only [ren,h b hx]
 | .it b,hx=>by
  simp only [below,blt_eq,decide_eq_true_eq]at hx
  simp only [ren,h b hx]
 | .fn g a c,hx=>by
  simp only [below,Bool.and_eq_true]at hx
  simp only [ren,renIdL_of f h a hx.1,renIdL_of f h c hx.2]
 | .yld b,hx=>by
  simp only [below,blt_eq,decide_eq_true_eq]at hx
  simp only [ren,h b hx]
 | .agg cs,hx=>by simp only [ren,renIdC_of f h cs hx]
 | .tup cs,hx=>by simp only [ren,renIdL_of f h cs hx]
theorem renIdL_of {n:Nat} (f:Nat→Nat) (h:∀b,b < n→f b=b):∀l:List RV,belowL n l=true→renL f l=l
 | [],_=>rfl
 | x :: r,hx=>by
  simp only [belowL,Bool.and_eq_true]at hx
  simp only [renL,renId_of f h x hx.1,renIdL_of f h r hx.2]
theorem renIdC_of {n:Nat} (f:Nat→Nat) (h:∀b,b < n→f b=b):∀l:List RV,belowC n l=true→renL f l=l
 | [],_=>rfl
 | x :: r,hx=>by
  simp only [belowC,Bool.and_eq_true]at hx
  simp only [renL,renId_of f h x hx.1.2,renIdC_of f h r hx.2]
end
theorem oneB_ren (f:Nat→Nat) (x:RV):oneB (ren f x)=oneB x:=by cases x<;>rfl
mutual
theorem below_ren {f:Nat→Nat} {n n2:Nat} (h:∀b,b < n→f b < n2):∀x:RV,below n x=true→below n2 (ren f x)=true
 | .v x,hx=>by cases x<;>first | exact hx | rfl
 | .ptr b o,hx=>by
  simp only [ren,below,blt_eq,decide_eq_true_eq]at hx ⊢
  exact h _ hx
 | .sl b o c e,hx=>by
  simp only [ren,below,blt_eq,decide_eq_true_eq]at hx ⊢
  exact h _ hx
 | .mp b,hx=>by
  simp only [ren,below,blt_eq,decide_eq_true_eq]at hx ⊢
  exact h _ hx
 | .it b,hx=>by
  simp only [ren,below,blt_eq,decide_eq_true_eq]at hx ⊢
  exact h _ hx
 | .fn g a c,hx=>by
  simp only [ren,below,Bool.and_eq_true]at hx ⊢
  exact⟨belowL_ren h a hx.1,belowL_ren h c hx.2⟩
 | .yld b,hx=>by
  simp only [ren,below,blt_eq,decide_eq_true_eq]at hx ⊢
  exact h _ hx
 | .agg cs,hx=>belowC_ren h cs hx
 | .tup cs,hx=>belowL_ren h cs hx
theorem belowL_ren {f:Nat→Nat} {n n2:Nat} (h:∀b,b < n→f b < n2):∀l:List RV,belowL n l=true→belowL n2 (renL f l)=true
 | [],_=>rfl
 | x :: r,hx=>by
  simp only [renL,belowL,Bool.and_eq_true]at hx ⊢
  exact⟨below_ren h x hx.1,belowL_ren h r hx.2⟩
theorem belowC_ren {f:Nat→Nat} {n n2:Nat} (h:∀b,b < n→f b < n2):∀l:List RV,belowC n l=true→belowC n2 (renL f l)=true
 | [],_=>rfl
 | x :: r,hx=>by
  simp only [renL,belowC,Bool.and_eq_true]at hx ⊢
  exact⟨⟨by rw [oneB_ren]; exact hx.1.1,below_ren h x hx.1.2⟩,belowC_ren h r hx.2⟩
end
def renO (f:Nat→Nat) (o:RObj):RObj:=match o with
 | .cells c k=>.cells (renL f c) k
 | _=>.dead
theorem intsOf_ren (f:Nat→Nat):∀ {ks:List IntKind} {l:List RV} {r:List Int},intsOf ks l=some r→intsOf ks (renL f l)=some r
 | [],[],r,h=>h
 | k :: ks,x :: l,r,h=>by
  simp only [intsOf]at h
  split at h
  ·rename_i j z
   split at h
   ·rename_i hj
    split at h
    ·rename_i zs hz
     simp only [renL,ren,intsOf,if_pos hj,intsOf_ren f hz]
     exact h
    ·simp at h
   ·simp at h
  ·simp at h
 | [],_ :: _,r,h=>by simp [intsOf]at h
 | _ :: _,[],r,h=>by simp [intsOf]at h
theorem lcut_ren (f:Nat→Nat) {c l:List RV} {o n:Nat} (h:lcut c o n=some l):lcut (renL f c) o n=some (renL f l):=by
 have hle:o+n≤c.length:=(lcut_spec h).1
 rw [lcut_some hle]at h
 rw [lcut_some (by rw [renL_eq,List.length_map]; exact hle)]
 simp only [Option.some.injEq]at h
 subst h
 simp only [renL_eq,List.map_drop,List.map_take]
theorem rowsAt_ren (f:Nat→Nat) {ks:List IntKind} {c:List RV}:∀ {n o:Nat} {rows:List (List Int)},rowsAt ks c o n=some rows→rowsAt ks (renL f c) o n=some rows
 | 0,o,rows,h=>h
 | n+1,o,rows,h=>by
  simp only [rowsAt]at h
  split at h
  ·rename_i l hl
   split at h
   ·rename_i r rs h1 h2
    simp only [rowsAt,lcut_ren f hl,intsOf_ren f h1,rowsAt_ren f h2]
    exact h
   ·simp at h
  ·simp at h
def SeenAs (f:Nat→Nat) (W W2:RW):Prop:=∀b c,cellsAt W b=some c→cellsAt W2 (f b)=some (renL f c)
theorem renL_len (f:Nat→Nat) (l:List RV):(renL f l).length=l.length:=by rw [renL_eq,List.length_map]
theorem readRows_ren {f:Nat→Nat} {W W2:RW} (h:SeenAs f W W2) {ks:List IntKind} {x:RV} {rows:List (List Int)} (hr:readRows W ks x=some rows):readRows W2 ks (ren f x)=some rows:=by
 unfold readRows at hr
 split at hr
 ·exact hr
 ·rename_i b o n e
  split at hr
  ·rename_i he
   split at hr
   ·rename_i c hc
    split at hr
    ·rename_i ho
     simp only [ren,readRows,if_pos he,h b c hc,renL_len,if_pos ho]
     exact rowsAt_ren f hr
    ·simp at hr
   ·simp at hr
  ·simp at hr
 ·simp at hr
theorem listsAt_ren {f:Nat→Nat} {W W2:RW} (h:SeenAs f W W2) {ks:List IntKind} {c:List RV}:∀ {n o:Nat} {R:List (List (List Int))},listsAt W ks c o n=some R→listsAt W2 ks (renL f c) o n=some R
 | 0,o,R,hr=>hr
 | n+1,o,R,hr=>by
  simp only [listsAt]at hr
  split at hr
  ·rename_i y hy
   split at hr
   ·rename_i r rs h1 h2
    have hy2:lget (renL f c) o=some (ren f y):=by
     rw [lget_eq]at hy ⊢
     rw [renL_eq,List.getElem?_map,hy]
     rfl
    simp only [listsAt,hy2,readRows_ren h h1,listsAt_ren h h2]
    exact hr
   ·simp at hr
  ·simp at hr
theorem readLL_ren {f:Nat→Nat} {W W2:RW} (h:SeenAs f W W2) {ks:List IntKind} {x:RV} {R:List (List (List Int))} (hr:readLL W ks x=some R):readLL W2 ks (ren f x)=some R:=by
 unfold readLL at hr
 split at hr
 ·exact hr
 ·rename_i b o n e
  split at hr
  ·rename_i he
   split at hr
   ·rename_i c hc
    split at hr
    ·rename_i ho
     simp only [ren,readLL,if_pos he,h b c hc,renL_len,if_pos ho]
     exact listsAt_ren h hr
    ·simp at hr
   ·simp at hr
  ·simp at hr
 ·simp at hr
def noLx (s:Sc):Bool:=match s with
 | .lx _=>false
 | _=>true
theorem readSc_ren {f:Nat→Nat} {W W2:RW} (h:SeenAs f W W2) {s:Sc} {x:RV} {d:Dat} (hs:noLx s=true) (hr:readSc W s x=some d):readSc W2 s (ren f x)=some d:=by
 cases s with
 | lx ks=>simp [noLx]at hs
 | l ks =>
  simp only [readSc]at hr ⊢
  split at hr
  ·rename_i rows h1
   rw [readRows_ren h h1]
   exact hr
  ·simp at hr
 | ll ks =>
  simp only [readSc]at hr ⊢
  split at hr
  ·rename_i R h1
   rw [readLL_ren h h1]
   exact hr
  ·simp at hr
 | _ =>
  cases x with
  | v y=>exact hr
  | _=>simp [readSc]at hr
theorem readScs_ren {f:Nat→Nat} {W W2:RW} (h:SeenAs f W W2):∀ {ss:List Sc} {xs:List RV} {ds:List Dat},ss.all noLx=true→readScs W ss xs=some ds→readScs W2 ss (renL f xs)=some ds
 | [],[],ds,_,hr=>hr
 | s :: r,x :: xs,ds,hs,hr=>by
  simp only [List.all_cons,Bool.and_eq_true]at hs
  simp only [readScs]at hr
  split at hr
  ·rename_i d ds' h1 h2
   simp only [renL,readScs,readSc_ren h hs.1 h1,readScs_ren h hs.2 h2]
   exact hr
  ·simp at hr
 | [],_ :: _,ds,_,hr=>by simp [readScs]at hr
 | _ :: _,[],ds,_,hr=>by simp [readScs]at hr
def okRs:Sh→Bool
 | .one s=>noLx s
 | .agg l=>l.all noLx
 | .ptr _=>false
theorem readR_ren {f:Nat→Nat} {W W2:RW} (h:SeenAs f W W2):∀ {sh:List Sh} {xs:List RV} {ds:List Dat},sh.all okRs=true→readR W sh xs=some ds→readR W2 sh (renL f xs)=some ds
 | [],[],ds,_,hr=>hr
 | .one s :: r,x :: xs,ds,hs,hr=>by
  simp only [List.all_cons,Bool.and_eq_true]at hs
  simp only [readR]at hr
  split at hr
  ·rename_i d ds' h1 h2
   simp only [renL,readR,readSc_ren h hs.1 h1,readR_ren h hs.2 h2]
   exact hr
  ·simp at hr
 | .agg l :: r,x :: xs,ds,hs,hr=>by
  simp only [List.all_cons,Bool.and_eq_true]at hs
  cases x with
  | agg cs =>
   simp only [readR]at hr
   split at hr
   ·rename_i d ds' h1 h2
    simp only [renL,ren,readR,readScs_ren h hs.1 h1,readR_ren h hs.2 h2]
    exact hr
   ·simp at hr
  | _=>simp [readR]at hr
 | .ptr l :: r,x :: xs,ds,hs,hr=>by simp [okRs]at hs
 | [],_ :: _,ds,_,hr=>by simp [readR]at hr
 | .one _ :: _,[],ds,_,hr=>by simp [readR]at hr
 | .agg _ :: _,[],ds,_,hr=>by simp [readR]at hr
variable [Env]
section
variable {P:Program}
omit [Env] in
theorem one_low {v:Value} {n:Nat} (h:oneV v=true):below n (.v v)=true:=by
 cases v<;>simp_all [below,oneV]
omit [Env] in
theorem live_or (o:RObj):o=.dead∨o.live=true:=by cases o<;>first | exact .inl rfl | exact .inr rfl
omit [Env] in
theorem sget_lt {σ:SMem} {j:Nat} {o:SObj} (h:σ.get j=some o):j < σ.n:=by
 unfold SMem.get at h
 rw [blt_eq]at h
 by_cases hj:j < σ.n
 ·exact hj
 ·simp [hj]at h
omit [Env] in
theorem sget_some {B:RW} {n:Nat} {L:List SObj} (hl:L.length=n) {j:Nat} (hj:j < n):∃o,SMem.get ⟨B,n,L⟩ j=some o∧L[n-1-j]?=some o:=by
 have hi:n-1-j < L.length:=by omega
 refine⟨L[n-1-j],?_,List.getElem?_eq_getElem hi⟩
 unfold SMem.get
 simp only [blt_eq,hj,decide_true,if_true,lget_eq]
 exact List.getElem?_eq_getElem hi
omit [Env] in
theorem den_loc {B:RW} {n:Nat} {L:List SObj} (hl:L.length=n) {j:Nat} {o:SObj} (h:SMem.get ⟨B,n,L⟩ j=some o):(SMem.den ⟨B,n,L⟩).get (B.n+j)=some (denO B.n o):=by
 rw [denM_get (⟨hl⟩:SMem.Wf ⟨B,n,L⟩),if_neg (by simp),show B.n+j-B.n=j by omega,h]
 rfl
set_option maxHeartbeats 2000000 in
theorem grow_core {B:RW} {n:Nat} {L Lm L1:List SObj} {kk:Nat→Prop} (hB:BOk B) (hl:L.length=n) (hlm:Lm.length=n) (hl1:L1.length=n)
  (hm:∀j o,SMem.get ⟨B,n,Lm⟩ j=some o→o=.dead∨(kk j∧SMem.get ⟨B,n,L⟩ j=some o)) (h1:∀j o,SMem.get ⟨B,n,L1⟩ j=some o→¬ kk j→SMem.get ⟨B,n,L⟩ j=some o)
  {W' Wd:RW} (hk:∀j,j < n→kk j→∃cel,SMem.get ⟨B,n,L1⟩ j=some (.cells cel .ex)∧(∀y∈cel,plain1 y)∧W'.get (B.n+j)=some (.cells (denL 0 cel) .ex)) (_hlive:∀j,j < n→kk j→∃o,SMem.get ⟨B,n,L⟩ j=some o∧(denO B.n o).own=true)
  (_hnk:∀j o,j < n→¬ kk j→W'.get (B.n+j)=some o→o=.dead)
  (hbase:∀b,b < B.n→W'.get b=B.get b) (hWd:∀b c,cellsAt Wd b=some c→cellsAt W' b=some c∧¬ (B.n≤b∧b < B.n+n)) (hnew:∀b o,B.n+n≤b→W'.get b=some o→OkObj Wd o)
  {m m':Nat→Loc} {w w':World} (hr:Rel m (SMem.den ⟨B,n,L⟩) w) (hr':Rel m' W' w') (hp:Post m (SMem.den ⟨B,n,Lm⟩) w m' W' w') :
  ∃(g:Nat) (B':RW) (m2:Nat→Loc) (ρ:Nat→Nat),B'.n=B.n+g∧W'.n=B.n+n+g∧Grow B B'∧BOk B'∧Turn Fz.no B.n n B'.n m m2∧(∀b,b < W'.n→m2 (ρ b)=m' b)∧(∀b,b < W'.n→ρ b < B'.n+n)∧SeenAs ρ Wd B'∧(∀j,m2 (B'.n+j)=m (B.n+j)) ∧
   ∀L':List SObj,L'.length=n→(∀(i:Nat) (o o':SObj),L1[i]?=some o→L'[i]?=some o'→CO B.n n B'.n m m2 o o') →
    Rel m2 (SMem.den ⟨B',n,L'⟩) w'∧PostG B.n n B'.n m (SMem.den ⟨B,n,L⟩) w m2 (SMem.den ⟨B',n,L'⟩) w':=by
 have hWm:(SMem.den ⟨B,n,Lm⟩).n=B.n+n:=rfl
 have hmono:B.n+n≤W'.n:=hp.mono
 obtain⟨g,hg⟩:∃g,W'.n=B.n+n+g:=⟨W'.n-(B.n+n),by omega⟩
 have hwf':W'.l.length=W'.n:=hr'.wf
 have hwfB:B.l.length=B.n:=hB.wf
 obtain⟨ρ,hρ⟩:∃ρ:Nat→Nat,ρ=fun b=>if b < B.n then b else if b < B.n+n then b+g else if b < B.n+n+g then b-n else b:=⟨_,rfl⟩
 have r1:∀b,b < B.n→ρ b=b:=fun b hb=>by rw [hρ]; simp only [if_pos hb]
 have r2:∀j,j < n→ρ (B.n+j)=B.n+g+j:=fun j hj=>by
  rw [hρ]; simp only; rw [if_neg (by omega),if_pos (by omega)]; omega
 have r3:∀j,j < g→ρ (B.n+n+j)=B.n+j:=fun j hj=>by
  rw [hρ]; simp only; rw [if_neg (by omega),if_neg (by omega),if_pos (by omega)]; omega
 obtain⟨m2,hm2⟩:∃m2:Nat→Loc,m2=fun b=>if b < B.n then m' b else if b < B.n+g then m' (b+n)else m (b-g):=⟨_,rfl⟩
 have ml:∀b,b < B.n→m2 b=m' b:=fun b hb=>by rw [hm2]; simp only [if_pos hb]
 have mn:∀j,j < g→m2 (B.n+j)=m' (B.n+n+j):=fun j hj=>by
  rw [hm2]; simp only; rw [if_neg (by omega),if_pos (by omega),show B.n+j+n=B.n+n+j by omega]
 have mu:∀j,m2 (B.n+g+j)=m (B.n+j):=fun j=>by
  rw [hm2]; simp only; rw [if_neg (by omega),if_neg (by omega),show B.n+g+j-g=B.n+j by omega]
 have mag:∀b,b < B.n+n→m' b=m b:=hp.ag
 have hρm:∀b,b < W'.n→m2 (ρ b)=m' b:=by
  intro b hb
  by_cases hb1:b < B.n
  ·rw [r1 b hb1,ml b hb1]
  ·by_cases hb2:b < B.n+n
   ·obtain⟨j,rfl⟩:∃j,b=B.n+j:=⟨b-B.n,by omega⟩
    rw [r2 j (by omega),mu,mag _ hb2]
   ·obtain⟨j,rfl⟩:∃j,b=B.n+n+j:=⟨b-(B.n+n),by omega⟩
    rw [r3 j (by omega),mn j (by omega)]
 have hρlt:∀b,b < W'.n→ρ b < B.n+g+n:=by
  intro b hb
  by_cases hb1:b < B.n
  ·rw [r1 b hb1]; omega
  ·by_cases hb2:b < B.n+n
   ·obtain⟨j,rfl⟩:∃j,b=B.n+j:=⟨b-B.n,by omega⟩
    rw [r2 j (by omega)]; omega
   ·obtain⟨j,rfl⟩:∃j,b=B.n+n+j:=⟨b-(B.n+n),by omega⟩
    rw [r3 j (by omega)]; omega
 obtain⟨B',hB'⟩:∃B':RW,B'=⟨B.n+g,(W'.l.take g).map (renO ρ)++B.l⟩:=⟨_,rfl⟩
 have hn':B'.n=B.n+g:=by rw [hB']
 have htl:((W'.l.take g).map (renO ρ)).length=g:=by simp; omega
 have hWn:∀j,j < g→W'.get (B.n+n+j)=(W'.l.take g).reverse[j]?:=by
  intro j hj
  have h2:=get_over (A:=W'.l.take g) (B:=W'.l.drop g) (L:=B.n+n) (B.n+n+j)
  have htk:(W'.l.take g).length=g:=by simp; omega
  rw [htk,List.take_append_drop,if_neg (by omega),show B.n+n+j-(B.n+n)=j by omega]at h2
  rw [← h2,← hg,rw_eta]
 have hget:∀b,B'.get b=if b < B.n then B.get b else if b < B.n+g then (W'.get (b+n)).map (renO ρ)else none:=by
  intro b
  have h2:=get_over (A:=(W'.l.take g).map (renO ρ)) (B:=B.l) (L:=B.n) b
  rw [htl,rw_eta]at h2
  rw [hB',h2]
  by_cases hb:b < B.n
  ·rw [if_pos hb,if_pos hb]
  ·rw [if_neg hb,if_neg hb]
   by_cases hb2:b < B.n+g
   ·rw [if_pos hb2]
    obtain⟨j,rfl⟩:∃j,b=B.n+j:=⟨b-B.n,by omega⟩
    rw [show B.n+j+n=B.n+n+j by omega,hWn j (by omega),show B.n+j-B.n=j by omega,← List.map_reverse,List.getElem?_map]
   ·rw [if_neg hb2,List.getElem?_eq_none (by rw [List.length_reverse,htl]; omega)]
 have seen:SeenAs ρ Wd B':=by
  intro b c hc
  obtain⟨hc1,hnl⟩:=hWd b c hc
  have hbl:=cellsAt_lt hc1
  by_cases hb:b < B.n
  ·rw [r1 b hb]
   unfold cellsAt at hc1 ⊢
   rw [hget,if_pos hb,← hbase b hb]
   rw [hbase b hb]at hc1 ⊢
   have:renL ρ c=c:=by
    cases hq:B.get b with
    | none=>rw [hq]at hc1; simp at hc1
    | some o =>
     rw [hq]at hc1
     cases o with
     | cells c2 k =>
      simp only [Option.some.injEq]at hc1
      subst hc1
      exact renIdC_of ρ (fun b hb=>r1 b hb) c2 (hB.lt b _ hq)
     | _=>simp at hc1
   rw [this]
   exact hc1
  ·obtain⟨j,rfl⟩:∃j,b=B.n+n+j:=⟨b-(B.n+n),by omega⟩
   rw [r3 j (by omega)]
   unfold cellsAt at hc1 ⊢
   rw [hget,if_neg (by omega),if_pos (by omega),show B.n+j+n=B.n+n+j by omega]
   cases hq:W'.get (B.n+n+j)with
   | none=>rw [hq]at hc1; simp at hc1
   | some o =>
    rw [hq]at hc1
    cases o with
    | cells c2 k =>
     simp only [Option.some.injEq]at hc1
     subst hc1
     rfl
    | _=>simp at hc1
 have hokr:∀o,OkObj Wd o→OkObj B' (renO ρ o):=by
  rintro o (rfl | ⟨c,k,rfl,h2,h3⟩)
  ·exact .inl rfl
  ·refine .inr ⟨_,k,rfl,h2,fun x hx=>?_⟩
   rw [renL_eq]at hx
   obtain⟨y,hy,rfl⟩:=List.mem_map.1 hx
   rcases h3 y hy with ⟨v,rfl,hv⟩ | ⟨b,o,n2,e,c2,rfl,hc2⟩
   ·exact .inl ⟨v,rfl,hv⟩
   ·exact .inr ⟨ρ b,o,n2,e,_,rfl,seen b c2 hc2⟩
 have hgrow:Grow B B':=by
  refine⟨by omega,fun b hb=>by rw [hget,if_pos hb],fun b x hb hx=>?_⟩
  rw [hget,if_neg (by omega)]at hx
  split at hx
  ·obtain⟨o,ho,rfl⟩:=Option.map_eq_some_iff.1 hx
   exact hokr o (hnew _ o (by omega) ho)
  ·simp at hx
 have hBok:BOk B':=by
  refine⟨?_,fun b o hb=>?_,fun i q hi=>by have:=hB.glb i q hi; omega⟩
  ·show B'.l.length=B'.n
   rw [hB']
   simp only [List.length_append,htl,hwfB]
   omega
  ·by_cases hb1:b < B.n
   ·rw [hget,if_pos hb1]at hb
    exact RObj.lt_mono (by omega) (hB.lt b o hb)
   ·exact(hgrow.own b o (by omega) hb).lt
 have hturn:Turn Fz.no B.n n B'.n m m2:=by
  refine⟨by omega,fun b hb=>?_,fun j _=>by rw [hn']; exact mu j,fun k hk=>by simp [isNo]at hk⟩
  rw [ml b hb,mag b (by omega)]
 refine⟨g,B',m2,ρ,hn',hg,hgrow,hBok,hturn,hρm,fun b hb=>by rw [hn']; exact hρlt b hb,seen,fun j=>by rw [hn']; exact mu j,?_⟩
 intro L' hL' hCO
 have hw':SMem.Wf ⟨B',n,L'⟩:=⟨hL'⟩
 have hBg:∀b,(SMem.den ⟨B',n,L'⟩).get b=if b < B'.n then B'.get b else (SMem.get ⟨B',n,L'⟩ (b-B'.n)).map (denO B'.n):=fun b=>denM_get hw' b
 have hmw:∀b o,(SMem.den ⟨B,n,Lm⟩).get b=some o→o.live=true→(SMem.den ⟨B,n,L⟩).get b=some o∧∀j,b=B.n+j→kk j:=by
  intro b o hb hlv
  rw [denM_get (⟨hlm⟩:SMem.Wf ⟨B,n,Lm⟩)]at hb
  rw [denM_get (⟨hl⟩:SMem.Wf ⟨B,n,L⟩)]
  by_cases hb1:b < B.n
  ·rw [if_pos hb1]at hb ⊢
   exact⟨hb,fun j hj=>by omega⟩
  ·rw [if_neg hb1]at hb ⊢
   obtain⟨o1,ho1,rfl⟩:=Option.map_eq_some_iff.1 hb
   rcases hm _ o1 ho1 with rfl | ⟨hkj,h2⟩
   ·simp [denO,RObj.live]at hlv
   ·exact⟨by rw [h2]; rfl,fun j hj=>by rw [show j=b-B.n by omega]; exact hkj⟩
 have stay:∀j o,j < n→¬ kk j→(SMem.den ⟨B,n,L⟩).get (B.n+j)=some o→o.live=true→w'.heap[(m (B.n+j)).blk]?=w.heap[(m (B.n+j)).blk]?∧(m (B.n+j)).blk < w.heap.size ∧
   ∀b x,(SMem.den ⟨B,n,Lm⟩).get b=some x→x.own=true→(m b).blk≠(m (B.n+j)).blk:=by
  intro j o hj hnkj hgj hlv
  have hno:∀b x,(SMem.den ⟨B,n,Lm⟩).get b=some x→x.own=true→(m b).blk≠(m (B.n+j)).blk:=by
   intro b x hb hx
   obtain⟨h2,h3⟩:=hmw b x hb (own_live hx)
   exact hr.inj b (B.n+j) x o h2 hgj hx hlv (fun heq=>hnkj (h3 j heq))
  have hlt:(m (B.n+j)).blk < w.heap.size:=(hr.obj _ _ hgj).lt_size hlv
  exact⟨hp.keep _ hlt hno,hlt,hno⟩
 have cls:∀b o',(SMem.den ⟨B',n,L'⟩).get b=some o'→o'.live=true →
   (∃c o2,c < W'.n∧W'.get c=some o2∧o2.live=true∧o'.own=o2.own∧m2 b=m' c∧ρ c=b∧ORel m2 o' (m2 b) w'.heap∧(∀j,j < n→c=B.n+j→kk j)) ∨
   ∃j o2,j < n∧¬ kk j∧b=B'.n+j∧(SMem.den ⟨B,n,L⟩).get (B.n+j)=some o2∧o2.live=true∧o'.own=o2.own∧ORel m2 o' (m2 b) w'.heap:=by
  intro b o' hb hlv
  rw [hBg]at hb
  by_cases hb1:b < B'.n
  ·rw [if_pos hb1,hget]at hb
   left
   by_cases hb2:b < B.n
   ·rw [if_pos hb2]at hb
    have hb3:W'.get b=some o':=by rw [hbase b hb2]; exact hb
    refine⟨b,o',get_lt hb3,hb3,hlv,rfl,ml b hb2,r1 b hb2,?_,fun j hj hbj=>by omega⟩
    rw [ml b hb2]
    exact(hr'.obj b o' hb3).agree (hB.lt b o' hb) ml
   ·rw [if_neg hb2,if_pos (by omega)]at hb
    obtain⟨o2,ho2,rfl⟩:=Option.map_eq_some_iff.1 hb
    obtain⟨j,rfl⟩:∃j,b=B.n+j:=⟨b-B.n,by omega⟩
    rw [show B.n+j+n=B.n+n+j by omega]at ho2
    cases o2 with
    | cells c k =>
     refine⟨B.n+n+j,_,get_lt ho2,ho2,rfl,by cases k<;>rfl,mn j (by omega),r3 j (by omega),?_,fun j' hj' he=>by omega⟩
     rw [mn j (by omega)]
     have ho3:=hr'.obj _ _ ho2
     have hlt:belowC W'.n c=true:=hr'.lt _ _ ho2
     rw [belowC_iff]at hlt
     refine ORel.turn ho3 (renL_len _ _) fun i x hx=>?_
     rw [renL_eq,List.getElem?_map]at hx
     obtain⟨y,hy,rfl⟩:=Option.map_eq_some_iff.1 hx
     refine⟨y,hy,?_⟩
     rw [rv_ren]
     exact rv_agree (n:=W'.n) (fun b hb=>hρm b hb) y (hlt y (List.mem_of_getElem? hy)).2
    | _=>simp [renO,RObj.live]at hlv
  ·rw [if_neg hb1]at hb
   obtain⟨j,rfl⟩:∃j,b=B'.n+j:=⟨b-B'.n,by omega⟩
   rw [show B'.n+j-B'.n=j by omega]at hb
   obtain⟨o1,ho1,rfl⟩:=Option.map_eq_some_iff.1 hb
   have hj:j < n:=sget_lt ho1
   obtain⟨q1,hq1,hq2⟩:=sget_some (B:=B') hL' hj
   rw [ho1]at hq1
   simp only [Option.some.injEq]at hq1
   subst hq1
   obtain⟨p1,hp1,hp2⟩:=sget_some (B:=B) hl1 hj
   have hco:=hCO _ _ _ hp2 hq2
   have hmj:m2 (B'.n+j)=m (B.n+j):=by rw [hn']; exact mu j
   by_cases hkj:kk j
   ·left
    obtain⟨cel,c1,c2,c3⟩:=hk j hj hkj
    rw [hp1]at c1
    simp only [Option.some.injEq]at c1
    subst c1
    refine⟨B.n+j,_,get_lt c3,c3,rfl,by rw [hco.own]; rfl,by rw [hmj,mag _ (by omega)],by rw [r2 j hj,hn'],?_,fun j' hj' he=>by rw [show j'=j by omega]; exact hkj⟩
    rw [hmj]
    refine hco.rel _ _ ?_
    have ho3:=hr'.obj _ _ c3
    rw [mag _ (by omega)]at ho3
    refine ORel.turn ho3 (by rw [denL_len,denL_len]) fun i x hx=>?_
    rw [denL_eq,List.getElem?_map]at hx
    obtain⟨y,hy,rfl⟩:=Option.map_eq_some_iff.1 hx
    obtain⟨v,v1,_⟩:=plain1_ok (c2 y (List.mem_of_getElem? hy))
    refine⟨den 0 y,by rw [denL_eq,List.getElem?_map,hy]; rfl,?_⟩
    rw [v1,v1]
    rfl
   ·right
    have g1:=h1 j p1 hp1 hkj
    have g2:=den_loc hl g1
    have hlv2:(denO B.n p1).live=true:=by rw [← hco.live]; exact hlv
    obtain⟨s1,_,_⟩:=stay j _ hj hkj g2 hlv2
    refine⟨j,_,hj,hkj,rfl,g2,hlv2,hco.own,?_⟩
    rw [hmj]
    exact hco.rel _ _ ((hr.obj _ _ g2).heap fun _=>s1)
 have place:∀c o2,W'.get c=some o2→o2.live=true→o2.own=true→(∀j,j < n→c=B.n+j→kk j)→w.heap.size≤(m' c).blk∨∃a x,(SMem.den ⟨B,n,Lm⟩).get a=some x∧x.own=true∧(m a).blk=(m' c).blk:=
  fun c o2 hc _ ho _=>hp.own c o2 hc ho
 have hrel:Rel m2 (SMem.den ⟨B',n,L'⟩) w':=by
  refine⟨?_,?_,?_,?_,?_⟩
  ·show(L'.map (denO B'.n)++B'.l).length=B'.n+n
   rw [hB']
   simp only [List.length_append,List.length_map,htl,hL',hwfB]
   have:(W'.l.take g).length=g:=by simp; omega
   omega
  ·intro b o' hb
   rcases live_or o' with rfl | hlv
   ·trivial
   ·rcases cls b o' hb hlv with ⟨c,o2,_,_,_,_,_,_,h7,_⟩ | ⟨j,o2,_,_,_,_,_,_,h7⟩
    ·exact h7
    ·exact h7
  ·intro b o' hb
   rw [hBg]at hb
   show o'.lt (B'.n+n)
   by_cases hb1:b < B'.n
   ·rw [if_pos hb1]at hb
    exact RObj.lt_mono (Nat.le_add_right _ _) (hBok.lt b o' hb)
   ·rw [if_neg hb1]at hb
    obtain⟨o1,ho1,rfl⟩:=Option.map_eq_some_iff.1 hb
    have hj:=sget_lt ho1
    obtain⟨q1,hq1,hq2⟩:=sget_some (B:=B') hL' hj
    rw [ho1]at hq1
    simp only [Option.some.injEq]at hq1
    subst hq1
    obtain⟨p1,hp1,hp2⟩:=sget_some (B:=B) hl1 hj
    have hco:=hCO _ _ _ hp2 hq2
    by_cases hkj:kk (b-B'.n)
    ·obtain⟨cel,c1,c2,c3⟩:=hk _ hj hkj
     rw [hp1]at c1
     simp only [Option.some.injEq]at c1
     subst c1
     refine hco.lt ?_
     show belowC _ (denL B.n cel)=true
     rw [belowC_iff]
     intro x hx
     rw [denL_eq]at hx
     obtain⟨y,hy,rfl⟩:=List.mem_map.1 hx
     obtain⟨v,v1,v2⟩:=plain1_ok (c2 y hy)
     rw [v1]
     exact⟨v2,one_low v2⟩
    ·exact hco.lt (hr.lt _ _ (den_loc hl (h1 _ p1 hp1 hkj)))
  ·intro a b x y ha hb hx hy hab
   have hxl:=own_live hx
   rcases cls a x ha hxl with ⟨c,o2,_,k2,k3,k4,k5,k6,_,k8⟩ | ⟨j,o2,k1,k2,k3,k4,k5,k6,_⟩
   ·rcases cls b y hb hy with ⟨c',o2',_,l2,l3,l4,l5,l6,_⟩ | ⟨j',o2',l1,l2,l3,l4,l5,l6,_⟩
    ·rw [k5,l5]
     exact hr'.inj c c' o2 o2' k2 l2 (by rw [← k4]; exact hx) l3 (fun he=>hab (by rw [← k6,← l6,he]))
    ·obtain⟨s1,s2,s3⟩:=stay j' o2' l1 l2 l4 l5
     rw [k5,l3,hn',mu]
     rcases place c o2 k2 k3 (by rw [← k4]; exact hx) k8 with h2 | ⟨a',x',h2,h3,h4⟩
     ·omega
     ·rw [← h4]; exact s3 a' x' h2 h3
   ·rcases cls b y hb hy with ⟨c',o2',_,l2,l3,l4,l5,l6,_,l8⟩ | ⟨j',o2',l1,l2,l3,l4,l5,l6,_⟩
    ·obtain⟨s1,s2,s3⟩:=stay j o2 k1 k2 k4 k5
     rw [k3,hn',mu,l5]
     by_cases hc':c' < B.n
     ·rw [mag c' (by omega)]
      refine hr.inj (B.n+j) c' o2 o2' k4 ?_ (by rw [← k6]; exact hx) l3 (by omega)
      rw [denM_get (⟨hl⟩:SMem.Wf ⟨B,n,L⟩),if_pos hc',← hbase c' hc']
      exact l2
     ·have hown:o2'.own=true:=by
       by_cases hc2:c' < B.n+n
       ·obtain⟨jj,rfl⟩:∃jj,c'=B.n+jj:=⟨c'-B.n,by omega⟩
        obtain⟨cel,c1,c2,c3⟩:=hk jj (by omega) (l8 jj (by omega) rfl)
        rw [l2]at c3
        simp only [Option.some.injEq]at c3
        rw [c3]
        rfl
       ·rcases(hnew c' o2' (by omega) l2).own with h2 | h2
        ·rw [h2]at l3; simp [RObj.live]at l3
        ·exact h2
      rcases place c' o2' l2 l3 hown l8 with h2 | ⟨a',x',h2,h3,h4⟩
      ·omega
      ·rw [← h4]; exact(s3 a' x' h2 h3).symm
    ·rw [k3,l3,hn',mu,mu]
     exact hr.inj _ _ o2 o2' k4 l4 (by rw [← k6]; exact hx) l5 (by
      intro he
      exact hab (by rw [k3,l3]; omega))
  ·intro i q hi
   have h10:=hB.glb i q hi
   refine⟨by show i < B'.n+n; omega,?_⟩
   rw [ml i h10,mag i (by omega)]
   exact(hr.glb i q hi).2
 refine⟨hrel,by omega,fun b hb=>by rw [ml b hb,mag b (by omega)],fun j hj=>by rw [hn']; exact mu j,by show B'.n+n≤B'.n+n; omega,hp.size,?_,?_,hp.os,hp.tape,hp.output⟩
 ·intro r hrs hno
  refine hp.keep r hrs fun b o hb ho=>?_
  obtain⟨h2,_⟩:=hmw b o hb (own_live ho)
  exact hno b o h2 ho
 ·intro b o hb ho
  rcases cls b o hb (own_live ho)with ⟨c,o2,_,k2,k3,k4,k5,k6,_,k8⟩ | ⟨j,o2,k1,k2,k3,k4,k5,k6,_⟩
  ·rw [k5]
   rcases place c o2 k2 k3 (by rw [← k4]; exact ho) k8 with h2 | ⟨a',x',h2,h3,h4⟩
   ·exact .inl h2
   ·exact .inr ⟨a',x',(hmw a' x' h2 (own_live h3)).1,h3,h4⟩
  ·right
   refine⟨B.n+j,o2,k4,by rw [← k6]; exact ho,?_⟩
   rw [k3,hn',mu]
end
end Go.Rv
namespace Go.Rv
open Go
structure FnG where
 g:FuncId
 blk:Option (List Sc)
 sh:List Sh
 pre:List Dat→Prop
 rs:List Sh
 post:List Dat→List Dat→Prop
 fz:List (Pth×FzK)
noncomputable section
def deadL:List SObj→List SObj
 | []=>[]
 | _ :: r=>.dead :: deadL r
def isI (x:SV):Bool:=match x with
 | .i _ _=>true
 | _=>false
def allI:List Sc→(List SV→List Dat→Prop)→Prop
 | [],K=>K [] []
 | s :: r,K=>match s with
  | .i k=>∀n:Int,allI r fun cs ds=>K (.i k n :: cs) (.z n :: ds)
  | _=>False
def FnG.con (F:FnG):ConE:=⟨F.g,fun args σ K=>match σ with
 | ⟨B,n,L⟩=>match F.rs.all okRs with
  | false=>False
  | true=>match F.blk with
   | none=>sRead ⟨B,n,deadL L⟩ F.sh args fun d=>Ob (F.pre d)∧clM B Fz.no L fun L'=>∀B':RW,Grow B B'→allSh B' F.rs fun as ds=>F.post d ds→K (oneS as) ⟨B',n,L'⟩
   | some ss=>match args with
    | .ptr k 0 :: rest=>match SMem.get ⟨B,n,L⟩ k with
     | some (.cells c .ex)=>sScs ⟨B,n,deadL L⟩ ss c fun d0=>sRead ⟨B,n,deadL L⟩ F.sh rest fun d=>Ob (F.pre (d0++d))∧allI ss fun cel dc=>match lset L (n-1-k) (.cells cel .ex)with
       | some L1=>clM B Fz.no L1 fun L'=>∀B':RW,Grow B B'→allSh B' F.rs fun as ds=>F.post (d0++d) (ds++dc)→K (oneS as) ⟨B',n,L'⟩
       | none=>False
     | _=>False
    | _=>False⟩
def FnG.Out (F:FnG) (W:RW) (b:Option (Nat×List Sc)) (d:List Dat) (x:RV) (W':RW):Prop:=
 ∃(Wd:RW) (xs:List RV) (ds dc:List Dat),W.n≤W'.n∧(∀a,a < W.n→(∀q ss,b=some (q,ss)→a≠q)→W'.get a=W.get a)∧(match b with
  | none=>Wd=W'∧dc=[]
  | some (b,ss)=>W'.set b .dead=some Wd∧∃c,W'.get b=some (.cells c .ex)∧readScs Wd ss c=some dc)∧(∀a o,W.n≤a→W'.get a=some o→OkObj Wd o)∧x=one xs∧readR Wd F.rs xs=some ds∧F.post d (ds++dc)
def FnG.Ok (P:Program) (F:FnG):Prop:=(∃fn,P.funcs[F.g]?=some fn∧fn.body.isSome=true)∧match F.blk with
 | none=>∀(args:List RV) (W:RW) (d:List Dat),readR W F.sh args=some d→F.pre d→@CallTo (plainEnv []) P F.g args W (F.Out W none d)
 | some ss=>∀(b:Nat) (rest:List RV) (W Wd:RW) (c:List RV) (d0 d:List Dat),W.get b=some (.cells c .ex)→W.set b .dead=some Wd→readScs Wd ss c=some d0→readR Wd F.sh rest=some d→F.pre (d0++d) →
   @CallTo (plainEnv []) P F.g (.ptr b 0 :: rest) W (F.Out W (some (b,ss)) (d0++d))
def endS (F:FnG) (d:List Dat) (xs:List SV) (σ:SMem):Prop:=sRead ⟨σ.B,0,[]⟩ F.rs xs fun ds=>match F.blk with
 | none=>Ob (F.post d ds)
 | some ss=>match σ.get 0 with
  | some (.cells c .ex)=>sScs ⟨σ.B,0,[]⟩ ss c fun dc=>Ob (F.post d (ds++dc))
  | _=>False
def needG (P:Program) (l:List Fn0) (e:List FnE) (G:List FnG) (A:List SV→List Dat→Nat→List SV→AnG) (F:FnG):Prop:=match F.blk with
 | none=>∀B:RW,allSh B F.sh fun as ds=>F.pre ds→@wFunG (fnEnv2 [] l e) P ⟨l.map Fn0.con,e.map FnE.con,Ora.no⟩ (G.map FnG.con) (A as ds) 0 F.g as B [] fun xs σ=>fzs F.fz xs σ fun xs σ=>endS F ds xs σ
 | some ss=>∀B:RW,allScs B ss fun cs d0=>allSh B F.sh fun as ds=>F.pre (d0++ds)→@wFunG (fnEnv2 [] l e) P ⟨l.map Fn0.con,e.map FnE.con,Ora.no⟩ (G.map FnG.con) (A (.agg cs :: as) (d0++ds)) 1 F.g (.ptr 0 0 :: as) B [.cells cs .ex] fun xs σ=>fzs F.fz xs σ fun xs σ=>endS F (d0++ds) xs σ
end
theorem allI_ok {W:RW}:∀ {ss:List Sc} {xs:List RV} {ds:List Dat} {K:List SV→List Dat→Prop},readScs W ss xs=some ds→allI ss K→∃cs,cs.all isI=true∧(∀N,denL N cs=xs)∧K cs ds
 | [],[],ds,K,h,hk=>by
  simp only [readScs,Option.some.injEq]at h
  subst h
  exact⟨[],rfl,fun _=>rfl,hk⟩
 | s :: r,x :: xs,ds,K,h,hk=>by
  simp only [readScs]at h
  split at h
  ·rename_i d ds' h1 h2
   simp only [Option.some.injEq]at h
   subst h
   cases s with
   | i k =>
    cases x with
    | v y =>
     cases y with
     | int j z =>
      simp only [readSc]at h1
      split at h1
      ·rename_i hj
       simp only [Option.some.injEq]at h1
       subst hj h1
       obtain⟨cs,c1,c2,c3⟩:=allI_ok h2 (hk z)
       refine⟨_,?_,fun N=>?_,c3⟩
       ·simp only [List.all_cons,c1,Bool.and_true]; rfl
       ·simp only [denL,den,c2 N]
      ·simp at h1
     | _=>simp [readSc]at h1
    | _=>simp [readSc]at h1
   | _=>exact hk.elim
  ·simp at h
 | [],_ :: _,ds,K,h,_=>by simp [readScs]at h
 | _ :: _,[],ds,K,h,_=>by simp [readScs]at h
theorem isI_plain {l:List SV} (h:l.all isI=true):∀y∈l,plain1 y:=by
 intro y hy
 have:=(List.all_eq_true.1 h) y hy
 cases y<;>first | trivial | simp [isI]at this
theorem deadL_len:∀l:List SObj,(deadL l).length=l.length
 | []=>rfl
 | _ :: r=>by simp [deadL,deadL_len r]
theorem deadL_at:∀(l:List SObj) (i:Nat) (o:SObj),(deadL l)[i]?=some o→o=.dead
 | [],i,o,h=>by simp [deadL]at h
 | _ :: r,0,o,h=>by simp only [deadL,List.getElem?_cons_zero,Option.some.injEq]at h; exact h.symm
 | _ :: r,i+1,o,h=>deadL_at r i o (by simpa [deadL] using h)
theorem ren_one (f:Nat→Nat) (xs:List RV):one (renL f xs)=ren f (one xs):=by
 match xs with
 | []=>rfl
 | [_]=>rfl
 | _ :: _ :: _=>rfl
theorem Rel.mask {e:Env} {m:Nat→Loc} {W W2:RW} {w:World} (h:@Rel e m W w) (hn:W2.n=W.n) (hwf:W2.wf) (hg:∀b o,W2.get b=some o→o=.dead∨W.get b=some o):@Rel e m W2 w:=by
 refine @Rel.mk e m W2 w hwf (fun b o hb=>?_) (fun b o hb=>?_) (fun a b x y ha hb hx hy hab=>?_) (fun i q hi=>?_)
 ·rcases hg b o hb with rfl | h2
  ·trivial
  ·exact @Rel.obj e _ _ _ h b o h2
 ·rcases hg b o hb with rfl | h2
  ·trivial
  ·rw [hn]; exact @Rel.lt e _ _ _ h b o h2
 ·rcases hg a x ha with rfl | h2
  ·simp [RObj.own]at hx
  ·rcases hg b y hb with rfl | h3
   ·simp [RObj.live]at hy
   ·exact @Rel.inj e _ _ _ h a b x y h2 h3 hx hy hab
 ·rw [hn]; exact @Rel.glb e _ _ _ h i q hi
theorem Rel.dress2 {e:Env} {m m':Nat→Loc} {W W':RW} {w w':World} (h:@Rel (plainEnv []) m' W' w') (hr:@Rel e m W w) (ha:Agree W.n m m') (hn:W.n≤W'.n):@Rel e m' W' w':=by
 cases h with
 | mk h1 h2 h3 h4 h5 =>
  refine @Rel.mk e m' W' w' h1 h2 h3 h4 ?_
  intro i g hi
  obtain⟨k1,k2⟩:=@Rel.glb e _ _ _ hr i g hi
  exact⟨by omega,by rw [ha i k1]; exact k2⟩
section
variable [Env] {P:Program}
theorem grow_fin {F:FnG} {B:RW} {n:Nat} {L:List SObj} (hw:SMem.Wf ⟨B,n,L⟩) {K:SV→SMem→Prop} (hB:BOk B) (hrs:F.rs.all okRs=true) {Lm L1:List SObj} {kk:Nat→Prop} (hlm:Lm.length=n) (hl1:L1.length=n)
  (hm:∀j o,SMem.get ⟨B,n,Lm⟩ j=some o→o=.dead∨(kk j∧SMem.get ⟨B,n,L⟩ j=some o)) (h1:∀j o,SMem.get ⟨B,n,L1⟩ j=some o→¬ kk j→SMem.get ⟨B,n,L⟩ j=some o) {W' Wd:RW}
  (hk:∀j,j < n→kk j→∃cel,SMem.get ⟨B,n,L1⟩ j=some (.cells cel .ex)∧(∀y∈cel,plain1 y)∧W'.get (B.n+j)=some (.cells (denL 0 cel) .ex)) (hlive:∀j,j < n→kk j→∃o,SMem.get ⟨B,n,L⟩ j=some o∧(denO B.n o).own=true)
  (hnk:∀j o,j < n→¬ kk j→W'.get (B.n+j)=some o→o=.dead) (hbase:∀b,b < B.n→W'.get b=B.get b)
  (hWd:∀b c,cellsAt Wd b=some c→cellsAt W' b=some c∧∀j,kk j→b≠B.n+j) (hnew:∀b o,B.n+n≤b→W'.get b=some o→OkObj Wd o)
  {q:List Dat→Prop} (h:clM B Fz.no L1 fun L'=>∀B':RW,Grow B B'→allSh B' F.rs fun as ds=>q ds→K (oneS as) ⟨B',n,L'⟩)
  {m m':Nat→Loc} {w w':World} {xs:List RV} {ds:List Dat} (hr:Rel m (SMem.den ⟨B,n,L⟩) w) (hr':Rel m' W' w') (hp:Post m (SMem.den ⟨B,n,Lm⟩) w m' W' w') (hbx:below W'.n (one xs)=true) (o5:readR Wd F.rs xs=some ds) (hq:q ds) :
  ∃y σ' m2,K y σ'∧rv m2 (den σ'.B.n y)=rv m' (one xs)∧Rel m2 σ'.den w'∧below σ'.den.n (den σ'.B.n y)=true ∧
   σ'.Wf∧σ'.n=n∧Grow B σ'.B∧BOk σ'.B∧(∀j,m2 (σ'.B.n+j)=m (B.n+j))∧PostG B.n n σ'.B.n m (SMem.den ⟨B,n,L⟩) w m2 σ'.den w':=by
 have hl:L.length=n:=hw.len
 have hWd2:∀b c,cellsAt Wd b=some c→cellsAt W' b=some c∧¬ (B.n≤b∧b < B.n+n):=by
  intro b c hc
  obtain⟨hc2,hne⟩:=hWd b c hc
  refine⟨hc2,fun hbn=>?_⟩
  obtain⟨j,rfl⟩:∃j,b=B.n+j:=⟨b-B.n,by omega⟩
  by_cases hkb:kk j
  ·exact hne j hkb rfl
  ·obtain⟨k,hk2⟩:=cellsAt_spec hc2
   have:=hnk j _ (by omega) hkb hk2
   simp at this
 obtain⟨g,B',m2,ρ,g1,g2,g3,g4,g5,g6,g7,g8,g9,g10⟩:=grow_core (kk:=kk) (W':=W') (Wd:=Wd) hB hl hlm hl1 hm h1 hk hlive hnk hbase hWd2 hnew hr hr' hp
 obtain⟨L',hK,hL',hCO⟩:=clM_ok rfl g5 h
 have hK:=hK B' g3
 obtain⟨as,ha,hK⟩:=allSh_ok (readR_ren g8 hrs o5) hK
 have hK:=hK hq
 obtain⟨k1,k2⟩:=g10 L' (hL'.trans hl1) hCO
 have hy:den B'.n (oneS as)=ren ρ (one xs):=by rw [oneS_den,ha,ren_one]
 refine⟨oneS as,⟨B',n,L'⟩,m2,hK,?_,k1,?_,⟨hL'.trans hl1⟩,rfl,g3,g4,g9,k2⟩
 ·show rv m2 (den B'.n (oneS as))=_
  rw [hy,rv_ren]
  exact rv_agree (n:=W'.n) (fun b hb=>g6 b hb) _ hbx
 ·show below _ (den B'.n (oneS as))=true
  rw [hy]
  exact below_ren (n:=W'.n) g7 _ hbx
theorem mask_rel {B:RW} {n:Nat} {L Lm:List SObj} (hw:SMem.Wf ⟨B,n,L⟩) (hlm:Lm.length=n) (hB:BOk B) (hm:∀j o,SMem.get ⟨B,n,Lm⟩ j=some o→o=.dead∨SMem.get ⟨B,n,L⟩ j=some o) {m:Nat→Loc} {w:World} (hr:Rel m (SMem.den ⟨B,n,L⟩) w):Rel m (SMem.den ⟨B,n,Lm⟩) w:=by
 have hwm:SMem.Wf ⟨B,n,Lm⟩:=⟨hlm⟩
 refine hr.mask rfl ?_ fun b o hbo=>?_
 ·show(Lm.map (denO B.n)++B.l).length=B.n+n
  have:B.l.length=B.n:=hB.wf
  simp only [List.length_append,List.length_map,hlm,this]
  omega
 ·rw [denM_get hwm]at hbo
  rw [denM_get hw]
  by_cases hb1:b < B.n
  ·rw [if_pos hb1]at hbo ⊢; exact .inr hbo
  ·rw [if_neg hb1]at hbo ⊢
   obtain⟨o1,ho1,rfl⟩:=Option.map_eq_some_iff.1 hbo
   rcases hm _ o1 ho1 with rfl | h2
   ·exact .inl rfl
   ·exact .inr (by rw [h2]; rfl)
theorem FnG.grow {F:FnG} (hF:F.Ok P):GrowOk P F.con:=by
 intro args σ K hw hB h
 refine⟨hF.1,?_⟩
 obtain⟨B,n,L⟩:=σ
 have hl:L.length=n:=hw.len
 have hld:(deadL L).length=n:=(deadL_len L).trans hl
 have hgd:∀j o,SMem.get ⟨B,n,deadL L⟩ j=some o→o=.dead:=by
  intro j o ho
  obtain⟨q,hq1,hq2⟩:=sget_some (B:=B) hld (sget_lt ho)
  rw [ho]at hq1
  simp only [Option.some.injEq]at hq1
  subst hq1
  exact deadL_at _ _ _ hq2
 have hok:=hF.2
 unfold FnG.con at h
 simp only at h
 split at h
 ·exact h.elim
 rename_i hrs
 split at h
 ·rename_i hbk
  rw [hbk]at hok
  obtain⟨d,h1,⟨hpre⟩,h2⟩:=sRead_ok (sees_den (σ:=⟨B,n,deadL L⟩) ⟨hld⟩) h
  intro m w cs hr hb
  have hrm:=mask_rel hw hld hB (fun j o ho=>.inl (hgd j o ho)) hr
  obtain⟨x,W',m',w',fr,⟨Wd,xs,ds,dc,o1,o2,⟨rfl,rfl⟩,o4,rfl,o5,o6⟩,st,hlv,_,hr',hp,hbx⟩:=hok _ _ d h1 hpre m w cs hrm.bare hb
  have hr':=Rel.dress2 hr' hrm hp.ag hp.mono
  rw [List.append_nil]at o6
  have hWm:(SMem.den ⟨B,n,deadL L⟩).n=B.n+n:=rfl
  have ho2:∀a,a < B.n+n→Wd.get a=(SMem.den ⟨B,n,deadL L⟩).get a:=fun a ha=>o2 a ha (fun q ss he=>by simp at he)
  obtain⟨y,σ',m2,k1,k2,k3,k4,k5,k6,k7,k8,k9,k10⟩:=grow_fin (F:=F) (kk:=fun _=>False) (q:=fun ds=>F.post d ds) hw hB hrs hld hl (fun j o ho=>.inl (hgd j o ho)) (fun j o ho _=>ho) (W':=Wd) (Wd:=Wd) (fun j _ h=>h.elim) (fun j _ h=>h.elim)
   (fun j o hj _ ho=>by
    rw [ho2 _ (by omega),denM_get (⟨hld⟩:SMem.Wf ⟨B,n,deadL L⟩),if_neg (by simp),show B.n+j-B.n=j by omega]at ho
    obtain⟨o1,ho1,rfl⟩:=Option.map_eq_some_iff.1 ho
    rw [hgd _ _ ho1]
    rfl) (fun b hb=>by rw [ho2 b (by omega),denM_get (⟨hld⟩:SMem.Wf ⟨B,n,deadL L⟩),if_pos hb]) (fun b c hc=>⟨hc,fun _ h=>h.elim⟩) (fun b o hb ho=>o4 b o hb ho) h2 hr hr' hp hbx o5 o6
  exact⟨y,σ',m2,w',fr,k1,st,by rw [k2]; exact hlv,k3,k4,k5,k6,k7,k8,k9,k10⟩
 ·rename_i ss hbk
  rw [hbk]at hok
  split at h
  ·rename_i k rest
   split at h
   ·rename_i c hc
    have hkn:=sget_lt hc
    simp only at hkn
    obtain⟨d0,h1,h2⟩:=sScs_ok (sees_den (σ:=⟨B,n,deadL L⟩) ⟨hld⟩) h
    obtain⟨d,h3,⟨hpre⟩,h4⟩:=sRead_ok (sees_den (σ:=⟨B,n,deadL L⟩) ⟨hld⟩) h2
    obtain⟨Lm,hLm⟩:∃Lm,Lm=(deadL L).set (n-1-k) (.cells c .ex):=⟨_,rfl⟩
    have hlm:Lm.length=n:=by rw [hLm]; simpa using hld
    have hwm:SMem.Wf ⟨B,n,Lm⟩:=⟨hlm⟩
    have hgm:∀j,j < n→SMem.get ⟨B,n,Lm⟩ j=if j=k then some (.cells c .ex)else some .dead:=by
     intro j hj
     obtain⟨q,hq1,hq2⟩:=sget_some (B:=B) hlm hj
     rw [hq1,← hq2,hLm]
     by_cases hjk:j=k
     ·subst hjk
      rw [if_pos rfl,List.getElem?_set_self (by omega)]
     ·rw [if_neg hjk,List.getElem?_set_ne (by omega),List.getElem?_eq_getElem (by omega)]
      exact congrArg some (deadL_at _ _ _ (List.getElem?_eq_getElem (by omega)))
    have hdm:(SMem.den ⟨B,n,Lm⟩).get (B.n+k)=some (.cells (denL B.n c) .ex):=by
     rw [denM_get hwm,if_neg (by simp),show B.n+k-B.n=k by omega,hgm k hkn,if_pos rfl]
     rfl
    have hwfm:(SMem.den ⟨B,n,Lm⟩).wf:=by
     show(Lm.map (denO B.n)++B.l).length=B.n+n
     have:B.l.length=B.n:=hB.wf
     simp only [List.length_append,List.length_map,hlm,this]
     omega
    have hsd:(SMem.den ⟨B,n,Lm⟩).set (B.n+k) .dead=some (SMem.den ⟨B,n,deadL L⟩):=by
     rw [set_some hwfm (by show B.n+k < B.n+n; omega)]
     show some (⟨B.n+n,(Lm.map (denO B.n)++B.l).set (B.n+n-1-(B.n+k)) .dead⟩:RW)=some ⟨B.n+n,(deadL L).map (denO B.n)++B.l⟩
     congr 2
     rw [List.set_append_left _ _ (by rw [List.length_map,hlm]; omega)]
     congr 1
     rw [show B.n+n-1-(B.n+k)=n-1-k by omega,show(RObj.dead)=denO B.n .dead from rfl,← List.map_set,hLm,List.set_set]
     congr 1
     apply List.ext_getElem?
     intro i
     by_cases hi:n-1-k=i
     ·subst hi
      rw [List.getElem?_set_self (by omega),List.getElem?_eq_getElem (by omega)]
      exact congrArg some (deadL_at _ _ _ (List.getElem?_eq_getElem (by omega))).symm
     ·rw [List.getElem?_set_ne hi]
    have hmm:∀j o,SMem.get ⟨B,n,Lm⟩ j=some o→o=.dead∨(j=k∧SMem.get ⟨B,n,L⟩ j=some o):=by
     intro j o ho
     have hj:=sget_lt ho
     rw [hgm j hj]at ho
     split at ho
     ·rename_i hjk
      simp only [Option.some.injEq]at ho
      subst ho hjk
      exact .inr ⟨rfl,hc⟩
     ·simp only [Option.some.injEq]at ho
      exact .inl ho.symm
    intro m w cs hr hb
    have hrm:=mask_rel hw hlm hB (fun j o ho=>by
     rcases hmm j o ho with h | ⟨_,h⟩
     ·exact .inl h
     ·exact .inr h) hr
    obtain⟨x,W',m',w',fr,⟨Wd,xs,ds,dc,o1,o2,⟨o3,c',o7,o8⟩,o4,rfl,o5,o6⟩,st,hlv,_,hr',hp,hbx⟩:=hok (B.n+k) _ _ _ _ d0 d hdm hsd h1 h3 hpre m w cs hrm.bare hb
    have hr':=Rel.dress2 hr' hrm hp.ag hp.mono
    obtain⟨cel,hI,hcel,h5⟩:=allI_ok o8 h4
    split at h5
    case h_2=>exact h5.elim
    rename_i L1 hL1
    obtain⟨hix,hL1⟩:=lset_spec _ _ _ hL1
    have hl1:L1.length=n:=by rw [hL1]; simpa using hl
    have hg1:∀j,j < n→SMem.get ⟨B,n,L1⟩ j=if j=k then some (.cells cel .ex)else SMem.get ⟨B,n,L⟩ j:=by
     intro j hj
     obtain⟨q,hq1,hq2⟩:=sget_some (B:=B) hl1 hj
     obtain⟨q0,hq3,hq4⟩:=sget_some (B:=B) hl hj
     rw [hq1,← hq2,hL1]
     by_cases hjk:j=k
     ·subst hjk
      rw [if_pos rfl,List.getElem?_set_self (by omega)]
     ·rw [if_neg hjk,List.getElem?_set_ne (by omega),hq3,hq4]
    have hWm:(SMem.den ⟨B,n,Lm⟩).n=B.n+n:=rfl
    have ho2:∀a,a < B.n+n→a≠B.n+k→W'.get a=(SMem.den ⟨B,n,Lm⟩).get a:=fun a ha hne=>o2 a ha (fun q ss he=>by
     simp only [Option.some.injEq,Prod.mk.injEq]at he
     rw [← he.1]
     exact hne)
    obtain⟨_,_,_,hgd2⟩:=set_spec o3
    have hgd2:=hgd2 hr'.wf
    obtain⟨y,σ',m2,k1,k2,k3,k4,k5,k6,k7,k8,k9,k10⟩:=grow_fin (F:=F) (kk:=fun j=>j=k) (q:=fun ds=>F.post (d0++d) (ds++dc)) hw hB hrs hlm hl1 hmm
     (fun j o ho hjk=>by
      have hj:=sget_lt ho
      rw [hg1 j hj,if_neg hjk]at ho
      exact ho) (W':=W') (Wd:=Wd) (fun j hj hjk=>by
      subst hjk
      exact⟨_,by rw [hg1 j hj,if_pos rfl],isI_plain hI,by rw [o7,hcel]⟩) (fun j hj hjk=>by
      subst hjk
      exact⟨_,hc,rfl⟩)
     (fun j o hj hjk ho=>by
      rw [ho2 _ (by omega) (by omega),denM_get hwm,if_neg (by simp),show B.n+j-B.n=j by omega,hgm j hj,if_neg hjk]at ho
      simp only [Option.map_some,Option.some.injEq]at ho
      rw [← ho]
      rfl) (fun b hb=>by rw [ho2 b (by omega) (by omega),denM_get hwm,if_pos hb])
     (fun b c hcb=>by
      have hne:b≠B.n+k:=by
       intro he
       subst he
       unfold cellsAt at hcb
       rw [hgd2,if_pos rfl]at hcb
       simp at hcb
      refine⟨?_,fun j hj=>by subst hj; exact hne⟩
      unfold cellsAt at hcb ⊢
      rw [hgd2,if_neg hne]at hcb
      exact hcb) (fun b o hb ho=>o4 b o hb ho) h5 hr hr' hp hbx o5 o6
    exact⟨y,σ',m2,w',fr,k1,st,by rw [k2]; exact hlv,k3,k4,k5,k6,k7,k8,k9,k10⟩
   ·exact h.elim
  ·exact h.elim
end
end Go.Rv
namespace Go.Rv
open Go
theorem readRows_low {W:RW} {ks:List IntKind} {x:RV} {rows:List (List Int)} (h:readRows W ks x=some rows):below W.n x=true:=lst_low (readRows_lst h).1
theorem readLL_low {W:RW} {ks:List IntKind} {x:RV} {R:List (List (List Int))} (h:readLL W ks x=some R):below W.n x=true:=by
 obtain⟨⟨ys,h1⟩,_⟩:=readLL_is h
 exact lst_low h1.1
theorem readSc_low {W:RW} {s:Sc} {x:RV} {d:Dat} (hr:readSc W s x=some d):below W.n x=true∧oneB x=true:=by
 cases s with
 | lx ks =>
  simp only [readSc]at hr
  split at hr
  ·rename_i rows h1
   exact⟨readRows_low h1,(readRows_lst h1).2.1⟩
  ·simp at hr
 | l ks =>
  simp only [readSc]at hr
  split at hr
  ·rename_i rows h1
   exact⟨readRows_low h1,(readRows_lst h1).2.1⟩
  ·simp at hr
 | ll ks =>
  simp only [readSc]at hr
  split at hr
  ·rename_i R h1
   exact⟨readLL_low h1,(readLL_is h1).2⟩
  ·simp at hr
 | _ =>
  cases x with
  | v y =>
   cases y<;>first | exact⟨rfl,rfl⟩ | (simp [readSc]at hr)
  | _=>simp [readSc]at hr
theorem readScs_low {W:RW}:∀ {ss:List Sc} {xs:List RV} {ds:List Dat},readScs W ss xs=some ds→belowC W.n xs=true
 | [],[],ds,_=>rfl
 | s :: r,x :: xs,ds,hr=>by
  simp only [readScs]at hr
  split at hr
  ·rename_i d ds' h1 h2
   obtain⟨h3,h4⟩:=readSc_low h1
   simp only [belowC,h3,h4,readScs_low h2,Bool.and_self]
  ·simp at hr
 | [],_ :: _,ds,hr=>by simp [readScs]at hr
 | _ :: _,[],ds,hr=>by simp [readScs]at hr
theorem readR_low {W:RW}:∀ {sh:List Sh} {xs:List RV} {ds:List Dat},sh.all okRs=true→readR W sh xs=some ds→belowL W.n xs=true
 | [],[],ds,_,hr=>rfl
 | .one s :: r,x :: xs,ds,hs,hr=>by
  simp only [List.all_cons,Bool.and_eq_true]at hs
  simp only [readR]at hr
  split at hr
  ·rename_i d ds' h1 h2
   simp only [belowL,(readSc_low h1).1,readR_low hs.2 h2,Bool.and_self]
  ·simp at hr
 | .agg l :: r,x :: xs,ds,hs,hr=>by
  simp only [List.all_cons,Bool.and_eq_true]at hs
  cases x with
  | agg cs =>
   simp only [readR]at hr
   split at hr
   ·rename_i d ds' h1 h2
    simp only [belowL,below,readScs_low h1,readR_low hs.2 h2,Bool.and_self]
   ·simp at hr
  | _=>simp [readR]at hr
 | .ptr l :: r,x :: xs,ds,hs,hr=>by simp [okRs]at hs
 | [],_ :: _,ds,_,hr=>by simp [readR]at hr
 | .one _ :: _,[],ds,_,hr=>by simp [readR]at hr
 | .agg _ :: _,[],ds,_,hr=>by simp [readR]at hr
theorem one_low1 {n:Nat} (xs:List RV) (h:belowL n xs=true):below n (one xs)=true:=by
 match xs,h with
 | [],h=>exact h
 | [x],h=>simpa [belowL,one] using h
 | _ :: _ :: _,h=>exact h
section
variable [Env] {P:Program} {C:Know} {G:List ConE} {A:Nat→List SV→AnG} {g:FuncId}
theorem wFunG_to {fx:Nat} (hN:NoOwn P) (hC:KnowOk P ev0 C) (hG:∀con∈G,GrowOk P con) {args:List SV} {B:RW} {L:List SObj} {Q:List SV→SMem→Prop} (hB:BOk B) (hfx:fx≤L.length) (h:wFunG P C G A fx g args B L Q) :
  ∀(m:Nat→Loc) (w:World) (cs:List Frame),Rel m (SMem.den ⟨B,L.length,L⟩) w→belowL (B.n+L.length) (denL B.n args)=true →
  ∃xs σ m' w' fr,Q xs σ∧Grow B σ.B∧BOk σ.B∧σ.Wf∧Steps P (lone (Frame.enter P g ((denL B.n args).map (rv m)).toArray .normal) cs w) (lone fr cs w')∧fr.leaving P w' (.returned (rv m' (den σ.B.n (oneS xs))))∧fr.fn=g ∧
   Rel m' σ.den w'∧PostG B.n fx σ.B.n m (SMem.den ⟨B,L.length,L⟩) w m' σ.den w'∧below σ.den.n (den σ.B.n (oneS xs))=true:=by
 intro m w cs hr hb
 unfold wFunG at h
 split at h
 case h_2=>exact h.elim
 rename_i fn hfn
 split at h
 case h_2=>exact h.elim
 rename_i c hc
 rw [fnat_eq]at h
 have hlen:args.length≤max args.length fn.ntmps:=Nat.le_max_left _ _
 have htt:=TT_of B.n (padS (max args.length fn.ntmps) args)
 have hT:∀i,(RT.of (denL B.n (padS (max args.length fn.ntmps) args)) (padS (max args.length fn.ntmps) args).length).get i=((denL B.n args)[i]?).getD ud:=by
  intro i
  rw [htt.get i,padS_get _ _ _ hlen,denL_eq,List.getElem?_map]
  cases args[i]?<;>rfl
 have hTn:(RT.of (denL B.n (padS (max args.length fn.ntmps) args)) (padS (max args.length fn.ntmps) args).length).n=max (denL B.n args).length fn.ntmps:=by
  rw [htt.n,padS_len _ _ hlen,denL_len]
 have hcode:=wG_ok (g:=g) (fx:=fx) (B0:=B) (N:=B.n) hN hC hG c (t:=padS (max args.length fn.ntmps) args) (σ:=⟨B,L.length,L⟩) (s:=⟨_,SMem.den ⟨B,L.length,L⟩,[]⟩) ⟨⟨rfl,rfl,rfl,⟨rfl⟩,htt⟩,rfl,Grow.refl _,hB⟩ h
 have hlt:tlt (SMem.den ⟨B,L.length,L⟩).n (RT.of (denL B.n (padS (max args.length fn.ntmps) args)) (padS (max args.length fn.ntmps) args).length):=by
  intro i
  rw [hT]
  cases hx:(denL B.n args)[i]? with
  | none=>rfl
  | some y=>exact(belowL_iff _ _).1 hb y (List.mem_of_getElem? hx)
 have hfr:FrX w.heap.size m ⟨RT.of (denL B.n (padS (max args.length fn.ntmps) args)) (padS (max args.length fn.ntmps) args).length,SMem.den ⟨B,L.length,L⟩,[]⟩ (Frame.enter P g ((denL B.n args).map (rv m)).toArray .normal) g none w:=
  FrX.enter hfn hT hTn
 have htodo:(Frame.enter P g ((denL B.n args).map (rv m)).toArray .normal).todo=.code c :: []:=by simp [Frame.enter,hfn,hc]
 obtain⟨ex,N',s,m1,w1,fr1,⟨t,σ,⟨⟨h1,h2,_,h4,h5⟩,rfl,hgr,hB'⟩,h6⟩,st1,hr1,hlt1,hfr1,hp1,hk1,hleft⟩:=hcode w.heap.size m w _ cs [] (show B.n+fx≤B.n+L.length by omega) (by simp) hr hlt hfr htodo
 have key:(ex=.nrm∨ex=.ret)∧∃xs,resultsR P s.t s.W fn.results.toList=some (denL σ.B.n xs)∧Q xs σ:=by
  cases ex with
  | nrm=>obtain⟨xs,h8,h9⟩:=wRes_ok h5 h4 h6; exact⟨.inl rfl,xs,by rw [h1]; exact h8,h9⟩
  | ret=>obtain⟨xs,h8,h9⟩:=wRes_ok h5 h4 h6; exact⟨.inr rfl,xs,by rw [h1]; exact h8,h9⟩
  | exit id=>exact h6.elim
  | goto l=>exact h6.elim
 obtain⟨hex,xs,hxs,hQ⟩:=key
 have hpn:=hp1.nil (show B.n≤s.W.n by have:=hp1.mono; have:=hp1.le; omega)
 obtain⟨w2,fr2,st2,g1,g2,g3,g4,g5⟩:=leaveTo (cs:=cs) hfn hex hr1 hlt1 hfr1 hpn (hk1.trans rfl) hleft hxs
 rw [h1]at g3 g5 g4 hp1
 refine⟨xs,σ,m1,w2,fr2,hQ,hgr,hB',h4,st1.trans st2,?_,g2,g3,⟨hp1.le,hp1.ag,hp1.lo,hp1.mono,g4.size,g4.keep,g4.own,g4.os,g4.tape,g4.output⟩,?_⟩
 ·rw [oneS_den]; exact g1
 ·rw [oneS_den]; exact g5
theorem fzEnd {fx:Nat} {F:List (Pth×FzK)} {xs:List SV} {σ:SMem} {K:KtS} (hB:BOk σ.B) (hw:σ.Wf) (h:fzs F xs σ K) {m':Nat→Loc} {w':World} (hr:Rel m' σ.den w') (hn:σ.B.n+fx≤σ.den.n) (hb:below σ.den.n (den σ.B.n (oneS xs))=true) :
  ∃t' σ' m2,K t' σ'∧σ'.Wf∧Grow σ.B σ'.B∧BOk σ'.B∧Rel m2 σ'.den w'∧Agree σ.B.n m' m2∧(∀j,j < fx→m2 (σ'.B.n+j)=m' (σ.B.n+j))∧σ'.B.n+fx≤σ'.den.n ∧
   rv m2 (one (denL σ'.B.n t'))=rv m' (den σ.B.n (oneS xs))∧∀b o,σ'.den.get b=some o→o.own=true→∃a x,σ.den.get a=some x∧x.own=true∧(m' a).blk=(m2 b).blk:=by
 have htt:=TT_of σ.B.n xs
 have hbel:tlt σ.den.n (RT.of (denL σ.B.n xs) xs.length):=by
  intro i
  rw [htt.get i]
  cases hx:xs[i]? with
  | none=>rfl
  | some y =>
   simp only [Option.getD_some]
   match xs,hx with
   | [x],hx =>
    cases i with
    | zero=>simp only [List.getElem?_cons_zero,Option.some.injEq]at hx; subst hx; exact hb
    | succ i=>simp at hx
   | x :: x2 :: r,hx =>
    have h9':belowL σ.den.n (denL σ.B.n (x :: x2 :: r))=true:=hb
    rw [belowL_iff]at h9'
    exact h9' _ (by rw [denL_eq]; exact List.mem_map_of_mem (List.mem_of_getElem? hx))
 have hview:=fzs_ok (fx:=fx) (B0:=σ.B) (N:=σ.B.n) (s:=⟨RT.of (denL σ.B.n xs) xs.length,σ.den,[]⟩) ⟨⟨rfl,rfl,rfl,hw,htt⟩,rfl,Grow.refl _,hB⟩ h
 obtain⟨m2,N2,s2,⟨t',σ',⟨⟨k1,k2,_,k4,k5⟩,rfl,k7,k8⟩,hK⟩,hle,ha,hf,h2,h3,h4,h6,h8⟩:=hview m' w' ((xs.map fun x=>rv m' (den σ.B.n x)).toArray) hn hr hbel ⟨by simp,fun i=>by
  rw [htt.get i,Array.getD_eq_getD_getElem?,List.getElem?_toArray,List.getElem?_map]
  cases xs[i]? with
  | none=>rfl
  | some y=>rfl⟩
 rw [k1]at h2 h6 h8
 refine⟨t',σ',m2,hK,k4,k7,k8,h2,ha,hf,h6,?_,h8⟩
 have hlen:t'.length=xs.length:=by
  have:=h4.size
  rw [k5.n]at this
  simpa using this.symm
 have hall:rvL m2 (denL σ'.B.n t')=rvL m' (denL σ.B.n xs):=by
  simp only [rvL_eq,denL_eq,List.map_map]
  apply List.ext_getElem?
  intro i
  simp only [List.getElem?_map]
  cases hx:t'[i]? with
  | none =>
   rw [List.getElem?_eq_none (by rw [← hlen]; exact List.getElem?_eq_none_iff.1 hx)]
   rfl
  | some x =>
   have hi:i < xs.length:=by rw [← hlen]; exact(List.getElem?_eq_some_iff.1 hx).1
   rw [List.getElem?_eq_getElem hi]
   simp only [Option.map_some,Function.comp,Option.some.injEq]
   have:=h4.get i
   rw [k5.get i,hx,Array.getD_eq_getD_getElem?,List.getElem?_toArray,List.getElem?_map,List.getElem?_eq_getElem hi]at this
   exact this.symm
 match t',xs,hlen,hall with
 | [],[],_,_=>rfl
 | [x],[y],_,hall =>
  simp only [denL,rvL,List.cons.injEq,and_true]at hall
  exact hall
 | x :: x2 :: r,y :: y2 :: r2,_,hall =>
  exact congrArg (fun l:List Value=>Value.tuple l.toArray) hall
end
section
variable {P:Program}
theorem FnG.none_ok {e:Env} (hids:e.ids=[]) {C:Know} {G:List ConE} {A:Nat→List SV→AnG} {F:FnG} (hbk:F.blk=none) (hrs:F.rs.all okRs=true) (hN:@NoOwn e P) (hC:@KnowOk e P ev0 C) (hG:∀con∈G,@GrowOk e P con) {as:List SV} {W:RW} {d:List Dat}
  (h:@wFunG e P C G A 0 F.g as W [] fun xs σ=>fzs F.fz xs σ fun xs σ=>endS F d xs σ):@CallTo (plainEnv []) P F.g (denL W.n as) W (F.Out W none d):=by
 intro m w cs hr hb
 have hre:@Rel e m W w:=@Rel.conv (plainEnv []) e hids.symm m W w hr
 have hB:@BOk e W:=@BOk.of e m W w hre
 have e0:SMem.den ⟨W,([]:List SObj).length,[]⟩=W:=by simp [SMem.den]
 obtain⟨xs,σ,m',w',fr,h1,h2,h3,h4,h5,h6,h7,h8,h9,h10⟩:=wFunG_to (L:=[]) hN hC hG hB (Nat.zero_le _) h m w cs (by rw [e0]; exact hre) hb
 rw [e0]at h9
 obtain⟨t',σ',m2,k1,k2,k3,k4,k5,k6,k7,k8,k9,k10⟩:=fzEnd (fx:=0) h3 h4 h1 h8 (by show σ.B.n+0≤σ.B.n+σ.n; omega) h10
 unfold endS at k1
 rw [hbk]at k1
 have e1:SMem.den ⟨σ'.B,0,[]⟩=σ'.B:=by simp [SMem.den]
 obtain⟨ds,q1,⟨q2⟩⟩:=sRead_ok (sees_den (σ:=⟨σ'.B,0,[]⟩) ⟨rfl⟩) k1
 rw [e1]at q1
 have q1:readR σ'.B F.rs (denL σ'.B.n t')=some ds:=q1
 have hgrow:=h2.trans k3
 have hrel:@Rel e m2 σ'.B w':=by
  refine @Rel.mk e _ _ _ k4.wf (fun b o hb=>?_) (fun b o hb=>k4.lt b o hb) (fun a b x y ha hb hx hy hab=>?_) (fun i q hi=>by rw [hids]at hi; simp at hi)
  ·exact @Rel.obj e _ _ _ k5 b o (by rw [denM_get k2,if_pos (get_lt hb)]; exact hb)
  ·exact @Rel.inj e _ _ _ k5 a b x y (by rw [denM_get k2,if_pos (get_lt ha)]; exact ha) (by rw [denM_get k2,if_pos (get_lt hb)]; exact hb) hx hy hab
 refine⟨one (denL σ'.B.n t'),σ'.B,m2,w',fr,⟨σ'.B,_,ds,[],hgrow.n,fun a ha _=>hgrow.get a ha,⟨rfl,rfl⟩,fun a o ha ho=>hgrow.own a o ha ho,rfl,q1,by rw [List.append_nil]; exact q2⟩,h5,by rw [k9]; exact h6,h7,@Rel.conv e (plainEnv []) hids _ _ _ hrel,?_,one_low1 _ (readR_low hrs q1)⟩
 refine⟨fun b hb=>(k6 b (Nat.lt_of_lt_of_le hb h2.n)).trans (h9.ag b hb),hgrow.n,h9.size,h9.keep,?_,h9.os,h9.tape,h9.output⟩
 intro b o hb ho
 obtain⟨a,x,g1,g2,g3⟩:=k10 b o (by rw [denM_get k2,if_pos (get_lt hb)]; exact hb) ho
 rcases h9.own a x g1 g2 with g4 | ⟨a',x',g4,g5,g6⟩
 ·exact .inl (by rw [← g3]; exact g4)
 ·exact .inr ⟨a',x',g4,g5,g6.trans g3⟩
theorem FnG.blk_ok {e:Env} (hids:e.ids=[]) {C:Know} {G:List ConE} {A:Nat→List SV→AnG} {F:FnG} {ss:List Sc} (hbk:F.blk=some ss) (hrs:F.rs.all okRs=true) (hN:@NoOwn e P) (hC:@KnowOk e P ev0 C) (hG:∀con∈G,@GrowOk e P con) {as cs:List SV} {W Wd:RW} {b:Nat} {d:List Dat}
  (hget:W.get b=some (.cells (denL W.n cs) .ex)) (hset:W.set b .dead=some Wd)
  (h:@wFunG e P C G A 1 F.g (.ptr 0 0 :: as) Wd [.cells cs .ex] fun xs σ=>fzs F.fz xs σ fun xs σ=>endS F d xs σ):@CallTo (plainEnv []) P F.g (.ptr b 0 :: denL W.n as) W (F.Out W (some (b,ss)) d):=by
 intro m w cs' hr hb
 have hr:@Rel e m W w:=@Rel.conv (plainEnv []) e hids.symm m W w hr
 have hwf:=@Rel.wf e m W w hr
 have hlt:=@Rel.lt e m W w hr
 obtain⟨hn,hbn,hwfd,hgd⟩:=set_spec hset
 have hwfd:=hwfd hwf
 have hgd:=hgd hwf
 have hB:@BOk e Wd:=@BOk.mk e Wd hwfd (fun a o ha=>by
  rw [hgd]at ha
  rw [hn]
  split at ha
  ·simp only [Option.some.injEq]at ha; subst ha; trivial
  ·exact hlt a o ha) (fun i g hi=>by rw [hids]at hi; simp at hi)
 have hw1:SMem.Wf ⟨Wd,1,[.cells cs .ex]⟩:=⟨rfl⟩
 have hW0:∀a o,(SMem.den ⟨Wd,1,[.cells cs .ex]⟩).get a=some o→(a < W.n∧(a=b∧o=.dead∨a≠b∧W.get a=some o))∨(a=W.n∧o=.cells (denL W.n cs) .ex):=by
  intro a o ha
  rw [denM_get hw1]at ha
  show _∨_
  split at ha
  ·rename_i hla
   have hla':a < W.n:=by rw [← hn]; exact hla
   have ha':Wd.get a=some o:=ha
   rw [hgd]at ha'
   refine .inl ⟨hla',?_⟩
   by_cases hab:a=b
   ·rw [if_pos hab]at ha'
    simp only [Option.some.injEq]at ha'
    exact .inl ⟨hab,ha'.symm⟩
   ·rw [if_neg hab]at ha'
    exact .inr ⟨hab,ha'⟩
  ·rename_i hla
   have hla':¬ a < W.n:=by rw [← hn]; exact hla
   have ha':(SMem.get ⟨Wd,1,[.cells cs .ex]⟩ (a-Wd.n)).map (denO Wd.n)=some o:=ha
   simp only [SMem.get,blt_eq]at ha'
   split at ha'
   ·rename_i hk
    have hk:a-Wd.n < 1:=by simpa using hk
    have e1:1-1-(a-Wd.n)=0:=by omega
    rw [e1]at ha'
    have ha2:some (denO Wd.n (.cells cs .ex))=some o:=ha'
    simp only [Option.some.injEq]at ha2
    refine .inr ⟨by omega,?_⟩
    rw [← ha2,hn]
    rfl
   ·simp at ha'
 let ρ0:Nat→Nat:=fun a=>if a=W.n then b else a
 have hρ0:∀a,a < W.n→ρ0 a=a:=fun a ha=>if_neg (by omega)
 have hρN:ρ0 W.n=b:=if_pos rfl
 have hag0:Agree W.n m (fun a=>m (ρ0 a)):=fun a ha=>by
  show m (ρ0 a)=m a
  rw [hρ0 a ha]
 have hcb:belowC W.n (denL W.n cs)=true:=hlt b _ hget
 have hr0:@Rel e (fun a=>m (ρ0 a)) (SMem.den ⟨Wd,1,[.cells cs .ex]⟩) w:=by
  refine Rel.by ρ0 hr (fun _=>rfl) ?_ ?_ ?_ hids
  ·show([SObj.cells cs .ex].map (denO Wd.n)++Wd.l).length=Wd.n+1
   have:Wd.l.length=Wd.n:=hwfd
   simp [this]
  ·intro a o ha
   have hnn:(SMem.den ⟨Wd,1,[.cells cs .ex]⟩).n=W.n+1:=by show Wd.n+1=_; rw [hn]
   rw [hnn]
   rcases hW0 a o ha with ⟨hla,⟨rfl,rfl⟩ | ⟨hab,hga⟩⟩ | ⟨rfl,rfl⟩
   ·exact⟨trivial,.inl rfl⟩
   ·refine⟨RObj.lt_mono (Nat.le_succ _) (hlt a o hga),.inr ⟨o,by rw [hρ0 a hla]; exact hga,rfl,rfl,?_⟩⟩
    rw [hρ0 a hla]
    exact(@Rel.obj e m W w hr a o hga).agree (hlt a o hga) hag0
   ·refine⟨RObj.lt_mono (Nat.le_succ _) (show RObj.lt W.n (.cells (denL W.n cs) .ex)from hcb),.inr ⟨_,by rw [hρN]; exact hget,rfl,rfl,?_⟩⟩
    rw [hρN]
    exact(@Rel.obj e m W w hr b _ hget).agree (show RObj.lt W.n (.cells (denL W.n cs) .ex)from hcb) hag0
  ·intro x y ox oy hx hy hlx hly hxy
   rcases hW0 x ox hx with ⟨hla,⟨rfl,rfl⟩ | ⟨hab,hga⟩⟩ | ⟨rfl,rfl⟩
   ·simp [RObj.live]at hlx
   ·rcases hW0 y oy hy with ⟨hlb,⟨rfl,rfl⟩ | ⟨hab2,hgb⟩⟩ | ⟨rfl,rfl⟩
    ·simp [RObj.live]at hly
    ·rw [hρ0 x hla,hρ0 y hlb]; exact hxy
    ·rw [hρ0 x hla,hρN]; exact hab
   ·rcases hW0 y oy hy with ⟨hlb,⟨rfl,rfl⟩ | ⟨hab2,hgb⟩⟩ | ⟨rfl,rfl⟩
    ·simp [RObj.live]at hly
    ·rw [hρN,hρ0 y hlb]; exact fun e=>hab2 e.symm
    ·exact absurd rfl hxy
 have hbl:belowL W.n (denL W.n as)=true:=by
  have hb':belowL W.n (.ptr b 0 :: denL W.n as)=true:=hb
  simp only [belowL,Bool.and_eq_true]at hb'
  exact hb'.2
 have hbel:belowL (Wd.n+1) (denL Wd.n (.ptr 0 0 :: as))=true:=by
  rw [hn]
  simp only [denL,belowL,Bool.and_eq_true]
  refine⟨?_,?_⟩
  ·simp [den,below,blt_eq]
  ·rw [belowL_iff]at hbl ⊢
   exact fun x hx=>below_mono (Nat.le_succ _) x (hbl x hx)
 obtain⟨xs,σ,m',w',fr,h1,h2,h3,h4,h5,h6,h7,h8,h9,h10⟩:=wFunG_to (L:=[SObj.cells cs .ex]) hN hC hG hB (Nat.le_refl 1) h (fun a=>m (ρ0 a)) w cs' hr0 hbel
 have hargs:(denL Wd.n (.ptr 0 0 :: as)).map (rv fun a=>m (ρ0 a))=(RV.ptr b 0 :: denL W.n as).map (rv m):=by
  rw [hn]
  simp only [denL,List.map_cons]
  congr 1
  ·simp only [den,rv,Nat.add_zero,hρN]
  ·apply List.map_congr_left
   intro x hx
   exact rv_agree hag0 x ((belowL_iff _ _).1 hbl x hx)
 rw [hargs]at h5
 obtain⟨t',σ',m2,k1,k2,k3,k4,k5,k6,k7,k8,k9,k10⟩:=fzEnd (fx:=1) h3 h4 h1 h8 h9.mono h10
 unfold endS at k1
 rw [hbk]at k1
 have e1:SMem.den ⟨σ'.B,0,[]⟩=σ'.B:=by simp [SMem.den]
 obtain⟨ds,q1,q3⟩:=sRead_ok (sees_den (σ:=⟨σ'.B,0,[]⟩) ⟨rfl⟩) k1
 rw [e1]at q1
 have q1:readR σ'.B F.rs (denL σ'.B.n t')=some ds:=q1
 have hgrow:=h2.trans k3
 simp only at q3
 split at q3
 case h_2=>exact q3.elim
 rename_i c hc
 obtain⟨dc,q4,⟨q5⟩⟩:=sScs_ok (sees_den (σ:=⟨σ'.B,0,[]⟩) ⟨rfl⟩) q3
 rw [e1]at q4
 have q4:readScs σ'.B ss (denL σ'.B.n c)=some dc:=q4
 have hloc:σ'.den.get σ'.B.n=some (.cells (denL σ'.B.n c) .ex):=by
  rw [denM_get k2,if_neg (by omega),Nat.sub_self,hc]
  rfl
 have hWn:W.n≤σ'.B.n:=by have:=hgrow.n; omega
 have hdead:σ'.B.get b=some .dead:=by rw [hgrow.get b (by omega),hgd,if_pos rfl]
 let ρ1:Nat→Nat:=fun a=>if a=b then σ'.B.n else a
 have hρb:ρ1 b=σ'.B.n:=if_pos rfl
 have hρl:∀a,a≠b→ρ1 a=a:=fun a h2=>if_neg h2
 have hmb:m2 σ'.B.n=m b:=by
  have g1:=k7 0 (by omega)
  have g2:=h9.lo 0 (by omega)
  simp only [Nat.add_zero]at g1 g2
  rw [g1,g2]
  show m (ρ0 Wd.n)=m b
  rw [hn,hρN]
 have hml:∀a,a < W.n→m2 a=m a:=fun a ha=>by
  rw [k6 a (by have:=h2.n; omega),h9.ag a (by omega)]
  show m (ρ0 a)=m a
  rw [hρ0 a ha]
 have hag:∀a,m2 (ρ1 a)=m2 a:=by
  intro a
  by_cases hab:a=b
  ·subst hab
   rw [hρb,hmb,hml a hbn]
  ·rw [hρl a hab]
 obtain⟨W2,hW2⟩:∃W2,σ'.B.set b (.cells (denL σ'.B.n c) .ex)=some W2:=⟨_,set_some k4.wf (by omega)⟩
 obtain⟨hn2,_,hwf2,hg2⟩:=set_spec hW2
 have hwf2:=hwf2 k4.wf
 have hg2:=hg2 k4.wf
 have hset2:W2.set b .dead=some σ'.B:=by
  have hW2':=hW2
  rw [set_some k4.wf (by omega)]at hW2'
  simp only [Option.some.injEq]at hW2'
  rw [set_some hwf2 (by rw [hn2]; omega),← hW2']
  simp only [List.set_set,Option.some.injEq]
  have hl:σ'.B.l[σ'.B.n-1-b]?=some .dead:=by
   have:=hdead
   unfold RW.get at this
   rw [blt_eq,decide_eq_true (by omega:b < σ'.B.n)]at this
   simpa [lget_eq] using this
  have:σ'.B.l.set (σ'.B.n-1-b) .dead=σ'.B.l:=by
   apply List.ext_getElem?
   intro i
   by_cases hi:σ'.B.n-1-b=i
   ·subst hi
    rw [List.getElem?_set_self (List.getElem?_eq_some_iff.1 hl).1,hl]
   ·rw [List.getElem?_set_ne hi]
  rw [this]
 have hplain:(RObj.cells (denL σ'.B.n c) .ex).lt σ'.B.n:=readScs_low q4
 have hrel:@Rel e m2 W2 w':=by
  refine Rel.by ρ1 k5 (fun a=>(hag a).symm) hwf2 ?_ ?_ hids
  ·intro a o ha
   rw [hg2]at ha
   by_cases hab:a=b
   ·rw [if_pos hab]at ha
    simp only [Option.some.injEq]at ha
    subst ha hab
    refine⟨by rw [hn2]; exact hplain,.inr ⟨_,by rw [hρb]; exact hloc,rfl,rfl,?_⟩⟩
    rw [← hag a,hρb]
    exact @Rel.obj e _ _ _ k5 _ _ hloc
   ·rw [if_neg hab]at ha
    refine⟨by rw [hn2]; exact k4.lt a o ha,.inr ⟨o,?_,rfl,rfl,?_⟩⟩
    ·rw [hρl a hab,denM_get k2,if_pos (get_lt ha)]; exact ha
    ·exact @Rel.obj e _ _ _ k5 a o (by rw [denM_get k2,if_pos (get_lt ha)]; exact ha)
  ·intro a a' x y ha ha' hx hy hab
   have hla:=get_lt ha
   have hla':=get_lt ha'
   rw [hn2]at hla hla'
   by_cases h1:a=b
   ·subst h1
    rw [hρb,hρl a' (fun h=>hab h.symm)]
    omega
   ·by_cases h2:a'=b
    ·subst h2
     rw [hρb,hρl a h1]
     omega
    ·rw [hρl a h1,hρl a' h2]; exact hab
 have hW0own:∀a o,(SMem.den ⟨Wd,1,[.cells cs .ex]⟩).get a=some o→o.own=true→W.get (ρ0 a)=some o:=by
  intro a o ha ho
  rcases hW0 a o ha with ⟨hla,⟨rfl,rfl⟩ | ⟨hab,hga⟩⟩ | ⟨rfl,rfl⟩
  ·simp [RObj.own]at ho
  ·rw [hρ0 a hla]; exact hga
  ·rw [hρN]; exact hget
 refine⟨one (denL σ'.B.n t'),W2,m2,w',fr,⟨σ'.B,_,ds,dc,by omega,fun a ha hne=>?_,⟨hset2,_,by rw [hg2,if_pos rfl],q4⟩,fun a o ha ho=>?_,rfl,q1,q5⟩,h5,by rw [k9]; exact h6,h7,@Rel.conv e (plainEnv []) hids _ _ _ hrel,?_,by rw [hn2]; exact one_low1 _ (readR_low hrs q1)⟩
 ·have hab:¬ a=b:=hne b ss rfl
  rw [hg2,if_neg hab,hgrow.get a (by omega),hgd,if_neg hab]
 ·rw [hg2,if_neg (by omega)]at ho
  exact hgrow.own a o (by omega) ho
 ·refine⟨fun a ha=>hml a ha,by omega,h9.size,?_,?_,h9.os,h9.tape,h9.output⟩
  ·intro r hrs2 hno
   exact h9.keep r hrs2 fun a o ha ho=>hno (ρ0 a) o (hW0own a o ha ho) ho
  ·intro a o ha ho
   rw [hg2]at ha
   by_cases hab:a=b
   ·subst hab
    exact .inr ⟨a,_,hget,rfl,by rw [hml a hbn]⟩
   ·rw [if_neg hab]at ha
    obtain⟨a1,x,g1,g2,g3⟩:=k10 a o (by rw [denM_get k2,if_pos (get_lt ha)]; exact ha) ho
    rcases h9.own a1 x g1 g2 with g4 | ⟨a',x',g4,g5,g6⟩
    ·exact .inl (by rw [← g3]; exact g4)
    ·exact .inr ⟨ρ0 a',x',hW0own a' x' g4 g5,g5,g6.trans g3⟩
theorem FnG.ok (hP:Named P) {l:List Fn0} {es:List FnE} {gs:List FnG} (hd:distinct l=true) (hde:distinctE es=true) (hap:apartB l es=true) (hl:∀F∈l,F.Ok P) (he:∀F∈es,F.Ok P) (hg:∀F∈gs,F.Ok P) {A:List SV→List Dat→Nat→List SV→AnG} {F:FnG}
  (hb:(P.funcs[F.g]?).any (fun fn=>fn.body.isSome)=true) (hrs:F.rs.all okRs=true) (h:Ob (needG P l es gs A F)):F.Ok P:=by
 obtain⟨h⟩:=h
 have hN:=noOwn_fn2 hP hl he []
 have hC:=knowOk_fn2 hd hde hap hl he []
 have hG:∀con∈gs.map FnG.con,@GrowOk (fnEnv2 [] l es) P con:=by
  intro con hcon
  obtain⟨F',h1,rfl⟩:=List.mem_map.1 hcon
  exact @FnG.grow (fnEnv2 [] l es) P F' (hg F' h1)
 refine⟨?_,?_⟩
 ·cases hf:P.funcs[F.g]? with
  | none=>rw [hf]at hb; simp at hb
  | some fn=>rw [hf]at hb; exact⟨fn,rfl,by simpa using hb⟩
 unfold needG at h
 split
 ·rename_i hbk
  rw [hbk]at h
  intro args W d hr hpre
  obtain⟨as,ha,hw⟩:=allSh_ok hr (h W)
  rw [← ha]
  exact FnG.none_ok (e:=fnEnv2 [] l es) rfl hbk hrs hN hC hG (hw hpre)
 ·rename_i ss hbk
  rw [hbk]at h
  intro b rest W Wd c d0 d hget hset h1 h2 hpre
  obtain⟨hn,_⟩:=set_spec hset
  obtain⟨cs,hc,hw⟩:=allScs_ok h1 (h Wd)
  obtain⟨as,ha,hw⟩:=allSh_ok h2 hw
  rw [hn]at hc ha
  rw [← ha]
  exact FnG.blk_ok (e:=fnEnv2 [] l es) rfl (cs:=cs) hbk hrs hN hC hG (by rw [hc]; exact hget) hset (hw hpre)
end
end Go.Rv
namespace Go.Rv
open Go
theorem hasTabs.up {tabs:Tabs} {B B':RW} (h:hasTabs tabs B) (g:Grow B B'):hasTabs tabs B':=fun i o ho=>by
 have:=h i o ho
 rw [g.get i (get_lt this)]
 exact this
noncomputable section
def noAnG:AnG:=⟨Unit,fun _=>[],fun _=>[],fun _ _=>True,fun _=>0,0,[]⟩
def needLG (P:Program) (l:List Fn0) (es:List FnE) (gs:List FnG) (gA:FuncId) (tabs:Tabs) (A:List SV→List Dat→Nat→List SV→AnG) (F:LawF):Prop:=
 ∀B:RW,hasTabs tabs B→allSh B F.sh fun as ds=>F.pre ds→@wFunG (lawEnv l es gA tabs) P ⟨l.map Fn0.con,es.map FnE.con++[conAwake gA tabs],Ora.no⟩ (gs.map FnG.con) (A as ds) 0 F.g as B [] fun xs _=>isTrue (oneS xs)
end
section
variable {P:Program}
theorem law_callsG (hP:Named P) {l:List Fn0} {es:List FnE} {gs:List FnG} (hd:distinct l=true) (hde:distinctE es=true) (hap:apartB l es=true) (hl:∀F∈l,F.Ok P) (he:∀F∈es,F.Ok P) (hg:∀F∈gs,F.Ok P) {gA:FuncId} {tabs:Tabs}
  (h1:(l.all fun G=>!Nat.beq G.g gA)=true) (h2:(es.all fun G=>!Nat.beq G.g gA)=true)
  (hA:∀W,hasTabs tabs W→@CallOk (plainEnv (tabs.map (·.1))) P gA [] W (.v (.bool true)) W) (hbA:∃fn,P.funcs[gA]?=some fn∧fn.body.isSome=true)
  {A:List SV→List Dat→Nat→List SV→AnG} {F:LawF} (hn:Ob (needLG P l es gs gA tabs A F)) {m:Nat→Loc} {W:RW} {w:World} (hr:@Rel (plainEnv (tabs.map (·.1))) m W w) (ht:hasTabs tabs W)
  {args:List RV} {ds:List Dat} (hrd:readR W F.sh args=some ds) (hpre:F.pre ds) (hb:belowL W.n args=true) (hro:∀b o,W.get b=some o→o.own=false) :
  Calls P F.g (args.map (rv m)).toArray w fun e w'=>e=.returned (.bool true)∧RowKit.Below w.heap.size w w':=by
 obtain⟨as,ha,hw⟩:=allSh_ok hrd (hn.h W ht)
 have hre:=@Rel.conv (plainEnv (tabs.map (·.1))) (lawEnv l es gA tabs) rfl m W w hr
 have hB:@BOk (lawEnv l es gA tabs) W:=@BOk.of (lawEnv l es gA tabs) m W w hre
 have hG:∀con∈gs.map FnG.con,@GrowOk (lawEnv l es gA tabs) P con:=by
  intro con hcon
  obtain⟨F',q1,rfl⟩:=List.mem_map.1 hcon
  exact @FnG.grow (lawEnv l es gA tabs) P F' (hg F' q1)
 have e0:SMem.den ⟨W,([]:List SObj).length,[]⟩=W:=by simp [SMem.den]
 intro cs
 obtain⟨xs,σ,m',w',fr,hq,k2,k3,k4,st,hlv,hfn,hr',hp,hx⟩:=@wFunG_to (lawEnv l es gA tabs) P _ _ _ F.g 0 (noOwn_law hP hl he hA hbA) (knowOk_law hd hde hap hl he h1 h2) hG as W [] _ hB (Nat.zero_le _) (hw hpre) m w cs (by rw [e0]; exact hre) (by rw [ha]; exact hb)
 rw [ha]at st
 rw [e0]at hp
 have hy:rv m' (den σ.B.n (oneS xs))=.bool true:=by
  unfold isTrue at hq
  split at hq
  ·rename_i hxs
   rw [hxs]
   rfl
  ·rename_i c hxs
   rw [hxs]
   simp only [den,rv]
   congr 1
   exact @decide_eq_true c (Classical.propDecidable c) hq.h
  ·exact hq.elim
 have hpn:=(hp.nil (show W.n≤σ.den.n by have:=hp.mono; have:=hp.le; omega)).all
 exact⟨.returned (rv m' (den σ.B.n (oneS xs))),w',fr,⟨by rw [hy],hpn.below hro⟩,st,hfn,hlv⟩
end
end Go.Rv
namespace Go.Rv
open Go
def setY (ys:Nat→RV) (k:Nat) (x:RV):Nat→RV:=fun i=>if i=k then x else ys i
theorem setY_at (ys:Nat→RV) (k:Nat) (x:RV):setY ys k x k=x:=if_pos rfl
theorem setY_ne {ys:Nat→RV} {k i:Nat} {x:RV} (h:¬ i=k):setY ys k x i=ys i:=if_neg h
def LieAt (B:RW) (ks:List IntKind) (ys:Nat→RV) (R:List (List (List Int))) (n:Nat):Prop:=∀i,i < n→IsLst B (ys i) (R.getD i []).length ks.length (Rv.elemOf ks (R.getD i []))∧oneB (ys i)=true
theorem LieAt.up {B B':RW} {ks:List IntKind} {ys:Nat→RV} {R:List (List (List Int))} {n:Nat} (h:LieAt B ks ys R n) (g:Grow B B'):LieAt B' ks ys R n:=fun i hi=>⟨(h i hi).1.up g,(h i hi).2⟩
theorem LieAt.zero (B:RW) (ks:List IntKind) (ys:Nat→RV) (R:List (List (List Int))):LieAt B ks ys R 0:=fun i hi=>by omega
theorem LieAt.nam {B:RW} {ks:List IntKind} {ys:Nat→RV} {R:List (List (List Int))} {n:Nat} (h:LieAt B ks ys R n):NamE B n (llElem ks ys R):=by
 intro i hi y hy
 simp only [llElem,List.mem_cons,List.not_mem_nil,or_false]at hy
 exact .inr ⟨_,_,_,_,hy,(h i hi).1,(h i hi).2⟩
theorem LieAt.next {B:RW} {ks:List IntKind} {ys:Nat→RV} {R:List (List (List Int))} {n:Nat} {x:RV} (h:LieAt B ks ys R n) (hx:IsLst B x (R.getD n []).length ks.length (Rv.elemOf ks (R.getD n []))) (ho:oneB x=true):LieAt B ks (setY ys n x) R (n+1):=by
 intro i hi
 by_cases e:i=n
 ·subst e
  rw [setY_at]
  exact⟨hx,ho⟩
 ·rw [setY_ne e]
  exact h i (by omega)
theorem IsLL.lie {B:RW} {ks:List IntKind} {x:RV} {ys:Nat→RV} {R:List (List (List Int))} (h:IsLL B ks x ys R):LieAt B ks ys R R.length:=fun i hi=>⟨(h.2 i hi).1,(h.2 i hi).2.1⟩
theorem ll_snoc {ks:List IntKind} {ys:Nat→RV} {R:List (List (List Int))} {n i sz:Nat} {x:RV} {rows:List (List Int)} (hs:sz=ks.length) (hr:R.getD n []=rows):((El.nf (llElem ks ys R)).snoc n [.lst x rows.length sz (Rv.elemOf ks rows)]).at i=(El.nf (llElem ks (setY ys n x) R)).at i∨n < i:=by
 subst hs hr
 simp only [El.at]
 by_cases h1:i < n
 ·left
  rw [if_pos h1]
  simp only [llElem,setY_ne (show ¬ i=n by omega)]
 ·by_cases h2:i=n
  ·left
   subst h2
   rw [if_neg (by omega)]
   simp only [llElem,setY_at]
  ·right; omega
theorem ll_snoc1 {ks:List IntKind} {ys:Nat→RV} {R:List (List (List Int))} {n sz:Nat} {x:RV} {rows:List (List Int)} (hs:sz=ks.length) (hr:R.getD n []=rows):∀i,i < n+1→((El.nf (llElem ks ys R)).snoc n [.lst x rows.length sz (Rv.elemOf ks rows)]).at i=(El.nf (llElem ks (setY ys n x) R)).at i:=by
 intro i hi
 rcases ll_snoc (ys:=ys) (x:=x) (i:=i) hs hr with h | h
 ·exact h
 ·omega
theorem ll_snoc2 {ks:List IntKind} {ys:Nat→RV} {R:List (List (List Int))} {sz:Nat} {x:RV} {rows:List (List Int)} (hs:sz=ks.length):∀i,i < R.length+1→((El.nf (llElem ks ys R)).snoc R.length [.lst x rows.length sz (Rv.elemOf ks rows)]).at i=(El.nf (llElem ks (setY ys R.length x) (R++[rows]))).at i:=by
 intro i hi
 have e1:(R++[rows]).getD R.length []=rows:=by simp [List.getD_eq_getElem?_getD]
 rw [← ll_snoc1 (ys:=ys) (x:=x) (R:=R++[rows]) hs e1 i hi]
 simp only [El.at]
 by_cases h1:i < R.length
 ·rw [if_pos h1,if_pos h1]
  simp only [llElem]
  have:(R++[rows]).getD i []=R.getD i []:=by
   rw [List.getD_eq_getElem?_getD,List.getD_eq_getElem?_getD,List.getElem?_append_left h1]
  rw [this]
 ·rw [if_neg h1,if_neg h1]
theorem LieAt.snoc {B:RW} {ks:List IntKind} {ys:Nat→RV} {R:List (List (List Int))} {x:RV} {rows:List (List Int)} (h:LieAt B ks ys R R.length) (hx:IsLst B x rows.length ks.length (Rv.elemOf ks rows)) (ho:oneB x=true):LieAt B ks (setY ys R.length x) (R++[rows]) (R.length+1):=by
 intro i hi
 by_cases e:i=R.length
 ·subst e
  have e1:(R++[rows]).getD R.length []=rows:=by simp [List.getD_eq_getElem?_getD]
  rw [setY_at,e1]
  exact⟨hx,ho⟩
 ·have h1:i < R.length:=by omega
  have:(R++[rows]).getD i []=R.getD i []:=by
   rw [List.getD_eq_getElem?_getD,List.getD_eq_getElem?_getD,List.getElem?_append_left h1]
  rw [setY_ne e,this]
  exact h i h1
theorem LieAt.ll {B:RW} {ks:List IntKind} {ys:Nat→RV} {R:List (List (List Int))} (h:LieAt B ks ys R R.length) (hr:∀l∈R,∀row∈l,row.length=ks.length):∀i,i < R.length→IsLst B (ys i) (R.getD i []).length ks.length (Rv.elemOf ks (R.getD i []))∧oneB (ys i)=true∧∀row∈R.getD i [],row.length=ks.length:=fun i hi=>⟨(h i hi).1,(h i hi).2,by
 rw [List.getD_eq_getElem?_getD,List.getElem?_eq_getElem hi]
 exact hr _ (List.getElem_mem hi)⟩
theorem IsLL.rows {B:RW} {ks:List IntKind} {x:RV} {ys:Nat→RV} {R:List (List (List Int))} (h:IsLL B ks x ys R):∀i,∀row∈R.getD i [],row.length=ks.length:=by
 intro i row hr
 by_cases hi:i < R.length
 ·exact(h.2 i hi).2.2 row hr
 ·rw [List.getD_eq_getElem?_getD,List.getElem?_eq_none (by omega)]at hr
  simp at hr
end Go.Rv
namespace Go.Rv
open Go
noncomputable section
def needGI (P:Program) (l:List Fn0) (e:List FnE) (G:List FnG) (I:List SV→List Dat→List In) (A:List SV→List Dat→Nat→List SV→AnG) (F:FnG):Prop:=match F.blk with
 | none=>∀B:RW,allSh B F.sh fun as ds=>F.pre ds→@wFunG (fnEnv2 [] l e) P ⟨l.map Fn0.con,e.map FnE.con,@oraOf (fnEnv2 [] l e) P (l.map Fn0.con) (e.map FnE.con) (I as ds)⟩ (G.map FnG.con) (A as ds) 0 F.g as B [] fun xs σ=>fzs F.fz xs σ fun xs σ=>endS F ds xs σ
 | some ss=>∀B:RW,allScs B ss fun cs d0=>allSh B F.sh fun as ds=>F.pre (d0++ds)→@wFunG (fnEnv2 [] l e) P ⟨l.map Fn0.con,e.map FnE.con,@oraOf (fnEnv2 [] l e) P (l.map Fn0.con) (e.map FnE.con) (I (.agg cs :: as) (d0++ds))⟩ (G.map FnG.con) (A (.agg cs :: as) (d0++ds)) 1 F.g (.ptr 0 0 :: as) B [.cells cs .ex] fun xs σ=>fzs F.fz xs σ fun xs σ=>endS F (d0++ds) xs σ
end
variable {P:Program}
theorem FnG.okI (hP:Named P) {l:List Fn0} {es:List FnE} {gs:List FnG} (hd:distinct l=true) (hde:distinctE es=true) (hap:apartB l es=true) (hl:∀F∈l,F.Ok P) (he:∀F∈es,F.Ok P) (hg:∀F∈gs,F.Ok P) {I:List SV→List Dat→List In} {A:List SV→List Dat→Nat→List SV→AnG} {F:FnG}
  (hb:(P.funcs[F.g]?).any (fun fn=>fn.body.isSome)=true) (hrs:F.rs.all okRs=true) (h:Ob (needGI P l es gs I A F)):F.Ok P:=by
 obtain⟨h⟩:=h
 have hN:=noOwn_fn2 hP hl he []
 have hC0:=knowOk_fn2 hd hde hap hl he []
 have hC:∀ins,@KnowOk (fnEnv2 [] l es) P ev0 ⟨l.map Fn0.con,es.map FnE.con,@oraOf (fnEnv2 [] l es) P (l.map Fn0.con) (es.map FnE.con) ins⟩:=fun ins=>@KnowOk.ora P (fnEnv2 [] l es) hN _ _ hC0 ins
 have hG:∀con∈gs.map FnG.con,@GrowOk (fnEnv2 [] l es) P con:=by
  intro con hcon
  obtain⟨F',h1,rfl⟩:=List.mem_map.1 hcon
  exact @FnG.grow (fnEnv2 [] l es) P F' (hg F' h1)
 refine⟨?_,?_⟩
 ·cases hf:P.funcs[F.g]? with
  | none=>rw [hf]at hb; simp at hb
  | some fn=>rw [hf]at hb; exact⟨fn,rfl,by simpa using hb⟩
 unfold needGI at h
 split
 ·rename_i hbk
  rw [hbk]at h
  intro args W d hr hpre
  obtain⟨as,ha,hw⟩:=allSh_ok hr (h W)
  rw [← ha]
  exact FnG.none_ok (e:=fnEnv2 [] l es) rfl hbk hrs hN (hC _) hG (hw hpre)
 ·rename_i ss hbk
  rw [hbk]at h
  intro b rest W Wd c d0 d hget hset h1 h2 hpre
  obtain⟨hn,_⟩:=set_spec hset
  obtain⟨cs,hc,hw⟩:=allScs_ok h1 (h Wd)
  obtain⟨as,ha,hw⟩:=allSh_ok h2 hw
  rw [hn]at hc ha
  rw [← ha]
  exact FnG.blk_ok (e:=fnEnv2 [] l es) rfl (cs:=cs) hbk hrs hN (hC _) hG (by rw [hc]; exact hget) hset (hw hpre)
end Go.Rv
