import Derived.Test.YtfebjikidfcbcaaSyP2
import Derived.Test.YtfebjikidfcbcaaGrM
import Derived.Test.YtfebjikidfcbcaaStM
import Derived.Test.YtfebjikidfcbcaaLrM
import Derived.Test.YtfebjikidfcbcaaDhM
import Derived.Test.YtfebjikidfcbcaaKtT
import Derived.Test.YtfebjikidfcbcaaKtA
import Derived.Test.YtfebjikidfcbcaaKtB
import Derived.Test.YtfebjikidfcbcaaKwA
import Derived.Test.YtfebjikidfcbcaaKwB
import Derived.Test.YtfebjikidfcbcaaKwC
import Derived.Test.YtfebjikidfcbcaaKwD
import Derived.Test.YtfebjikidfcbcaaKwE
import Derived.Test.YtfebjikidfcbcaaKwF
import Derived.Test.YtfebjikidfcbcaaKwH
import Derived.Test.YtfebjikidfcbcaaKwI
import Derived.Test.YtfebjikidfcbcaaKwJ
import Derived.Test.YtfebjikidfcbcaaKwK
import Derived.Test.YtfebjikidfcbcaaKwM
import Derived.Test.YtfebjikidfcbcaaKwN
import Derived.Test.YtfebjikidfcbcaaKwO
import Derived.Test.YtfebjikidfcbcaaKwQ
import Derived.Test.YtfebjikidfcbcaaKwX
import Derived.Test.YtfebjikidfcbcaaKwY
import Derived.Test.YtfebjikidfcbcaaKwYu
import Derived.Test.YtfebjikidfcbcaaSyP2
import Derived.KernelRfl
import Derived.Test.YtfebjikidfcbcaaProg
namespace Go.Proofs.Ytfebjikidfcbcaa.Sy
open Go Go.Rv
set_option linter.unusedVariables false
structure Est where
 f:Int
 i:Int
 p:Int
 c:Int
 t:Int
 R:Rows
 k1:Int
 m1:Int
 o1:Int
 q1:Int
 M:Rows
structure Est.Ok (v:Est):Prop where
 r:v.R.length≤100
 rr:∀r∈v.R,r.length=3
 m:v.M.length≤100
 mr:∀r∈v.M,r.length=4
def wnI (w:Value):Int:=match w with
 | .int _ z=>z
 | _=>0
noncomputable def F_law:LawF:=⟨3,[.agg [.i .i64,.i .i64,.i .i64,.i .i64,.l [.i64,.i64,.i64],.i .i64],.agg [.i .i64,.i .i64,.i .i64,.i .i64],.one (.l [.i64,.i64,.i64,.i64]),.one (.l [.i64])],fun l=>match l with | [.z fee,.z itr,.z pri,.z cre,.l A,.z till,.z dk,.z dm,.z dO,.z dq,.l D,.l N]=>D.length≤9223372036854775807∧N.length≤9223372036854775807 | _=>False⟩
noncomputable def A_law:List SV→List Dat→Nat→List SV→Ann:=fun xs ds n ts=>match xs with
 | [.agg [_,_,_,_,.lst x _ _ _,_],.agg _,.lst y _ _ _,.lst xz _ _ _]=>match ds with
  | [.z fee,.z itr,.z pri,.z cre,.l A,.z till,.z dk,.z dm,.z dO,.z dq,.l D,.l N]=>match n with
   | 8=>⟨Unit,fun _=>[],fun _=>[],fun _=>True,fun _=>0,5⟩
   | 4=>⟨Nat,fun k=>([none,none,some (.lst y D.length 4 (Rv.elemOf [.i64,.i64,.i64,.i64] D)),some (.lst xz N.length 1 (Rv.elemOf [.i64] N)),some (.ptr 0 0),some (.ptr 1 0)]++nN 168),fun k=>[.cells [.i .i64 dk,.i .i64 dm,.i .i64 dO,.i .i64 dq] .ex,.cells [.i .i64 fee,.i .i64 itr,.i .i64 pri,.i .i64 cre,.lst x A.length 3 (Rv.elemOf [.i64,.i64,.i64] A),.i .i64 till] .ex],fun k=>A.length≤20∧D.length≤210,fun _=>0,1000000⟩
   | 7=>⟨Est,fun v=>(nN 12++[some (.sl 5 0 4 6),some (.sl 6 0 4 4),some (.sl 9 0 4 1)]++nN 159),fun v=>[.cells (.lst y D.length 4 (Rv.elemOf [.i64,.i64,.i64,.i64] D) :: .gsl 7 v.M.length 4 true :: .lst y D.length 4 (Rv.elemOf [.i64,.i64,.i64,.i64] D) :: .sl 8 0 2 4 :: []) .ex,.cells (.i .i64 dk :: .i .i64 dm :: .i .i64 dO :: .i .i64 dq :: .i .i64 dk :: .i .i64 dm :: .i .i64 dO :: .i .i64 dq :: []) .ex,.gr v.M.length 4 (.fn (Rv.elemOf [.i64,.i64,.i64,.i64] v.M)) .gr true,.cells (.i .i64 dk :: .i .i64 dm :: .i .i64 dO :: .i .i64 dq :: .i .i64 v.k1 :: .i .i64 v.m1 :: .i .i64 v.o1 :: .i .i64 v.q1 :: .i .i64 dk :: .i .i64 dm :: .i .i64 dO :: .i .i64 dq :: .i .i64 dk :: .i .i64 dm :: .i .i64 dO :: .i .i64 dq :: []) .ex,.cells (.i .i64 fee :: .i .i64 itr :: .i .i64 pri :: .i .i64 cre :: .lst x A.length 3 (Rv.elemOf [.i64,.i64,.i64] A) :: .i .i64 till :: .i .i64 v.f :: .i .i64 v.i :: .i .i64 v.p :: .i .i64 v.c :: .gsl 3 v.R.length 3 true :: .i .i64 v.t :: .i .i64 v.f :: .i .i64 v.i :: .i .i64 v.p :: .i .i64 v.c :: .gsl 3 v.R.length 3 true :: .i .i64 v.t :: .i .i64 fee :: .i .i64 itr :: .i .i64 pri :: .i .i64 cre :: .lst x A.length 3 (Rv.elemOf [.i64,.i64,.i64] A) :: .i .i64 till :: []) .ex,.dead,.gr v.R.length 3 (.fn (Rv.elemOf [.i64,.i64,.i64] v.R)) .gr true,.dead,.dead,.dead],fun v=>v.Ok,fun _=>0,1000000⟩
   | 10=>(match lget ts 15 with | some (SV.v w15)=>⟨Est,fun v=>(nN 12++[some (.sl 5 0 4 6),some (.sl 6 0 4 4),some (.sl 9 0 4 1),some (SV.v w15)]++nN 158),fun v=>[.cells (.lst y D.length 4 (Rv.elemOf [.i64,.i64,.i64,.i64] D) :: .gsl 7 v.M.length 4 true :: .lst y D.length 4 (Rv.elemOf [.i64,.i64,.i64,.i64] D) :: .sl 8 0 2 4 :: []) .ex,.cells (.i .i64 dk :: .i .i64 dm :: .i .i64 dO :: .i .i64 dq :: .i .i64 dk :: .i .i64 dm :: .i .i64 dO :: .i .i64 dq :: []) .ex,.gr v.M.length 4 (.fn (Rv.elemOf [.i64,.i64,.i64,.i64] v.M)) .gr true,.cells (.i .i64 dk :: .i .i64 dm :: .i .i64 dO :: .i .i64 dq :: .i .i64 v.k1 :: .i .i64 v.m1 :: .i .i64 v.o1 :: .i .i64 v.q1 :: .i .i64 dk :: .i .i64 dm :: .i .i64 dO :: .i .i64 dq :: .i .i64 dk :: .i .i64 dm :: .i .i64 dO :: .i .i64 dq :: []) .ex,.cells (.i .i64 fee :: .i .i64 itr :: .i .i64 pri :: .i .i64 cre :: .lst x A.length 3 (Rv.elemOf [.i64,.i64,.i64] A) :: .i .i64 till :: .i .i64 v.f :: .i .i64 v.i :: .i .i64 v.p :: .i .i64 v.c :: .gsl 3 v.R.length 3 true :: .i .i64 v.t :: .i .i64 v.f :: .i .i64 v.i :: .i .i64 v.p :: .i .i64 v.c :: .gsl 3 v.R.length 3 true :: .i .i64 v.t :: .i .i64 fee :: .i .i64 itr :: .i .i64 pri :: .i .i64 cre :: .lst x A.length 3 (Rv.elemOf [.i64,.i64,.i64] A) :: .i .i64 till :: []) .ex,.dead,.gr v.R.length 3 (.fn (Rv.elemOf [.i64,.i64,.i64] v.R)) .gr true,.dead,.dead,.dead],fun v=>v.Ok∧wnI w15 < 4,fun _=>0,1000000⟩ | _=>noAnn)
   | _=>noAnn
  | _=>noAnn
 | _=>noAnn
set_option maxRecDepth 10000 in
def V_law:Prop:=
 ∀(B:RW),hasTabs [] B→∀(l k j i:Int) (n:RV) (h:List (List Int)),IsLst B n h.length 3 (Rv.elemOf I3 h)→oneB n=true→(∀row∈h,row.length=3)→∀(m c e f d:Int) (o:RV) (g:List (List Int)),IsLst B o g.length 4 (Rv.elemOf I4 g)→oneB o=true→(∀row∈g,row.length=4)→∀(a9:RV) (O:List (List Int)),IsLst B a9 O.length 1 (Rv.elemOf [.i64] O)→oneB a9=true→(∀row∈O,row.length=1)→g.length≤9223372036854775807∧O.length≤9223372036854775807→LsA B o I4 g∧(LsA B n I3 h∧(¬(20:Int) < (↑h.length:Int)→((60:Int) < (↑g.length:Int)→(¬(↑g.length:Int)≤(200:Int)→((210:Int) < (↑g.length:Int)→Ob (hasTabs [] B)∧True)∧(¬(210:Int) < (↑g.length:Int)→∃(cE:Nat),Ob (h.length≤20∧g.length≤210)∧Ob (SV.lst o g.length 4 (Rv.elemOf I4 g)=SV.lst o g.length 4 (Rv.elemOf I4 g))∧Ob (SV.lst a9 O.length 1 (Rv.elemOf [.i64] O)=SV.lst a9 O.length 1 (Rv.elemOf [.i64] O))∧Ob (c=c)∧Ob (e=e)∧Ob (f=f)∧Ob (d=d)∧Ob (l=l)∧Ob (k=k)∧Ob (j=j)∧Ob (i=i)∧Ob (SV.lst n h.length 3 (Rv.elemOf I3 h)=SV.lst n h.length 3 (Rv.elemOf I3 h))∧Ob (m=m)∧LsA B o I4 g∧LsA B a9 [.i64] O∧LsA B n I3 h∧True))∧((↑g.length:Int)≤(200:Int)→Ob (hasTabs [] B)∧True))∧(¬(60:Int) < (↑g.length:Int)→((210:Int) < (↑g.length:Int)→Ob (hasTabs [] B)∧True)∧(¬(210:Int) < (↑g.length:Int)→∃(cE:Nat),Ob (h.length≤20∧g.length≤210)∧Ob (SV.lst o g.length 4 (Rv.elemOf I4 g)=SV.lst o g.length 4 (Rv.elemOf I4 g))∧Ob (SV.lst a9 O.length 1 (Rv.elemOf [.i64] O)=SV.lst a9 O.length 1 (Rv.elemOf [.i64] O))∧Ob (c=c)∧Ob (e=e)∧Ob (f=f)∧Ob (d=d)∧Ob (l=l)∧Ob (k=k)∧Ob (j=j)∧Ob (i=i)∧Ob (SV.lst n h.length 3 (Rv.elemOf I3 h)=SV.lst n h.length 3 (Rv.elemOf I3 h))∧Ob (m=m)∧LsA B o I4 g∧LsA B a9 [.i64] O∧LsA B n I3 h∧True)))∧((20:Int) < (↑h.length:Int)→Ob (hasTabs [] B)∧True))∧∀(cE:Nat),h.length≤20∧g.length≤210→∀(_ _ _ _ _ _ _ _ _ _ _ _ _ _ _ _ _ _ _ _ _ _ _ _ _ _ _ _ _ _ _ _ _ _ _ _ _ _ _ _ _ _ _ _ _ _ _ _ _ _ _ _ _ _ _ _ _ _ _ _ _ _ _ _ _ _ _ _ _ _ _ _ _ _ _ _ _ _ _ _ _ _ _ _ _ _ _ _ _ _ _ _ _ _ _ _ _ _ _ _ _ _ _ _ _ _ _ _ _ _ _ _ _ _ _ _ _ _ _ _ _ _ _ _ _ _ _ _ _ _ _ _ _ _ _ _ _ _ _ _ _ _ _ _ _ _ _ _ _ _ _ _ _ _ _ _ _ _ _ _ _ _ _ _ _ _ _ _ _ _:Value),RwB B a9 O.length 1 [.i64] O fun r=>Ob (F_TideOf.named.pre [Dat.l r])∧Ob (F_CoopOf.named.pre ([Dat.z (tideK r r.length)]++[Dat.z (5:Int)]))∧∀(af:Int),af=coAE (tideK r r.length) (5:Int)→∀(aB:Int),aB=coF (tideK r r.length)→∀(ar:Int),ar=coI (tideK r r.length)→∀(aq:Int),aq=coP (tideK r r.length)→∀(aj:Int),aj=coC (tideK r r.length)→∀(aE:Int),aE=coT (tideK r r.length) (5:Int)→(LsA B n I3 h∧LsA B n I3 h∧LsA B n I3 h∧LsA B n I3 h∧RwA ((coN (tideK r r.length) (5:Int)).toNat) ((coN (tideK r r.length) (5:Int)).toNat) 3 I3 ((El.fn (Rv.elemOf I3 (coR (tideK r r.length) (5:Int) (coN (tideK r r.length) (5:Int)).toNat))).at) fun W=>Ob (F_DealOf.named.pre ([Dat.z af]++([Dat.z aB,Dat.z ar,Dat.z aq,Dat.z aj,Dat.l W,Dat.z aE]++[Dat.z (0:Int)])))∧∀(s:Int),s=dlE (↑W.length:Int) af (0:Int)→∀(t:Int),t=dlK (↑W.length:Int) af (0:Int)→∀(v:Int),v=dlM (↑W.length:Int) af (0:Int)→∀(u:Int),u=dlO (↑W.length:Int) af (0:Int)→∀(w:Int),w=dlQ (↑W.length:Int) af (0:Int)→LsA B o I4 g∧RwA ((coN (tideK r r.length) (5:Int)).toNat) ((coN (tideK r r.length) (5:Int)).toNat) 3 I3 ((El.fn (Rv.elemOf I3 (coR (tideK r r.length) (5:Int) (coN (tideK r r.length) (5:Int)).toNat))).at) fun X=>Ob (F_DealsOf.named.pre ([Dat.z s]++([Dat.z aB,Dat.z ar,Dat.z aq,Dat.z aj,Dat.l X,Dat.z aE]++[Dat.z (20:Int)])))∧∀(ao:Int),ao=itQ (dsQ (↑X.length:Int)) (belowA s ((20:Int)+(1:Int))) (belowV s ((20:Int)+(1:Int))).toNat→Ob (PlainE (belowV s ((20:Int)+(1:Int))).toNat (El.fn (Rv.elemOf I4 (itR (dsQ (↑X.length:Int)) (dsR (↑X.length:Int)) (belowA s ((20:Int)+(1:Int))) (belowV s ((20:Int)+(1:Int))).toNat))))∧LsA B o I4 g∧Ob (oneB o=true)∧Ob (oneB o=true)∧LsA B o I4 g∧LsA B o I4 g∧∃(p:Est),Ob p.Ok∧Ob (SV.lst o g.length 4 (Rv.elemOf I4 g)=SV.lst o g.length 4 (Rv.elemOf I4 g))∧Ob ((belowV s ((20:Int)+(1:Int))).toNat=p.M.length)∧Ob (SV.lst o g.length 4 (Rv.elemOf I4 g)=SV.lst o g.length 4 (Rv.elemOf I4 g))∧Ob (c=c)∧Ob (e=e)∧Ob (f=f)∧Ob (d=d)∧Ob (c=c)∧Ob (e=e)∧Ob (f=f)∧Ob (d=d)∧EqA ((belowV s ((20:Int)+(1:Int))).toNat) p.M.length (El.fn (Rv.elemOf I4 (itR (dsQ (↑X.length:Int)) (dsR (↑X.length:Int)) (belowA s ((20:Int)+(1:Int))) (belowV s ((20:Int)+(1:Int))).toNat))) (El.fn (Rv.elemOf I4 p.M))∧Ob (c=c)∧Ob (e=e)∧Ob (f=f)∧Ob (d=d)∧Ob (t=p.k1)∧Ob (v=p.m1)∧Ob (u=p.o1)∧Ob (w=p.q1)∧Ob (c=c)∧Ob (e=e)∧Ob (f=f)∧Ob (d=d)∧Ob (c=c)∧Ob (e=e)∧Ob (f=f)∧Ob (d=d)∧Ob (l=l)∧Ob (k=k)∧Ob (j=j)∧Ob (i=i)∧Ob (SV.lst n h.length 3 (Rv.elemOf I3 h)=SV.lst n h.length 3 (Rv.elemOf I3 h))∧Ob (m=m)∧Ob (aB=p.f)∧Ob (ar=p.i)∧Ob (aq=p.p)∧Ob (aj=p.c)∧Ob ((coN (tideK r r.length) (5:Int)).toNat=p.R.length)∧Ob (aE=p.t)∧Ob (aB=p.f)∧Ob (ar=p.i)∧Ob (aq=p.p)∧Ob (aj=p.c)∧Ob ((coN (tideK r r.length) (5:Int)).toNat=p.R.length)∧Ob (aE=p.t)∧Ob (l=l)∧Ob (k=k)∧Ob (j=j)∧Ob (i=i)∧Ob (SV.lst n h.length 3 (Rv.elemOf I3 h)=SV.lst n h.length 3 (Rv.elemOf I3 h))∧Ob (m=m)∧EqA ((coN (tideK r r.length) (5:Int)).toNat) p.R.length (El.fn (Rv.elemOf I3 (coR (tideK r r.length) (5:Int) (coN (tideK r r.length) (5:Int)).toNat))) (El.fn (Rv.elemOf I3 p.R))∧LsA B o I4 g∧LsA B o I4 g∧PlA I4 p.M∧LsA B n I3 h∧LsA B n I3 h∧PlA I3 p.R∧True)∧∀(p:Est),p.Ok→∀(_ _ _ _ _ _ _ _ _ _ _ _ _ _ _ _ _ _ _ _ _ _ _ _ _ _ _ _ _ _ _ _ _ _ _ _ _ _ _ _ _ _ _ _ _ _ _ _ _ _ _ _ _ _ _ _ _ _ _ _ _ _ _ _ _ _ _ _ _ _ _ _ _ _ _ _ _ _ _ _ _ _ _ _ _ _ _ _ _ _ _ _ _ _ _ _ _ _ _ _ _ _ _ _ _ _ _ _ _ _ _ _ _ _ _ _ _ _ _ _ _ _ _ _ _ _ _ _ _ _ _ _ _ _ _ _ _ _ _ _ _ _ _ _ _ _ _ _ _ _ _ _ _ _ _ _ _ _ _ _ _ _ _ _ _ _ _ _ _ _ _:Value),(∃(q:Est),Ob (q.Ok∧wnI (Value.int .i64 (0:Int)) < (4:Int))∧Ob (Value.int .i64 (0:Int)=Value.int .i64 (0:Int))∧Ob (SV.lst o g.length 4 (Rv.elemOf I4 g)=SV.lst o g.length 4 (Rv.elemOf I4 g))∧Ob (p.M.length=q.M.length)∧Ob (SV.lst o g.length 4 (Rv.elemOf I4 g)=SV.lst o g.length 4 (Rv.elemOf I4 g))∧Ob (c=c)∧Ob (e=e)∧Ob (f=f)∧Ob (d=d)∧Ob (c=c)∧Ob (e=e)∧Ob (f=f)∧Ob (d=d)∧EqR I4 p.M q.M∧Ob (c=c)∧Ob (e=e)∧Ob (f=f)∧Ob (d=d)∧Ob (p.k1=q.k1)∧Ob (p.m1=q.m1)∧Ob (p.o1=q.o1)∧Ob (p.q1=q.q1)∧Ob (c=c)∧Ob (e=e)∧Ob (f=f)∧Ob (d=d)∧Ob (c=c)∧Ob (e=e)∧Ob (f=f)∧Ob (d=d)∧Ob (l=l)∧Ob (k=k)∧Ob (j=j)∧Ob (i=i)∧Ob (SV.lst n h.length 3 (Rv.elemOf I3 h)=SV.lst n h.length 3 (Rv.elemOf I3 h))∧Ob (m=m)∧Ob (p.f=q.f)∧Ob (p.i=q.i)∧Ob (p.p=q.p)∧Ob (p.c=q.c)∧Ob (p.R.length=q.R.length)∧Ob (p.t=q.t)∧Ob (p.f=q.f)∧Ob (p.i=q.i)∧Ob (p.p=q.p)∧Ob (p.c=q.c)∧Ob (p.R.length=q.R.length)∧Ob (p.t=q.t)∧Ob (l=l)∧Ob (k=k)∧Ob (j=j)∧Ob (i=i)∧Ob (SV.lst n h.length 3 (Rv.elemOf I3 h)=SV.lst n h.length 3 (Rv.elemOf I3 h))∧Ob (m=m)∧EqR I3 p.R q.R∧LsA B o I4 g∧LsA B o I4 g∧PlA I4 q.M∧LsA B n I3 h∧LsA B n I3 h∧PlA I3 q.R∧True)∧∀(q:Est),q.Ok∧wnI (Value.int .i64 (0:Int)) < (4:Int)→∀(z_341 z_342 z_343 z_344 z_345 z_346 z_347 z_348 z_349 z_350 z_351 z_352 z_353 z_354 z_355 z_356 z_357 z_358 z_359 z_360 z_361 z_362 z_363 z_364 z_365 z_366 z_367 z_368 z_369 z_370 z_371 z_372 z_373 z_374 z_375 z_376 z_377 z_378 z_379 z_380 z_381 z_382 z_383 z_384 z_385 z_386 z_387 z_388 z_389 z_390 z_391 z_392 z_393 z_394 z_395 z_396 z_397 z_398 z_399 z_400 z_401 z_402 z_403 z_404 z_405 z_406 z_407 z_408 z_409 z_410 z_411 z_412 z_413 z_414 z_415 z_416 z_417 z_418 z_419 z_420 z_421 z_422 z_423 z_424 z_425 z_426 z_427 z_428 z_429 z_430 z_431 z_432 z_433 z_434 z_435 z_436 z_437 z_438 z_439 z_440 z_441 z_442 z_443 z_444 z_445 z_446 z_447 z_448 z_449 z_450 z_451 z_452 z_453 z_454 z_455 z_456 z_457 z_458 z_459 z_460 z_461 z_462 z_463 z_464 z_465 z_466 z_467 z_468 z_469 z_470 z_471 z_472 z_473 z_474 z_475 z_476 z_477 z_478 z_479 z_480 z_481 z_482 z_483 z_484 z_485 z_486 z_487 z_488 z_489 z_490 z_491 z_492 z_493 z_494 z_495 z_496 z_497 z_498 z_499 z_500 z_501 z_502 z_503 z_504 z_505 z_506 z_507 z_508 z_509 z_510:Value),LsA B n I3 h∧RwB B n h.length 3 I3 h fun W=>Ob (F_OwnCoop.named.pre ([Dat.z l,Dat.z k,Dat.z j,Dat.z i,Dat.l W,Dat.z m]++[]))∧∀(s:Int),s=l→∀(t:Int),t=k→∀(v:Int),v=j→∀(u:Int),u=i→∀(w:Int),w=m→PlA I3 W∧LsA B o I4 g∧RwB B o g.length 4 I4 g fun X=>Ob (F_OwnDeals.named.pre [Dat.l X])∧PlA I4 X∧RwE 3 I3 W fun a7=>Ob (F_DoU.named.pre ([Dat.z s,Dat.z t,Dat.z v,Dat.z u,Dat.l a7,Dat.z w]++([Dat.z c,Dat.z e,Dat.z f,Dat.z d]++[])))∧∀(ao:Int),ao=z0 (doE s t v u a7 w c e f d) s→∀(b8:Int),b8=z0 (doE s t v u a7 w c e f d) t→∀(bJ:Int),bJ=z0 (doE s t v u a7 w c e f d) v→∀(bY:Int),bY=z0 (doE s t v u a7 w c e f d) u→∀(bG:Int),bG=z0 (doE s t v u a7 w c e f d) (dT w c d)→∀(bd:Int),bd=doE s t v u a7 w c e f d→PlA I3 (doX s t v u a7 w c e f d)∧LsA B n I3 h∧RwB B n h.length 3 I3 h fun aa=>Ob (F_DoRU.named.pre ([Dat.z l,Dat.z k,Dat.z j,Dat.z i,Dat.l aa,Dat.z m]++([Dat.z c,Dat.z e,Dat.z f,Dat.z d]++[])))∧∀(c3:Int),c3=z0 (doE l k j i aa m c e f d) l→∀(bO:Int),bO=z0 (doE l k j i aa m c e f d) k→∀(bn:Int),bn=z0 (doE l k j i aa m c e f d) j→∀(ce:Int),ce=z0 (doE l k j i aa m c e f d) i→∀(bv:Int),bv=z0 (doE l k j i aa m c e f d) (dT m c d)→∀(cm:Int),cm=doE l k j i aa m c e f d→PlA I3 (doX l k j i aa m c e f d)∧RwE 3 I3 W fun a5=>RwE 4 I4 X fun a0=>Ob (F_RunU.named.pre ([Dat.z s,Dat.z t,Dat.z v,Dat.z u,Dat.l a5,Dat.z w]++[Dat.l a0]))∧∀(bL:Int),bL=z0 (rnErr s t v u a5 w a0) s→∀(cg:Int),cg=z0 (rnErr s t v u a5 w a0) t→∀(b3:Int),b3=z0 (rnErr s t v u a5 w a0) v→∀(bE:Int),bE=z0 (rnErr s t v u a5 w a0) u→∀(bj:Int),bj=z0 (rnErr s t v u a5 w a0) (rnT s t v u a5 w a0 a0.length)→∀(co:Int),co=rnErr s t v u a5 w a0→LsA B n I3 h∧LsA B o I4 g∧RwB B n h.length 3 I3 h fun S=>RwB B o g.length 4 I4 g fun R=>Ob (F_RunRU.named.pre ([Dat.z l,Dat.z k,Dat.z j,Dat.z i,Dat.l S,Dat.z m]++[Dat.l R]))∧∀(ch:Int),ch=z0 (rnErr l k j i S m R) l→∀(cc:Int),cc=z0 (rnErr l k j i S m R) k→∀(cl:Int),cl=z0 (rnErr l k j i S m R) j→∀(aX:Int),aX=z0 (rnErr l k j i S m R) i→∀(c0:Int),c0=z0 (rnErr l k j i S m R) (rnT l k j i S m R R.length)→∀(aY:Int),aY=rnErr l k j i S m R→PlA [.i64] (rnL l k j i S m R)∧PlA I3 (rnX l k j i S m R)∧(¬¬bd=cm→(¬¬co=aY→RwE 3 I3 (doX s t v u a7 w c e f d) fun aw=>RwE 3 I3 (doX l k j i aa m c e f d) fun b0=>Ob (aw.length≤4000000∧b0.length≤4000000)∧(¬¬(smC ao b8 bJ bY bG c3 bO bn ce bv∧samTo 3 aw b0 aw.length)→RwE 3 I3 (rnX s t v u a5 w a0) fun ak=>RwE 3 I3 (rnX l k j i S m R) fun bt=>Ob (ak.length≤4000000∧bt.length≤4000000)∧(¬¬(smC bL cg b3 bE bj ch cc cl aX c0∧samTo 3 ak bt ak.length)→RwE 1 [.i64] (rnL s t v u a5 w a0) fun aG=>RwE 1 [.i64] (rnL l k j i S m R) fun b4=>Ob (aG.length≤4000000∧b4.length≤4000000)∧(¬¬samTo 1 aG b4 aG.length→LsA B n I3 h∧RwE 3 I3 W fun al=>RwB B n h.length 3 I3 h fun aQ=>Ob (al.length≤4000000∧aQ.length≤4000000)∧(¬¬(smC s t v u w l k j i m∧samTo 3 al aQ al.length)→LsA B o I4 g∧RwE 4 I4 X fun an=>RwB B o g.length 4 I4 g fun c1=>Ob (an.length≤4000000∧c1.length≤4000000)∧(¬samTo 4 an c1 an.length→False)∧(¬¬samTo 4 an c1 an.length→(∃(a:Est),Ob (a.Ok∧wnI (Value.int .i64 (Int.ofNat 1)) < (4:Int))∧Ob (Value.int .i64 (Int.ofNat 1)=Value.int .i64 (Int.ofNat 1))∧Ob (SV.lst o g.length 4 (Rv.elemOf I4 g)=SV.lst o g.length 4 (Rv.elemOf I4 g))∧Ob (q.M.length=a.M.length)∧Ob (SV.lst o g.length 4 (Rv.elemOf I4 g)=SV.lst o g.length 4 (Rv.elemOf I4 g))∧Ob (c=c)∧Ob (e=e)∧Ob (f=f)∧Ob (d=d)∧Ob (c=c)∧Ob (e=e)∧Ob (f=f)∧Ob (d=d)∧EqR I4 q.M a.M∧Ob (c=c)∧Ob (e=e)∧Ob (f=f)∧Ob (d=d)∧Ob (q.k1=a.k1)∧Ob (q.m1=a.m1)∧Ob (q.o1=a.o1)∧Ob (q.q1=a.q1)∧Ob (c=c)∧Ob (e=e)∧Ob (f=f)∧Ob (d=d)∧Ob (c=c)∧Ob (e=e)∧Ob (f=f)∧Ob (d=d)∧Ob (l=l)∧Ob (k=k)∧Ob (j=j)∧Ob (i=i)∧Ob (SV.lst n h.length 3 (Rv.elemOf I3 h)=SV.lst n h.length 3 (Rv.elemOf I3 h))∧Ob (m=m)∧Ob (q.f=a.f)∧Ob (q.i=a.i)∧Ob (q.p=a.p)∧Ob (q.c=a.c)∧Ob (q.R.length=a.R.length)∧Ob (q.t=a.t)∧Ob (q.f=a.f)∧Ob (q.i=a.i)∧Ob (q.p=a.p)∧Ob (q.c=a.c)∧Ob (q.R.length=a.R.length)∧Ob (q.t=a.t)∧Ob (l=l)∧Ob (k=k)∧Ob (j=j)∧Ob (i=i)∧Ob (SV.lst n h.length 3 (Rv.elemOf I3 h)=SV.lst n h.length 3 (Rv.elemOf I3 h))∧Ob (m=m)∧EqR I3 q.R a.R∧LsA B o I4 g∧LsA B o I4 g∧PlA I4 a.M∧LsA B n I3 h∧LsA B n I3 h∧PlA I3 a.R∧True)∧∀(a:Est),a.Ok∧wnI (Value.int .i64 (Int.ofNat 1)) < (4:Int)→∀(_ _ _ _ _ _ _ _ _ _ _ _ _ _ _ _ _ _ _ _ _ _ _ _ _ _ _ _ _ _ _ _ _ _ _ _ _ _ _ _ _ _ _ _ _ _ _ _ _ _ _ _ _ _ _ _ _ _ _ _ _ _ _ _ _ _ _ _ _ _ _ _ _ _ _ _ _ _ _ _ _ _ _ _ _ _ _ _ _ _ _ _ _ _ _ _ _ _ _ _ _ _ _ _ _ _ _ _ _ _ _ _ _ _ _ _ _ _ _ _ _ _ _ _ _ _ _ _ _ _ _ _ _ _ _ _ _ _ _ _ _ _ _ _ _ _ _ _ _ _ _ _ _ _ _ _ _ _ _ _ _ _ _ _ _ _ _ _ _ _:Value),RwE 3 I3 a.R fun av=>Ob (F_OwnCoop.named.pre ([Dat.z a.f,Dat.z a.i,Dat.z a.p,Dat.z a.c,Dat.l av,Dat.z a.t]++[]))∧∀(D:Int),D=a.f→∀(J:Int),J=a.i→∀(G:Int),G=a.p→∀(y:Int),y=a.c→∀(L:Int),L=a.t→PlA I3 av∧RwE 4 I4 a.M fun aL=>Ob (F_OwnDeals.named.pre [Dat.l aL])∧PlA I4 aL∧RwE 3 I3 av fun ad=>Ob (F_DoU.named.pre ([Dat.z D,Dat.z J,Dat.z G,Dat.z y,Dat.l ad,Dat.z L]++([Dat.z a.k1,Dat.z a.m1,Dat.z a.o1,Dat.z a.q1]++[])))∧∀(bb:Int),bb=z0 (doE D J G y ad L a.k1 a.m1 a.o1 a.q1) D→∀(aW:Int),aW=z0 (doE D J G y ad L a.k1 a.m1 a.o1 a.q1) J→∀(c2:Int),c2=z0 (doE D J G y ad L a.k1 a.m1 a.o1 a.q1) G→∀(b2:Int),b2=z0 (doE D J G y ad L a.k1 a.m1 a.o1 a.q1) y→∀(b9:Int),b9=z0 (doE D J G y ad L a.k1 a.m1 a.o1 a.q1) (dT L a.k1 a.q1)→∀(bk:Int),bk=doE D J G y ad L a.k1 a.m1 a.o1 a.q1→PlA I3 (doX D J G y ad L a.k1 a.m1 a.o1 a.q1)∧RwE 3 I3 a.R fun ab=>Ob (F_DoRU.named.pre ([Dat.z a.f,Dat.z a.i,Dat.z a.p,Dat.z a.c,Dat.l ab,Dat.z a.t]++([Dat.z a.k1,Dat.z a.m1,Dat.z a.o1,Dat.z a.q1]++[])))∧∀(bM:Int),bM=z0 (doE a.f a.i a.p a.c ab a.t a.k1 a.m1 a.o1 a.q1) a.f→∀(ba:Int),ba=z0 (doE a.f a.i a.p a.c ab a.t a.k1 a.m1 a.o1 a.q1) a.i→∀(bl:Int),bl=z0 (doE a.f a.i a.p a.c ab a.t a.k1 a.m1 a.o1 a.q1) a.p→∀(b6:Int),b6=z0 (doE a.f a.i a.p a.c ab a.t a.k1 a.m1 a.o1 a.q1) a.c→∀(aZ:Int),aZ=z0 (doE a.f a.i a.p a.c ab a.t a.k1 a.m1 a.o1 a.q1) (dT a.t a.k1 a.q1)→∀(ca:Int),ca=doE a.f a.i a.p a.c ab a.t a.k1 a.m1 a.o1 a.q1→PlA I3 (doX a.f a.i a.p a.c ab a.t a.k1 a.m1 a.o1 a.q1)∧RwE 3 I3 av fun a4=>RwE 4 I4 aL fun a1=>Ob (F_RunU.named.pre ([Dat.z D,Dat.z J,Dat.z G,Dat.z y,Dat.l a4,Dat.z L]++[Dat.l a1]))∧∀(bP:Int),bP=z0 (rnErr D J G y a4 L a1) D→∀(cj:Int),cj=z0 (rnErr D J G y a4 L a1) J→∀(bm:Int),bm=z0 (rnErr D J G y a4 L a1) G→∀(cs:Int),cs=z0 (rnErr D J G y a4 L a1) y→∀(bx:Int),bx=z0 (rnErr D J G y a4 L a1) (rnT D J G y a4 L a1 a1.length)→∀(cp:Int),cp=rnErr D J G y a4 L a1→RwE 3 I3 a.R fun T=>RwE 4 I4 a.M fun Q=>Ob (F_RunRU.named.pre ([Dat.z a.f,Dat.z a.i,Dat.z a.p,Dat.z a.c,Dat.l T,Dat.z a.t]++[Dat.l Q]))∧∀(bp:Int),bp=z0 (rnErr a.f a.i a.p a.c T a.t Q) a.f→∀(c6:Int),c6=z0 (rnErr a.f a.i a.p a.c T a.t Q) a.i→∀(bB:Int),bB=z0 (rnErr a.f a.i a.p a.c T a.t Q) a.p→∀(be:Int),be=z0 (rnErr a.f a.i a.p a.c T a.t Q) a.c→∀(bZ:Int),bZ=z0 (rnErr a.f a.i a.p a.c T a.t Q) (rnT a.f a.i a.p a.c T a.t Q Q.length)→∀(ck:Int),ck=rnErr a.f a.i a.p a.c T a.t Q→PlA [.i64] (rnL a.f a.i a.p a.c T a.t Q)∧PlA I3 (rnX a.f a.i a.p a.c T a.t Q)∧(¬¬bk=ca→(¬¬cp=ck→RwE 3 I3 (doX D J G y ad L a.k1 a.m1 a.o1 a.q1) fun aI=>RwE 3 I3 (doX a.f a.i a.p a.c ab a.t a.k1 a.m1 a.o1 a.q1) fun bi=>Ob (aI.length≤4000000∧bi.length≤4000000)∧(¬¬(smC bb aW c2 b2 b9 bM ba bl b6 aZ∧samTo 3 aI bi aI.length)→RwE 3 I3 (rnX D J G y a4 L a1) fun au=>RwE 3 I3 (rnX a.f a.i a.p a.c T a.t Q) fun cA=>Ob (au.length≤4000000∧cA.length≤4000000)∧(¬¬(smC bP cj bm cs bx bp c6 bB be bZ∧samTo 3 au cA au.length)→RwE 1 [.i64] (rnL D J G y a4 L a1) fun aH=>RwE 1 [.i64] (rnL a.f a.i a.p a.c T a.t Q) fun aO=>Ob (aH.length≤4000000∧aO.length≤4000000)∧(¬¬samTo 1 aH aO aH.length→RwE 3 I3 av fun ax=>RwE 3 I3 a.R fun bD=>Ob (ax.length≤4000000∧bD.length≤4000000)∧(¬¬(smC D J G y L a.f a.i a.p a.c a.t∧samTo 3 ax bD ax.length)→RwE 4 I4 aL fun aK=>RwE 4 I4 a.M fun aP=>Ob (aK.length≤4000000∧aP.length≤4000000)∧(¬samTo 4 aK aP aK.length→False)∧(¬¬samTo 4 aK aP aK.length→(∃(b:Est),Ob (b.Ok∧wnI (Value.int .i64 (Int.ofNat 2)) < (4:Int))∧Ob (Value.int .i64 (Int.ofNat 2)=Value.int .i64 (Int.ofNat 2))∧Ob (SV.lst o g.length 4 (Rv.elemOf I4 g)=SV.lst o g.length 4 (Rv.elemOf I4 g))∧Ob (a.M.length=b.M.length)∧Ob (SV.lst o g.length 4 (Rv.elemOf I4 g)=SV.lst o g.length 4 (Rv.elemOf I4 g))∧Ob (c=c)∧Ob (e=e)∧Ob (f=f)∧Ob (d=d)∧Ob (c=c)∧Ob (e=e)∧Ob (f=f)∧Ob (d=d)∧EqR I4 a.M b.M∧Ob (c=c)∧Ob (e=e)∧Ob (f=f)∧Ob (d=d)∧Ob (a.k1=b.k1)∧Ob (a.m1=b.m1)∧Ob (a.o1=b.o1)∧Ob (a.q1=b.q1)∧Ob (c=c)∧Ob (e=e)∧Ob (f=f)∧Ob (d=d)∧Ob (c=c)∧Ob (e=e)∧Ob (f=f)∧Ob (d=d)∧Ob (l=l)∧Ob (k=k)∧Ob (j=j)∧Ob (i=i)∧Ob (SV.lst n h.length 3 (Rv.elemOf I3 h)=SV.lst n h.length 3 (Rv.elemOf I3 h))∧Ob (m=m)∧Ob (a.f=b.f)∧Ob (a.i=b.i)∧Ob (a.p=b.p)∧Ob (a.c=b.c)∧Ob (a.R.length=b.R.length)∧Ob (a.t=b.t)∧Ob (a.f=b.f)∧Ob (a.i=b.i)∧Ob (a.p=b.p)∧Ob (a.c=b.c)∧Ob (a.R.length=b.R.length)∧Ob (a.t=b.t)∧Ob (l=l)∧Ob (k=k)∧Ob (j=j)∧Ob (i=i)∧Ob (SV.lst n h.length 3 (Rv.elemOf I3 h)=SV.lst n h.length 3 (Rv.elemOf I3 h))∧Ob (m=m)∧EqR I3 a.R b.R∧LsA B o I4 g∧LsA B o I4 g∧PlA I4 b.M∧LsA B n I3 h∧LsA B n I3 h∧PlA I3 b.R∧True)∧∀(b:Est),b.Ok∧wnI (Value.int .i64 (Int.ofNat 2)) < (4:Int)→∀(_ _ _ _ _ _ _ _ _ _ _ _ _ _ _ _ _ _ _ _ _ _ _ _ _ _ _ _ _ _ _ _ _ _ _ _ _ _ _ _ _ _ _ _ _ _ _ _ _ _ _ _ _ _ _ _ _ _ _ _ _ _ _ _ _ _ _ _ _ _ _ _ _ _ _ _ _ _ _ _ _ _ _ _ _ _ _ _ _ _ _ _ _ _ _ _ _ _ _ _ _ _ _ _ _ _ _ _ _ _ _ _ _ _ _ _ _ _ _ _ _ _ _ _ _ _ _ _ _ _ _ _ _ _ _ _ _ _ _ _ _ _ _ _ _ _ _ _ _ _ _ _ _ _ _ _ _ _ _ _ _ _ _ _ _ _ _ _ _ _:Value),RwE 3 I3 b.R fun aF=>Ob (F_OwnCoop.named.pre ([Dat.z b.f,Dat.z b.i,Dat.z b.p,Dat.z b.c,Dat.l aF,Dat.z b.t]++[]))∧∀(H:Int),H=b.f→∀(F:Int),F=b.i→∀(E:Int),E=b.p→∀(C:Int),C=b.c→∀(M:Int),M=b.t→PlA I3 aF∧LsA B o I4 g∧RwB B o g.length 4 I4 g fun aM=>Ob (F_OwnDeals.named.pre [Dat.l aM])∧PlA I4 aM∧RwE 3 I3 aF fun ae=>Ob (F_DoU.named.pre ([Dat.z H,Dat.z F,Dat.z E,Dat.z C,Dat.l ae,Dat.z M]++([Dat.z c,Dat.z e,Dat.z f,Dat.z d]++[])))∧∀(b1:Int),b1=z0 (doE H F E C ae M c e f d) H→∀(cw:Int),cw=z0 (doE H F E C ae M c e f d) F→∀(cx:Int),cx=z0 (doE H F E C ae M c e f d) E→∀(aR:Int),aR=z0 (doE H F E C ae M c e f d) C→∀(b5:Int),b5=z0 (doE H F E C ae M c e f d) (dT M c d)→∀(bI:Int),bI=doE H F E C ae M c e f d→PlA I3 (doX H F E C ae M c e f d)∧RwE 3 I3 b.R fun a8=>Ob (F_DoRU.named.pre ([Dat.z b.f,Dat.z b.i,Dat.z b.p,Dat.z b.c,Dat.l a8,Dat.z b.t]++([Dat.z c,Dat.z e,Dat.z f,Dat.z d]++[])))∧∀(cu:Int),cu=z0 (doE b.f b.i b.p b.c a8 b.t c e f d) b.f→∀(ct:Int),ct=z0 (doE b.f b.i b.p b.c a8 b.t c e f d) b.i→∀(cd:Int),cd=z0 (doE b.f b.i b.p b.c a8 b.t c e f d) b.p→∀(aS:Int),aS=z0 (doE b.f b.i b.p b.c a8 b.t c e f d) b.c→∀(ci:Int),ci=z0 (doE b.f b.i b.p b.c a8 b.t c e f d) (dT b.t c d)→∀(c8:Int),c8=doE b.f b.i b.p b.c a8 b.t c e f d→PlA I3 (doX b.f b.i b.p b.c a8 b.t c e f d)∧RwE 3 I3 aF fun a3=>RwE 4 I4 aM fun Y=>Ob (F_RunU.named.pre ([Dat.z H,Dat.z F,Dat.z E,Dat.z C,Dat.l a3,Dat.z M]++[Dat.l Y]))∧∀(bX:Int),bX=z0 (rnErr H F E C a3 M Y) H→∀(cB:Int),cB=z0 (rnErr H F E C a3 M Y) F→∀(bA:Int),bA=z0 (rnErr H F E C a3 M Y) E→∀(bU:Int),bU=z0 (rnErr H F E C a3 M Y) C→∀(bw:Int),bw=z0 (rnErr H F E C a3 M Y) (rnT H F E C a3 M Y Y.length)→∀(bu:Int),bu=rnErr H F E C a3 M Y→LsA B o I4 g∧RwE 3 I3 b.R fun U=>RwB B o g.length 4 I4 g fun P=>Ob (F_RunRU.named.pre ([Dat.z b.f,Dat.z b.i,Dat.z b.p,Dat.z b.c,Dat.l U,Dat.z b.t]++[Dat.l P]))∧∀(bf:Int),bf=z0 (rnErr b.f b.i b.p b.c U b.t P) b.f→∀(c7:Int),c7=z0 (rnErr b.f b.i b.p b.c U b.t P) b.i→∀(bR:Int),bR=z0 (rnErr b.f b.i b.p b.c U b.t P) b.p→∀(cb:Int),cb=z0 (rnErr b.f b.i b.p b.c U b.t P) b.c→∀(cr:Int),cr=z0 (rnErr b.f b.i b.p b.c U b.t P) (rnT b.f b.i b.p b.c U b.t P P.length)→∀(br:Int),br=rnErr b.f b.i b.p b.c U b.t P→PlA [.i64] (rnL b.f b.i b.p b.c U b.t P)∧PlA I3 (rnX b.f b.i b.p b.c U b.t P)∧(¬¬bI=c8→(¬¬bu=br→RwE 3 I3 (doX H F E C ae M c e f d) fun ay=>RwE 3 I3 (doX b.f b.i b.p b.c a8 b.t c e f d) fun c9=>Ob (ay.length≤4000000∧c9.length≤4000000)∧(¬¬(smC b1 cw cx aR b5 cu ct cd aS ci∧samTo 3 ay c9 ay.length)→RwE 3 I3 (rnX H F E C a3 M Y) fun ap=>RwE 3 I3 (rnX b.f b.i b.p b.c U b.t P) fun aT=>Ob (ap.length≤4000000∧aT.length≤4000000)∧(¬¬(smC bX cB bA bU bw bf c7 bR cb cr∧samTo 3 ap aT ap.length)→RwE 1 [.i64] (rnL H F E C a3 M Y) fun am=>RwE 1 [.i64] (rnL b.f b.i b.p b.c U b.t P) fun bs=>Ob (am.length≤4000000∧bs.length≤4000000)∧(¬¬samTo 1 am bs am.length→RwE 3 I3 aF fun aC=>RwE 3 I3 b.R fun bh=>Ob (aC.length≤4000000∧bh.length≤4000000)∧(¬¬(smC H F E C M b.f b.i b.p b.c b.t∧samTo 3 aC bh aC.length)→LsA B o I4 g∧RwE 4 I4 aM fun az=>RwB B o g.length 4 I4 g fun bF=>Ob (az.length≤4000000∧bF.length≤4000000)∧(¬samTo 4 az bF az.length→False)∧(¬¬samTo 4 az bF az.length→(∃(x:Est),Ob (x.Ok∧wnI (Value.int .i64 (Int.ofNat 3)) < (4:Int))∧Ob (Value.int .i64 (Int.ofNat 3)=Value.int .i64 (Int.ofNat 3))∧Ob (SV.lst o g.length 4 (Rv.elemOf I4 g)=SV.lst o g.length 4 (Rv.elemOf I4 g))∧Ob (b.M.length=x.M.length)∧Ob (SV.lst o g.length 4 (Rv.elemOf I4 g)=SV.lst o g.length 4 (Rv.elemOf I4 g))∧Ob (c=c)∧Ob (e=e)∧Ob (f=f)∧Ob (d=d)∧Ob (c=c)∧Ob (e=e)∧Ob (f=f)∧Ob (d=d)∧EqR I4 b.M x.M∧Ob (c=c)∧Ob (e=e)∧Ob (f=f)∧Ob (d=d)∧Ob (b.k1=x.k1)∧Ob (b.m1=x.m1)∧Ob (b.o1=x.o1)∧Ob (b.q1=x.q1)∧Ob (c=c)∧Ob (e=e)∧Ob (f=f)∧Ob (d=d)∧Ob (c=c)∧Ob (e=e)∧Ob (f=f)∧Ob (d=d)∧Ob (l=l)∧Ob (k=k)∧Ob (j=j)∧Ob (i=i)∧Ob (SV.lst n h.length 3 (Rv.elemOf I3 h)=SV.lst n h.length 3 (Rv.elemOf I3 h))∧Ob (m=m)∧Ob (b.f=x.f)∧Ob (b.i=x.i)∧Ob (b.p=x.p)∧Ob (b.c=x.c)∧Ob (b.R.length=x.R.length)∧Ob (b.t=x.t)∧Ob (b.f=x.f)∧Ob (b.i=x.i)∧Ob (b.p=x.p)∧Ob (b.c=x.c)∧Ob (b.R.length=x.R.length)∧Ob (b.t=x.t)∧Ob (l=l)∧Ob (k=k)∧Ob (j=j)∧Ob (i=i)∧Ob (SV.lst n h.length 3 (Rv.elemOf I3 h)=SV.lst n h.length 3 (Rv.elemOf I3 h))∧Ob (m=m)∧EqR I3 b.R x.R∧LsA B o I4 g∧LsA B o I4 g∧PlA I4 x.M∧LsA B n I3 h∧LsA B n I3 h∧PlA I3 x.R∧True)∧∀(x:Est),x.Ok∧wnI (Value.int .i64 (Int.ofNat 3)) < (4:Int)→∀(_ _ _ _ _ _ _ _ _ _ _ _ _ _ _ _ _ _ _ _ _ _ _ _ _ _ _ _ _ _ _ _ _ _ _ _ _ _ _ _ _ _ _ _ _ _ _ _ _ _ _ _ _ _ _ _ _ _ _ _ _ _ _ _ _ _ _ _ _ _ _ _ _ _ _ _ _ _ _ _ _ _ _ _ _ _ _ _ _ _ _ _ _ _ _ _ _ _ _ _ _ _ _ _ _ _ _ _ _ _ _ _ _ _ _ _ _ _ _ _ _ _ _ _ _ _ _ _ _ _ _ _ _ _ _ _ _ _ _ _ _ _ _ _ _ _ _ _ _ _ _ _ _ _ _ _ _ _ _ _ _ _ _ _ _ _ _ _ _ _:Value),LsA B n I3 h∧RwB B n h.length 3 I3 h fun ag=>Ob (F_OwnCoop.named.pre ([Dat.z l,Dat.z k,Dat.z j,Dat.z i,Dat.l ag,Dat.z m]++[]))∧∀(A:Int),A=l→∀(z:Int),z=k→∀(K:Int),K=j→∀(I:Int),I=i→∀(N:Int),N=m→PlA I3 ag∧Ob (F_OwnDeals.named.pre [Dat.l [[c,e,f,d],[c,e,f,d]]])∧PlA I4 [[c,e,f,d],[c,e,f,d]]∧RwE 3 I3 ag fun ac=>Ob (F_DoU.named.pre ([Dat.z A,Dat.z z,Dat.z K,Dat.z I,Dat.l ac,Dat.z N]++([Dat.z c,Dat.z e,Dat.z f,Dat.z d]++[])))∧∀(bT:Int),bT=z0 (doE A z K I ac N c e f d) A→∀(bg:Int),bg=z0 (doE A z K I ac N c e f d) z→∀(bq:Int),bq=z0 (doE A z K I ac N c e f d) K→∀(cC:Int),cC=z0 (doE A z K I ac N c e f d) I→∀(cv:Int),cv=z0 (doE A z K I ac N c e f d) (dT N c d)→∀(cq:Int),cq=doE A z K I ac N c e f d→PlA I3 (doX A z K I ac N c e f d)∧LsA B n I3 h∧RwB B n h.length 3 I3 h fun a6=>Ob (F_DoRU.named.pre ([Dat.z l,Dat.z k,Dat.z j,Dat.z i,Dat.l a6,Dat.z m]++([Dat.z c,Dat.z e,Dat.z f,Dat.z d]++[])))∧∀(cy:Int),cy=z0 (doE l k j i a6 m c e f d) l→∀(b7:Int),b7=z0 (doE l k j i a6 m c e f d) k→∀(bz:Int),bz=z0 (doE l k j i a6 m c e f d) j→∀(bV:Int),bV=z0 (doE l k j i a6 m c e f d) i→∀(bC:Int),bC=z0 (doE l k j i a6 m c e f d) (dT m c d)→∀(bW:Int),bW=doE l k j i a6 m c e f d→PlA I3 (doX l k j i a6 m c e f d)∧RwE 3 I3 ag fun a2=>RwE 4 I4 [[c,e,f,d],[c,e,f,d]] fun Z=>Ob (F_RunU.named.pre ([Dat.z A,Dat.z z,Dat.z K,Dat.z I,Dat.l a2,Dat.z N]++[Dat.l Z]))∧∀(bH:Int),bH=z0 (rnErr A z K I a2 N Z) A→∀(c5:Int),c5=z0 (rnErr A z K I a2 N Z) z→∀(bc:Int),bc=z0 (rnErr A z K I a2 N Z) K→∀(bN:Int),bN=z0 (rnErr A z K I a2 N Z) I→∀(bS:Int),bS=z0 (rnErr A z K I a2 N Z) (rnT A z K I a2 N Z Z.length)→∀(bK:Int),bK=rnErr A z K I a2 N Z→LsA B n I3 h∧RwB B n h.length 3 I3 h fun V=>Ob (F_RunRU.named.pre ([Dat.z l,Dat.z k,Dat.z j,Dat.z i,Dat.l V,Dat.z m]++[Dat.l [[c,e,f,d],[c,e,f,d]]]))∧∀(aN:Int),aN=z0 (rnErr l k j i V m [[c,e,f,d],[c,e,f,d]]) l→∀(bo:Int),bo=z0 (rnErr l k j i V m [[c,e,f,d],[c,e,f,d]]) k→∀(cf:Int),cf=z0 (rnErr l k j i V m [[c,e,f,d],[c,e,f,d]]) j→∀(cz:Int),cz=z0 (rnErr l k j i V m [[c,e,f,d],[c,e,f,d]]) i→∀(cD:Int),cD=z0 (rnErr l k j i V m [[c,e,f,d],[c,e,f,d]]) (rnT l k j i V m [[c,e,f,d],[c,e,f,d]] [[c,e,f,d],[c,e,f,d]].length)→∀(cn:Int),cn=rnErr l k j i V m [[c,e,f,d],[c,e,f,d]]→PlA [.i64] (rnL l k j i V m [[c,e,f,d],[c,e,f,d]])∧PlA I3 (rnX l k j i V m [[c,e,f,d],[c,e,f,d]])∧(¬¬cq=bW→(¬¬bK=cn→RwE 3 I3 (doX A z K I ac N c e f d) fun ai=>RwE 3 I3 (doX l k j i a6 m c e f d) fun c4=>Ob (ai.length≤4000000∧c4.length≤4000000)∧(¬¬(smC bT bg bq cC cv cy b7 bz bV bC∧samTo 3 ai c4 ai.length)→RwE 3 I3 (rnX A z K I a2 N Z) fun aJ=>RwE 3 I3 (rnX l k j i V m [[c,e,f,d],[c,e,f,d]]) fun aU=>Ob (aJ.length≤4000000∧aU.length≤4000000)∧(¬¬(smC bH c5 bc bN bS aN bo cf cz cD∧samTo 3 aJ aU aJ.length)→RwE 1 [.i64] (rnL A z K I a2 N Z) fun ah=>RwE 1 [.i64] (rnL l k j i V m [[c,e,f,d],[c,e,f,d]]) fun aV=>Ob (ah.length≤4000000∧aV.length≤4000000)∧(¬¬samTo 1 ah aV ah.length→LsA B n I3 h∧RwE 3 I3 ag fun aA=>RwB B n h.length 3 I3 h fun bQ=>Ob (aA.length≤4000000∧bQ.length≤4000000)∧(¬¬(smC A z K I N l k j i m∧samTo 3 aA bQ aA.length)→RwE 4 I4 [[c,e,f,d],[c,e,f,d]] fun aD=>Ob (aD.length≤4000000∧[[c,e,f,d],[c,e,f,d]].length≤4000000)∧(¬samTo 4 aD [[c,e,f,d],[c,e,f,d]] aD.length→False)∧(¬¬samTo 4 aD [[c,e,f,d],[c,e,f,d]] aD.length→(Ob (hasTabs [] B)∧True)∧∀(cF:Est),cF.Ok∧wnI (Value.int .i64 (Int.ofNat 4)) < (4:Int)→∀(_ _ _ _ _ _ _ _ _ _ _ _ _ _ _ _ _ _ _ _ _ _ _ _ _ _ _ _ _ _ _ _ _ _ _ _ _ _ _ _ _ _ _ _ _ _ _ _ _ _ _ _ _ _ _ _ _ _ _ _ _ _ _ _ _ _ _ _ _ _ _ _ _ _ _ _ _ _ _ _ _ _ _ _ _ _ _ _ _ _ _ _ _ _ _ _ _ _ _ _ _ _ _ _ _ _ _ _ _ _ _ _ _ _ _ _ _ _ _ _ _ _ _ _ _ _ _ _ _ _ _ _ _ _ _ _ _ _ _ _ _ _ _ _ _ _ _ _ _ _ _ _ _ _ _ _ _ _ _ _ _ _ _ _ _ _ _ _ _ _:Value),False))∧(¬(smC A z K I N l k j i m∧samTo 3 aA bQ aA.length)→False))∧(¬samTo 1 ah aV ah.length→False))∧(¬(smC bH c5 bc bN bS aN bo cf cz cD∧samTo 3 aJ aU aJ.length)→False))∧(¬(smC bT bg bq cC cv cy b7 bz bV bC∧samTo 3 ai c4 ai.length)→False))∧(¬bK=cn→False))∧(¬cq=bW→False)))∧(¬(smC H F E C M b.f b.i b.p b.c b.t∧samTo 3 aC bh aC.length)→False))∧(¬samTo 1 am bs am.length→False))∧(¬(smC bX cB bA bU bw bf c7 bR cb cr∧samTo 3 ap aT ap.length)→False))∧(¬(smC b1 cw cx aR b5 cu ct cd aS ci∧samTo 3 ay c9 ay.length)→False))∧(¬bu=br→False))∧(¬bI=c8→False)))∧(¬(smC D J G y L a.f a.i a.p a.c a.t∧samTo 3 ax bD ax.length)→False))∧(¬samTo 1 aH aO aH.length→False))∧(¬(smC bP cj bm cs bx bp c6 bB be bZ∧samTo 3 au cA au.length)→False))∧(¬(smC bb aW c2 b2 b9 bM ba bl b6 aZ∧samTo 3 aI bi aI.length)→False))∧(¬cp=ck→False))∧(¬bk=ca→False)))∧(¬(smC s t v u w l k j i m∧samTo 3 al aQ al.length)→False))∧(¬samTo 1 aG b4 aG.length→False))∧(¬(smC bL cg b3 bE bj ch cc cl aX c0∧samTo 3 ak bt ak.length)→False))∧(¬(smC ao b8 bJ bY bG c3 bO bn ce bv∧samTo 3 aw b0 aw.length)→False))∧(¬co=aY→False))∧(¬bd=cm→False)
set_option linter.unusedSimpArgs false in
set_option maxRecDepth 4000 in
set_option maxHeartbeats 4000000 in
theorem v_law:V_law:=by
 unfold V_law EqA EqR I3 I4 LsA PlA RwA RwB RwE
 intro B htab fee itr pri cre x A hx hox hrx till dk dm dO dq y D hy hoy hry xz N hz hoz hrz hN
 obtain⟨hD,hN⟩:D.length≤9223372036854775807∧N.length≤9223372036854775807:=hN
 have awake:Ob (hasTabs [] B)∧True:=⟨⟨htab⟩,trivial⟩
 refine⟨⟨hy⟩,⟨⟨hx⟩,fun h1=>?_,fun _=>awake⟩,?_⟩
 ·refine⟨fun h2=>⟨fun h3=>⟨fun _=>awake,fun h4=>?_⟩,fun _=>awake⟩,fun h2=>⟨fun _=>awake,fun h4=>?_⟩⟩
  all_goals
   refine⟨0,⟨⟨by omega,by omega⟩⟩,?_⟩
   repeat' (first | exact⟨rfl⟩ | exact⟨hx⟩ | exact⟨hy⟩ | exact⟨hz⟩ | exact trivial | with_reducible apply And.intro)
 clear hD
 intro _ hAD
 obtain⟨hA,hD⟩:=hAD
 intros
 have cA:A.length≤4000000:=by omega
 have cD:D.length≤4000000:=by omega
 refine⟨N,⟨⟨hz,rfl,hrz,fun _ _=>rfl⟩⟩,⟨hN⟩,⟨by show(1:Int)≤5∧(5:Int)≤1000; omega⟩,?_⟩
 obtain⟨a,ha⟩:∃a,tideK N N.length=a:=⟨_,rfl⟩
 rw [ha]
 clear ha
 intro q hq f hf i hi p hp c hc t ht
 clear hq hf hi hp hc ht
 have hn:=coN_in (a:=a) (most:=5) (by omega)
 have hn:1≤(coN a 5).toNat∧(coN a 5).toNat≤5:=by omega
 obtain⟨n,en⟩:∃n,(coN a 5).toNat=n:=⟨_,rfl⟩
 rw [en]at hn ⊢
 clear en
 have lR:(coR a 5 n).length=n:=co_len a 5 n
 have rR:=co_row a 5 n
 obtain⟨R,eR⟩:∃R,coR a 5 n=R:=⟨_,rfl⟩
 rw [eR]at lR rR ⊢
 clear eR
 subst lR
 refine⟨?_,?_⟩
 ·refine⟨⟨hx⟩,⟨hx⟩,⟨hx⟩,⟨hx⟩,R,⟨⟨rfl,rfl,rR,fun _ _=>rfl⟩⟩,⟨by show(1≤R.length∧R.length≤1000)∧(0:Int)≤0∧(0:Int)≤8; omega⟩,?_⟩
  intro v6 h6 v7 h7 v8 h8 v9 h9 v10 h10
  clear h6 h7 h8 h9 h10
  refine⟨⟨hy⟩,R,⟨⟨rfl,rfl,rR,fun _ _=>rfl⟩⟩,⟨by show(1≤R.length∧R.length≤1000)∧(0:Int)≤20∧(20:Int)≤1000; omega⟩,?_⟩
  intro v11 h11
  clear h11
  have hb:=belowV_in v6 (20+1)
  obtain⟨m,hm⟩:∃m,(belowV v6 (20+1)).toNat=m:=⟨_,rfl⟩
  have hm20:m≤20:=by omega
  rw [hm]
  clear hb hm
  have dl:=ds_len (R.length:Int) (belowA v6 (20+1)) m
  have dr:=ds_row (R.length:Int) (belowA v6 (20+1)) m
  obtain⟨M,hM⟩:∃M,itR (dsQ (R.length:Int)) (dsR (R.length:Int)) (belowA v6 (20+1)) m=M:=⟨_,rfl⟩
  rw [hM]at dl dr ⊢
  clear hM
  subst dl
  refine⟨⟨plain_elemOf _ _ _⟩,⟨hy⟩,⟨hoy⟩,⟨hoy⟩,⟨hy⟩,⟨hy⟩,⟨f,i,p,c,t,R,v7,v8,v9,v10,M⟩,⟨⟨by show R.length≤100; omega,rR,by show M.length≤100; omega,dr⟩⟩,?_⟩
  repeat' (first | exact⟨rfl⟩ | exact⟨hx⟩ | exact⟨hy⟩ | exact trivial | exact⟨plain_elemOf _ _ _⟩ | exact⟨rfl,fun _ _=>rfl⟩ | with_reducible apply And.intro)
 clear hn rR
 intro v hv
 intros
 refine⟨⟨v,⟨hv,by decide⟩,?_⟩,?_⟩
 ·skip
  repeat' (first | exact⟨rfl⟩ | exact⟨hx⟩ | exact⟨hy⟩ | exact trivial | exact⟨plain_elemOf _ _ _⟩ | exact⟨rfl,fun _ _=>rfl⟩ | with_reducible apply And.intro)
 clear hv
 intro v hv
 have hv:=hv.1
 intros
 have cR:v.R.length≤4000000:=by have:=hv.r; omega
 have cM:v.M.length≤4000000:=by have:=hv.m; omega
 repeat (first
  | exact⟨⟨htab⟩,trivial⟩
  | (intro w0 hw0; have hw0:=hw0.symm; subst hw0)
  | refine⟨⟨hx⟩,?_⟩
  | refine⟨⟨hy⟩,?_⟩
  | refine⟨⟨plain_elemOf _ _ _⟩,?_⟩
  | refine⟨⟨rfl⟩,?_⟩
  | refine⟨_,⟨⟨hx,rfl,hrx,fun _ _=>rfl⟩⟩,?_⟩
  | refine⟨_,⟨⟨hy,rfl,hry,fun _ _=>rfl⟩⟩,?_⟩
  | refine⟨_,⟨⟨rfl,rfl,hrx,fun _ _=>rfl⟩⟩,?_⟩
  | refine⟨_,⟨⟨rfl,rfl,hry,fun _ _=>rfl⟩⟩,?_⟩
  | refine⟨_,⟨⟨rfl,rfl,doX_row _ _ _ _ _ _ _ _ _ _,fun _ _=>rfl⟩⟩,?_⟩
  | refine⟨_,⟨⟨rfl,rfl,rnX_row hrx,fun _ _=>rfl⟩⟩,?_⟩
  | refine⟨_,⟨⟨rfl,rfl,rnL_row,fun _ _=>rfl⟩⟩,?_⟩
  | refine⟨⟨cA⟩,?_⟩
  | refine⟨⟨cD⟩,?_⟩
  | refine⟨⟨cA,cD⟩,?_⟩
  | refine⟨⟨cA,cA⟩,?_⟩
  | refine⟨⟨cD,cD⟩,?_⟩
  | refine⟨⟨Nat.le_trans doX_le cA,Nat.le_trans doX_le cA⟩,?_⟩
  | refine⟨⟨Nat.le_trans rnX_le cA,Nat.le_trans rnX_le cA⟩,?_⟩
  | refine⟨⟨Nat.le_trans rnL_le cD,Nat.le_trans rnL_le cD⟩,?_⟩
  | refine⟨fun h=>(h (sam_self _ _ _)).elim,fun _=>?_⟩
  | refine⟨fun _=>?_,fun h=>(h rfl).elim⟩
  | refine⟨fun _=>?_,fun h=>(h (sam_self _ _ _)).elim⟩
  | refine⟨fun _=>?_,fun h=>(h ⟨⟨⟨rfl,rfl,rfl,rfl⟩,rfl⟩,sam_self _ _ _⟩).elim⟩)
 refine⟨⟨v,⟨hv,by decide⟩,?_⟩,?_⟩
 ·skip
  repeat' (first | exact⟨rfl⟩ | exact⟨hx⟩ | exact⟨hy⟩ | exact trivial | exact⟨plain_elemOf _ _ _⟩ | exact⟨rfl,fun _ _=>rfl⟩ | with_reducible apply And.intro)
 clear hv
 intro v hv
 have hv:=hv.1
 intros
 have cR:v.R.length≤4000000:=by have:=hv.r; omega
 have cM:v.M.length≤4000000:=by have:=hv.m; omega
 repeat (first
  | exact⟨⟨htab⟩,trivial⟩
  | (intro w0 hw0; have hw0:=hw0.symm; subst hw0)
  | refine⟨⟨hx⟩,?_⟩
  | refine⟨⟨hy⟩,?_⟩
  | refine⟨⟨plain_elemOf _ _ _⟩,?_⟩
  | refine⟨⟨rfl⟩,?_⟩
  | refine⟨_,⟨⟨hx,rfl,hrx,fun _ _=>rfl⟩⟩,?_⟩
  | refine⟨_,⟨⟨hy,rfl,hry,fun _ _=>rfl⟩⟩,?_⟩
  | refine⟨_,⟨⟨rfl,rfl,hv.rr,fun _ _=>rfl⟩⟩,?_⟩
  | refine⟨_,⟨⟨rfl,rfl,hv.mr,fun _ _=>rfl⟩⟩,?_⟩
  | refine⟨_,⟨⟨rfl,rfl,doX_row _ _ _ _ _ _ _ _ _ _,fun _ _=>rfl⟩⟩,?_⟩
  | refine⟨_,⟨⟨rfl,rfl,rnX_row hv.rr,fun _ _=>rfl⟩⟩,?_⟩
  | refine⟨_,⟨⟨rfl,rfl,rnL_row,fun _ _=>rfl⟩⟩,?_⟩
  | refine⟨⟨cR⟩,?_⟩
  | refine⟨⟨cM⟩,?_⟩
  | refine⟨⟨cR,cM⟩,?_⟩
  | refine⟨⟨cR,cR⟩,?_⟩
  | refine⟨⟨cM,cM⟩,?_⟩
  | refine⟨⟨Nat.le_trans doX_le cR,Nat.le_trans doX_le cR⟩,?_⟩
  | refine⟨⟨Nat.le_trans rnX_le cR,Nat.le_trans rnX_le cR⟩,?_⟩
  | refine⟨⟨Nat.le_trans rnL_le cM,Nat.le_trans rnL_le cM⟩,?_⟩
  | refine⟨fun h=>(h (sam_self _ _ _)).elim,fun _=>?_⟩
  | refine⟨fun _=>?_,fun h=>(h rfl).elim⟩
  | refine⟨fun _=>?_,fun h=>(h (sam_self _ _ _)).elim⟩
  | refine⟨fun _=>?_,fun h=>(h ⟨⟨⟨rfl,rfl,rfl,rfl⟩,rfl⟩,sam_self _ _ _⟩).elim⟩)
 refine⟨⟨v,⟨hv,by decide⟩,?_⟩,?_⟩
 ·skip
  repeat' (first | exact⟨rfl⟩ | exact⟨hx⟩ | exact⟨hy⟩ | exact trivial | exact⟨plain_elemOf _ _ _⟩ | exact⟨rfl,fun _ _=>rfl⟩ | with_reducible apply And.intro)
 clear hv
 intro v hv
 have hv:=hv.1
 intros
 have cR:v.R.length≤4000000:=by have:=hv.r; omega
 have cM:v.M.length≤4000000:=by have:=hv.m; omega
 repeat (first
  | exact⟨⟨htab⟩,trivial⟩
  | (intro w0 hw0; have hw0:=hw0.symm; subst hw0)
  | refine⟨⟨hx⟩,?_⟩
  | refine⟨⟨hy⟩,?_⟩
  | refine⟨⟨plain_elemOf _ _ _⟩,?_⟩
  | refine⟨⟨rfl⟩,?_⟩
  | refine⟨_,⟨⟨hx,rfl,hrx,fun _ _=>rfl⟩⟩,?_⟩
  | refine⟨_,⟨⟨hy,rfl,hry,fun _ _=>rfl⟩⟩,?_⟩
  | refine⟨_,⟨⟨rfl,rfl,hv.rr,fun _ _=>rfl⟩⟩,?_⟩
  | refine⟨_,⟨⟨rfl,rfl,hry,fun _ _=>rfl⟩⟩,?_⟩
  | refine⟨_,⟨⟨rfl,rfl,doX_row _ _ _ _ _ _ _ _ _ _,fun _ _=>rfl⟩⟩,?_⟩
  | refine⟨_,⟨⟨rfl,rfl,rnX_row hv.rr,fun _ _=>rfl⟩⟩,?_⟩
  | refine⟨_,⟨⟨rfl,rfl,rnL_row,fun _ _=>rfl⟩⟩,?_⟩
  | refine⟨⟨cR⟩,?_⟩
  | refine⟨⟨cD⟩,?_⟩
  | refine⟨⟨cR,cD⟩,?_⟩
  | refine⟨⟨cR,cR⟩,?_⟩
  | refine⟨⟨cD,cD⟩,?_⟩
  | refine⟨⟨Nat.le_trans doX_le cR,Nat.le_trans doX_le cR⟩,?_⟩
  | refine⟨⟨Nat.le_trans rnX_le cR,Nat.le_trans rnX_le cR⟩,?_⟩
  | refine⟨⟨Nat.le_trans rnL_le cD,Nat.le_trans rnL_le cD⟩,?_⟩
  | refine⟨fun h=>(h (sam_self _ _ _)).elim,fun _=>?_⟩
  | refine⟨fun _=>?_,fun h=>(h rfl).elim⟩
  | refine⟨fun _=>?_,fun h=>(h (sam_self _ _ _)).elim⟩
  | refine⟨fun _=>?_,fun h=>(h ⟨⟨⟨rfl,rfl,rfl,rfl⟩,rfl⟩,sam_self _ _ _⟩).elim⟩)
 refine⟨⟨v,⟨hv,by decide⟩,?_⟩,?_⟩
 ·skip
  repeat' (first | exact⟨rfl⟩ | exact⟨hx⟩ | exact⟨hy⟩ | exact trivial | exact⟨plain_elemOf _ _ _⟩ | exact⟨rfl,fun _ _=>rfl⟩ | with_reducible apply And.intro)
 clear hv
 intro v hv
 have hv:=hv.1
 intros
 have cR:v.R.length≤4000000:=by have:=hv.r; omega
 have cM:v.M.length≤4000000:=by have:=hv.m; omega
 have hDD:∀r∈[[dk,dm,dO,dq],[dk,dm,dO,dq]],r.length=4:=by intro r hr; simp at hr; rw [hr]; rfl
 have cDD:[[dk,dm,dO,dq],[dk,dm,dO,dq]].length≤4000000:=by show 2≤4000000; omega
 repeat (first
  | exact⟨⟨htab⟩,trivial⟩
  | (intro w0 hw0; have hw0:=hw0.symm; subst hw0)
  | refine⟨⟨hx⟩,?_⟩
  | refine⟨⟨hy⟩,?_⟩
  | refine⟨⟨plain_elemOf _ _ _⟩,?_⟩
  | refine⟨⟨rfl⟩,?_⟩
  | refine⟨_,⟨⟨hx,rfl,hrx,fun _ _=>rfl⟩⟩,?_⟩
  | refine⟨_,⟨⟨hy,rfl,hry,fun _ _=>rfl⟩⟩,?_⟩
  | refine⟨_,⟨⟨rfl,rfl,hrx,fun _ _=>rfl⟩⟩,?_⟩
  | refine⟨_,⟨⟨rfl,rfl,hDD,fun _ _=>rfl⟩⟩,?_⟩
  | refine⟨_,⟨⟨rfl,rfl,doX_row _ _ _ _ _ _ _ _ _ _,fun _ _=>rfl⟩⟩,?_⟩
  | refine⟨_,⟨⟨rfl,rfl,rnX_row hrx,fun _ _=>rfl⟩⟩,?_⟩
  | refine⟨_,⟨⟨rfl,rfl,rnL_row,fun _ _=>rfl⟩⟩,?_⟩
  | refine⟨⟨cA⟩,?_⟩
  | refine⟨⟨cDD⟩,?_⟩
  | refine⟨⟨cA,cDD⟩,?_⟩
  | refine⟨⟨cA,cA⟩,?_⟩
  | refine⟨⟨cDD,cDD⟩,?_⟩
  | refine⟨⟨Nat.le_trans doX_le cA,Nat.le_trans doX_le cA⟩,?_⟩
  | refine⟨⟨Nat.le_trans rnX_le cA,Nat.le_trans rnX_le cA⟩,?_⟩
  | refine⟨⟨Nat.le_trans rnL_le cDD,Nat.le_trans rnL_le cDD⟩,?_⟩
  | refine⟨fun h=>(h (sam_self _ _ _)).elim,fun _=>?_⟩
  | refine⟨fun _=>?_,fun h=>(h rfl).elim⟩
  | refine⟨fun _=>?_,fun h=>(h (sam_self _ _ _)).elim⟩
  | refine⟨fun _=>?_,fun h=>(h ⟨⟨⟨rfl,rfl,rfl,rfl⟩,rfl⟩,sam_self _ _ _⟩).elim⟩)
 refine⟨⟨⟨htab⟩,trivial⟩,?_⟩
 intro v hv
 exact absurd hv.2 (by decide)
theorem e_law:V_law=needL P [F_SameCoops,F_SameDeals,F_SameErrors] [F_TideOf.named,F_CoopOf.named,F_DealOf.named,F_DealsOf.named,F_OwnCoop.named,F_OwnDeals.named,F_DoU.named,F_DoRU.named,F_RunU.named,F_RunRU.named] 8 ([]:Tabs) A_law F_law:=by kernel_rfl
theorem n_law:Ob (needL P [F_SameCoops,F_SameDeals,F_SameErrors] [F_TideOf.named,F_CoopOf.named,F_DealOf.named,F_DealsOf.named,F_OwnCoop.named,F_OwnDeals.named,F_DoU.named,F_DoRU.named,F_RunU.named,F_RunRU.named] 8 ([]:Tabs) A_law F_law):=by
 rw [← e_law]
 exact⟨v_law⟩
theorem l_law:(([F_SameCoops,F_SameDeals,F_SameErrors]:List Fn0).all fun G=>!Nat.beq G.g 8)=true:=rfl
theorem le_law:([F_TideOf.named,F_CoopOf.named,F_DealOf.named,F_DealsOf.named,F_OwnCoop.named,F_OwnDeals.named,F_DoU.named,F_DoRU.named,F_RunU.named,F_RunRU.named].all fun G=>!Nat.beq G.g 8)=true:=rfl
theorem c_law:∀F∈([F_SameCoops,F_SameDeals,F_SameErrors]:List Fn0),F.Ok P:=by
 intro F h
 simp only [List.mem_cons,List.not_mem_nil,or_false]at h
 rcases h with rfl | rfl | rfl
 ·exact SameCoops_ok
 ·exact SameDeals_ok
 ·exact SameErrors_ok
theorem ce_law:∀F∈[F_TideOf.named,F_CoopOf.named,F_DealOf.named,F_DealsOf.named,F_OwnCoop.named,F_OwnDeals.named,F_DoU.named,F_DoRU.named,F_RunU.named,F_RunRU.named],F.Ok P:=by
 intro F h
 simp only [List.mem_cons,List.not_mem_nil,or_false]at h
 rcases h with rfl | rfl | rfl | rfl | rfl | rfl | rfl | rfl | rfl | rfl
 ·exact TideOf_ok.named
 ·exact CoopOf_ok.named
 ·exact DealOf_ok.named
 ·exact DealsOf_ok.named
 ·exact OwnCoop_ok.named
 ·exact OwnDeals_ok.named
 ·exact DoU_ok.named
 ·exact DoRU_ok.named
 ·exact RunU_ok.named
 ·exact RunRU_ok.named
end Go.Proofs.Ytfebjikidfcbcaa.Sy
