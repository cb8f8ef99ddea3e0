import Derived.Test.YtphbledmopchnaaGreatDoorVad
open Go.Instr renaming typeAssert->mE
open Go.Extern.ReflectliteValue renaming valueError->eB,method->eT,parts->fA,isNil->fB,unpack->fE,methodAny->kg,flagAddr->mI,elem->mK,set->mR,mk->nI
set_option maxHeartbeats 4000000
set_option maxRecDepth 100000
open Go renaming World->Wq,Value->WA,TypeId->Vg,Addr->V3
set_option linter.all false
namespace Go.Proofs.YtphbledmopchnaaGreatDoor
open Go.RowKit Go.Extern.Stop Go.Stop Go.Extern Mm Tryz
def valueOf53(t:V3)(w:Wq):(fE (.iface 135 (.pointer (some t)))).run prog w
  =.ok (.agg #[aJ 2 135,aJ w.heap.size 0,uZ 150]) (w.alloc (.cells #[.pointer (some t)] 135)):=bO
def valueOf57(t:V3)(w:Wq):(fE (.iface 139 (.pointer (some t)))).run prog w
  =.ok (.agg #[aJ 2 139,aJ w.heap.size 0,uZ 150]) (w.alloc (.cells #[.pointer (some t)] 139)):=bO
def valueOf30(x:Int)(w:Wq):(fE (.iface 57 (iZ x))).run prog w
  =.ok (.agg #[aJ 2 57,aJ w.heap.size 0,uZ 130]) (w.alloc (.cells #[iZ x] 57)):=bO
def type53(a:V3)(w:Wq):(kg (eB "reflectlite.Value.Type" 0) (fun t _ _ _=>ReflectliteType.toType t) #[.agg #[aJ 2 135,.pointer (some a),uZ 150]]).run prog w
  =.ok (.iface 259 (.agg #[aJ 2 135])) w:=bO
def type57(a:V3)(w:Wq):(kg (eB "reflectlite.Value.Type" 0) (fun t _ _ _=>ReflectliteType.toType t) #[.agg #[aJ 2 139,.pointer (some a),uZ 150]]).run prog w
  =.ok (.iface 259 (.agg #[aJ 2 139])) w:=bO
def methodKind(h:WA)(w:Wq):(Go.method 518 259 (.agg #[h]) "Kind").run prog w=.ok (364,h) w:=bO
def methodElem(h:WA)(w:Wq):(Go.method 518 259 (.agg #[h]) "Elem").run prog w=.ok (382,.agg #[h]) w:=bO
def methodImplements(h:WA)(w:Wq):(Go.method 518 259 (.agg #[h]) "Implements").run prog w=.ok (383,.agg #[h]) w:=bO
def methodAssignableTo(h:WA)(w:Wq):(Go.method 518 259 (.agg #[h]) "AssignableTo").run prog w=.ok (380,.agg #[h]) w:=bO
def methodComparable(h:WA)(w:Wq):(Go.method 518 259 (.agg #[h]) "Comparable").run prog w=.ok (381,.agg #[h]) w:=bO
def kind53(w:Wq):((ReflectliteType.abiMethod fun t=>Functor.map (fun a:Nat=>Value.int IntKind.u8 (a:Int)) (Rtype.kind t)) #[aJ 2 135]).run prog w=.ok (.int .u8 22) w:=bO
def kind51(w:Wq):((ReflectliteType.abiMethod fun t=>Functor.map (fun a:Nat=>Value.int IntKind.u8 (a:Int)) (Rtype.kind t)) #[aJ 2 133]).run prog w=.ok (.int .u8 22) w:=bO
def kind57(w:Wq):((ReflectliteType.abiMethod fun t=>Functor.map (fun a:Nat=>Value.int IntKind.u8 (a:Int)) (Rtype.kind t)) #[aJ 2 139]).run prog w=.ok (.int .u8 22) w:=bO
def kind30(w:Wq):((ReflectliteType.abiMethod fun t=>Functor.map (fun a:Nat=>Value.int IntKind.u8 (a:Int)) (Rtype.kind t)) #[aJ 2 57]).run prog w=.ok (.int .u8 2) w:=bO
def elem53(w:Wq):(ReflectliteType.method ReflectliteType.elem #[.agg #[aJ 2 135]]).run prog w=.ok (.iface 259 (.agg #[aJ 2 133])) w:=bO
def elem57(w:Wq):(ReflectliteType.method ReflectliteType.elem #[.agg #[aJ 2 139]]).run prog w=.ok (.iface 259 (.agg #[aJ 2 57])) w:=bO
def implements51(w:Wq):(ReflectliteType.relation "Implements" ReflectliteType.implements_ #[.agg #[aJ 2 133],.iface 259 (.agg #[aJ 2 94])]).run prog w=.ok (.bool true) w:=bO
def implements30(w:Wq):(ReflectliteType.relation "Implements" ReflectliteType.implements_ #[.agg #[aJ 2 57],.iface 259 (.agg #[aJ 2 94])]).run prog w=.ok (.bool true) w:=bO
def typeOf30(v:WA)(w:Wq):(ReflectliteType.typeOf #[.iface 57 v]).run prog w=.ok (.iface 259 (.agg #[aJ 2 57])) w:=bO
def assignable30(w:Wq):(ReflectliteType.relation "AssignableTo" ReflectliteType.assignableTo #[.agg #[aJ 2 57],.iface 259 (.agg #[aJ 2 57])]).run prog w=.ok (.bool true) w:=bO
def assignable51(w:Wq):(ReflectliteType.relation "AssignableTo" ReflectliteType.assignableTo #[.agg #[aJ 2 57],.iface 259 (.agg #[aJ 2 133])]).run prog w=.ok (.bool false) w:=bO
def MZ:Array WA→Sem WA:=ReflectliteType.method fun t=>do Rtype.noPackHeld "Comparable" t;pure (.bool (←typeInfo t).comparable)
def comparable30(w:Wq):(MZ #[.agg #[aJ 2 57]]).run prog w=.ok (.bool true) w:=bO
def noAs30(v:WA)(a:Vg)(w:Wq):(mE (.iface 57 v) a 263 true).run prog w=.ok (.tuple #[.nilIface,.bool false]) w:=run_typeAssert_lacksB underlying263 bO bO v a w
def noUnwrap30(v:WA)(a:Vg)(w:Wq):(mE (.iface 57 v) a 266 true).run prog w=.ok (.tuple #[.nilIface,.bool false]) w:=run_typeAssert_lacksB underlying266 bO bO v a w
def noUnwraps30(v:WA)(a:Vg)(w:Wq):(mE (.iface 57 v) a 267 true).run prog w=.ok (.tuple #[.nilIface,.bool false]) w:=run_typeAssert_lacksB underlying267 bO bO v a w
def rlm(z:Sem WA)(f:Vg->V3->Nat->Nat->Sem WA)(v:WA):eT z f #[v]=(do match <-fA v with|none=>z|some (t,a,fl)=>f t a fl (fl % 32)):=rfl
def parts53(a:V3)(w:Wq):(fA (.agg #[aJ 2 135,.pointer (some a),uZ 150])).run prog w=.ok (some (135,a,150)) w:=bO
def parts57(a:V3)(w:Wq):(fA (.agg #[aJ 2 139,.pointer (some a),uZ 150])).run prog w=.ok (some (139,a,150)) w:=bO
def isNil53(a p:V3)(W:Wq)(b:W.cell? a=some (.pointer (some p))):(eT (eB "reflectlite.Value.IsNil" 0) fB #[.agg #[aJ 2 135,.pointer (some a),uZ 150]]).run prog W=.ok (.bool false) W:=by rw[rlm];simp only[qnv,parts53,Result.andThen];simp[fB,loadVar,isAgg,underlying,underlying135,b,Result.andThen]
def isNil57(a p:V3)(W:Wq)(b:W.cell? a=some (.pointer (some p))):(eT (eB "reflectlite.Value.IsNil" 0) fB #[.agg #[aJ 2 139,.pointer (some a),uZ 150]]).run prog W=.ok (.bool false) W:=by rw[rlm];simp only[qnv,parts57,Result.andThen];simp[fB,loadVar,isAgg,underlying,underlying139,b,Result.andThen]
def elemOf57(w:Wq):(Rtype.elem? 139).run prog w=.ok (some 57) w:=bO
def mk30(p:V3)(w:Wq):(nI 57 p mI).run prog w=.ok (.agg #[aJ 2 57,.pointer (some p),uZ 386]) w:=bO
def elemV57(a p:V3)(W:Wq)(b:W.cell? a=some (.pointer (some p))):(eT (eB "reflectlite.Value.Elem" 0) mK #[.agg #[aJ 2 139,.pointer (some a),uZ 150]]).run prog W
   =.ok (.agg #[aJ 2 57,.pointer (some p),uZ 386]) W:=by
 rw[rlm];simp only[qnv,parts57,Result.andThen];simp[mK,loadVar,isAgg,underlying,underlying139,b,Result.andThen,elemOf57,mk30]
def rls(v x:WA):mR #[v,x]=(do
  let(some (dst,a,fl),some (src,b,_)):=(<-fA v,<-fA x)
   |unsupported (.noEntry "extern/(internal/reflectlite.Value).Set.zeroValue")
  if fl / mI % 2==0 then unsupported (.noEntry "extern/(internal/reflectlite.Value).Set.unaddressable")
  let val <-loadVar src b
  if <-Rtype.directlyAssignable dst src then storeVar dst a val
  else if <-Rtype.implements dst src then
   if(<-Rtype.kind src)==20 then
    match val with
    |.nilIface=>unsupported (.noEntry "extern/reflectlite: a nil value of one interface type handed on as a value of another")
    |_=>storeVar dst a val
   else storeVar dst a (.iface src val)
  else panicString ("reflectlite.Set: value of type "++(←Rtype.spelt src)++ " is not assignable to type "++(←Rtype.spelt dst))
  pure (.tuple #[])):=rfl
def parts30a(a:V3)(w:Wq):(fA (.agg #[aJ 2 57,.pointer (some a),uZ 386])).run prog w=.ok (some (57,a,386)) w:=bO
def parts30(a:V3)(w:Wq):(fA (.agg #[aJ 2 57,.pointer (some a),uZ 130])).run prog w=.ok (some (57,a,130)) w:=bO
def direct30(w:Wq):(Rtype.directlyAssignable 57 57).run prog w=.ok true w:=bO
def set30(a b:V3)(x:Int)(c:WA)(W:Wq)(d:W.cell? b=some (iZ x))(f:W.cell? a=some c)(e:W.frozen? a=false):(mR #[.agg #[aJ 2 57,.pointer (some a),uZ 386],.agg #[aJ 2 57,.pointer (some b),uZ 130]]).run prog W
   =.ok (.tuple #[]) (W.setCell a (iZ x)):=by
 rw[rls];simp only[qnv,parts30a,parts30,Result.andThen];simp[mI,loadVar,isAgg,underlying,underlying57,d,Result.andThen,direct30,storeVar,Value.cells,storeCells,Addr.add];rw[run_store prog W a _ _ (by rfl)];simp[f,e]
def eql7(w:Wq):(binOp .eql 94 (.iface 57 (iZ 7)) (.iface 57 (iZ 7))).run prog w=.ok (.bool true) w:=bO
def g_(w:Wq):Prop:=w.cell? (ay 0 0)=some (.iface 259 (.agg #[aJ 2 94]))
def Zn(x:Int)(w:Wq)(c:∀w,(binOp .eql 94 (.iface 57 (iZ x)) (.iface 57 (iZ x))).run prog w=.ok (.bool true) w):qH 71 #[.iface 57 (iZ x),.iface 57 (iZ x)] w (.bool true) fun d=>d=w:=by have a:=@run_callFunc_extern prog 121 _ ReflectliteType.typeOf func121 bO bO bO bO;have b:=@run_callFunc_extern prog 381 _ MZ func381 bO bO bO bO;have g:=typeOf30;have e:=comparable30;have f:=methodComparable;go_enter func71,ntmps71;go_wp2;refine wp_loop_rounds 1 ?_;rw[rounds_succ];go_wp2;go_ret;exact⟨rfl,rfl⟩
def Zo(x:Int)(t:V3)(w:Wq)(a:g_ w):qH 70 #[.iface 57 (iZ x),.iface 135 (.pointer (some t))] w (.bool false) fun r=>r=(((w.alloc (.cells #[.pointer (some t)] 135)).alloc (.cells #[aJ 2 135,aJ w.heap.size 0,uZ 150] 217)).alloc (.cells #[aJ 2 135,aJ w.heap.size 0,uZ 150] 217)):=by
 unfold g_ at a;have e:=@run_callFunc_extern prog 117 _ (fun args=>fE (args.getD 0 (.tuple #[]))) func117 bO bO bO bO;have f:=@run_callFunc_extern prog 118 _ (kg (eB "reflectlite.Value.Type" 0) (fun t _ _ _=>ReflectliteType.toType t)) func118 bO bO bO bO;have g:=@run_callFunc_extern prog 119 _ (eT (eB "reflectlite.Value.IsNil" 0) fB) func119 bO bO bO bO;have j:=@run_callFunc_extern prog 364 _ (ReflectliteType.abiMethod fun t=>do pure (.int .u8 (<-Rtype.kind t))) func364 bO bO bO bO;have p:=@run_callFunc_extern prog 382 _ (ReflectliteType.method ReflectliteType.elem) func382 bO bO bO bO;have q:=@run_callFunc_extern prog 383 _ (ReflectliteType.relation "Implements" ReflectliteType.implements_) func383 bO bO bO bO;have i:=@run_callFunc_extern prog 121 _ ReflectliteType.typeOf func121 bO bO bO bO;have k:=@run_callFunc_extern prog 380 _ (ReflectliteType.relation "AssignableTo" ReflectliteType.assignableTo) func380 bO bO bO bO;have C:=typeOf30;have s:=methodAssignableTo;have c:=assignable51;have f23:=valueOf53;have f24:=type53;have y:=methodKind;have u:=methodElem;have v:=methodImplements;have o:=kind53;have n:=kind51;have d:=elem53;have m:=implements51;have z:=noAs30;have A:=noUnwrap30;have B:=noUnwraps30;have n25:=isNil53 (ay w.heap.size 0) t ((w.alloc (.cells #[.pointer (some t)] 135)).alloc (.cells #[aJ 2 135,aJ w.heap.size 0,uZ 150] 217)) aM;have b:0<w.heap.size:=qmf _ _ a;have l:((w.alloc (.cells #[.pointer (some t)] 135)).alloc (.cells #[aJ 2 135,aJ w.heap.size 0,uZ 150] 217)).cell? (ay 0 0)=some (.iface 259 (.agg #[aJ 2 94])):=by rw[qns _ _ (ay 0 0) aM,qns _ _ (ay 0 0) b];exact a
 go_enter func70,ntmps70;go_wp2;refine wp_loop_rounds 1 ?_;rw[rounds_succ];go_wp2;go_ret;exact⟨rfl,rfl⟩
def qdu(x:Int)(t:V3)(c:WA)(w:Wq)(e:g_ w)(a:w.cell? t=some c)(d:w.frozen? t=false):qH 70 #[.iface 57 (iZ x),.iface 139 (.pointer (some t))] w (.bool true) fun B=>B=((((w.alloc (.cells #[.pointer (some t)] 139)).alloc (.cells #[aJ 2 139,aJ w.heap.size 0,uZ 150] 217)).alloc (.cells #[aJ 2 139,aJ w.heap.size 0,uZ 150] 217)).alloc (.cells #[iZ x] 57)).setCell t (iZ x):=by
 unfold g_ at e;have j:=@run_callFunc_extern prog 117 _ (fun args=>fE (args.getD 0 (.tuple #[]))) func117 bO bO bO bO;have k:=@run_callFunc_extern prog 118 _ (kg (eB "reflectlite.Value.Type" 0) (fun t _ _ _=>ReflectliteType.toType t)) func118 bO bO bO bO;have l:=@run_callFunc_extern prog 119 _ (eT (eB "reflectlite.Value.IsNil" 0) fB) func119 bO bO bO bO;have p:=@run_callFunc_extern prog 364 _ (ReflectliteType.abiMethod fun t=>do pure (.int .u8 (<-Rtype.kind t))) func364 bO bO bO bO;have y:=@run_callFunc_extern prog 382 _ (ReflectliteType.method ReflectliteType.elem) func382 bO bO bO bO;have z:=@run_callFunc_extern prog 383 _ (ReflectliteType.relation "Implements" ReflectliteType.implements_) func383 bO bO bO bO;have m:=@run_callFunc_extern prog 121 _ ReflectliteType.typeOf func121 bO bO bO bO;have q:=@run_callFunc_extern prog 380 _ (ReflectliteType.relation "AssignableTo" ReflectliteType.assignableTo) func380 bO bO bO bO;have n:=@run_callFunc_extern prog 165 _ (eT (eB "reflectlite.Value.Elem" 0) mK) func165 bO bO bO bO;have o:=@run_callFunc_extern prog 166 _ mR func166 bO bO bO bO;have I:=typeOf30;have D:=methodAssignableTo;have g:=assignable30;have A:=valueOf30;have f23:=valueOf57;have f24:=type57;have G:=methodKind;have E:=methodElem;have F:=methodImplements;have v:=kind57;have u:=kind30;have i:=elem57;have s:=implements30;have n25:=isNil57 (ay w.heap.size 0) t ((w.alloc (.cells #[.pointer (some t)] 139)).alloc (.cells #[aJ 2 139,aJ w.heap.size 0,uZ 150] 217)) aM;have f:0<w.heap.size:=qmf _ _ e;have r:((w.alloc (.cells #[.pointer (some t)] 139)).alloc (.cells #[aJ 2 139,aJ w.heap.size 0,uZ 150] 217)).cell? (ay 0 0)=some (.iface 259 (.agg #[aJ 2 94])):=by rw[qns _ _ (ay 0 0) aM,qns _ _ (ay 0 0) f];exact e
 have b:t.block<w.heap.size:=qmf _ _ a;have C:=elemV57 (ay w.heap.size 0) t (((w.alloc (.cells #[.pointer (some t)] 139)).alloc (.cells #[aJ 2 139,aJ w.heap.size 0,uZ 150] 217)).alloc (.cells #[aJ 2 139,aJ w.heap.size 0,uZ 150] 217)) (by rw[qns _ _ (ay w.heap.size 0) rR];simp);have H:=set30 t (ay (w.heap.size+1+1+1) 0) x c ((((w.alloc (.cells #[.pointer (some t)] 139)).alloc (.cells #[aJ 2 139,aJ w.heap.size 0,uZ 150] 217)).alloc (.cells #[aJ 2 139,aJ w.heap.size 0,uZ 150] 217)).alloc (.cells #[iZ x] 57))
  (by rw[World.cell?_alloc_at _ _ _ _ aM];rfl)
  (by rw[qns _ _ t rR,qns _ _ t rR,qns _ _ t rR,qns _ _ t b];exact a)
  (by rw[qq7 _ _ t rR,qq7 _ _ t rR,qq7 _ _ t rR,qq7 _ _ t (Nat.ne_of_lt b)];exact d)
 go_enter func70,ntmps70;go_wp2;refine wp_loop_rounds 1 ?_;rw[rounds_succ];go_wp2;go_ret;exact⟨rfl,rfl⟩
end Go.Proofs.YtphbledmopchnaaGreatDoor
namespace Go.Proofs.YtphbledmopchnaaGreatDoor
open Go.RowKit Go.Lib Go.Shelf Mm Tryz
def yu(w:Wq):qH 42 #[.nilIface] w (.tuple #[iZ 0,(iZ (-1))]) fun a=>bE w a:=by go_enter func42,ntmps42;go_wp2;go_ret2;exact⟨rfl,((qlw _ w).alloc (qj _) _).alloc aM _⟩
def pJ(x:Int)(q:∀w,(binOp .eql 94 (.iface 57 (iZ x)) (.iface 57 (iZ x))).run prog w=.ok (.bool true) w)(w:Wq)(r:g_ w):qH 42 #[.iface 57 (iZ x)] w (.tuple #[iZ x,(iZ (-1))]) fun E=>bE w E:=by
 obtain⟨c,b⟩:=bT ((w.alloc (.cells #[.pointer none] 133)).alloc (.cells #[iZ 0] 57));have D:c.heap.size=w.heap.size+2:=by rw[b];simp
 have o:bE w c:=by rw[b];exact((qlw _ w).alloc (qj _) _).alloc aM _
 have C:0<w.heap.size:=qmf _ _ r;have j:g_ c:=cell_of r (o.block 0 C);have z:aL c (w.heap.size+1) 57 [iZ 0]:=by rw[b];have:=aL.new (w.alloc (.cells #[.pointer none] 133)) 57 [iZ 0];simpa using this
 have y:=aF (Zo x (ay w.heap.size 0) c j);obtain⟨d,f⟩:=bT ((((c.alloc (.cells #[aJ w.heap.size 0] 135)).alloc (.cells #[aJ 2 135,aJ c.heap.size 0,uZ 150] 217)).alloc (.cells #[aJ 2 135,aJ c.heap.size 0,uZ 150] 217)));have a:bE c d:=by rw[f];exact(((qlw _ c).alloc (qj _) _).alloc aM _).alloc rR _
 have e:aL d (w.heap.size+1) 57 [iZ 0]:=z.of_heap (a.block _ aj);have l:g_ d:=cell_of j (a.block 0 aj);have v:=aF (qdu x (ay (w.heap.size+1) 0) (iZ 0) d l (e.cell 0) (e.frozen 0));have B:=aF (fun w=>Zn x w q);obtain⟨m,g⟩:=bT (((((d.alloc (.cells #[(aJ (w.heap.size+1) 0)] 139)).alloc (.cells #[aJ 2 139,aJ d.heap.size 0,uZ 150] 217)).alloc (.cells #[aJ 2 139,aJ d.heap.size 0,uZ 150] 217)).alloc (.cells #[iZ x] 57)));have i:bE d m:=by rw[g];exact((((qlw _ d).alloc (qj _) _).alloc aM _).alloc rR _).alloc rR _
 have k:aL m (w.heap.size+1) 57 [iZ 0]:=e.of_heap (i.block _ (bR a.size));have F:(m.setCell (ay (w.heap.size+1) 0) (iZ x)).cell? (ay (w.heap.size+1) 0)=some (iZ x):=World.cell?_setCell_same' _ _ _ (by rw[k.cell 0];rfl);have A:Hid (bE w (m.setCell (ay (w.heap.size+1) 0) (iZ x))):=(((o.trans (a.mono aj)).trans (i.mono (bR a.size))).setCell (p:=(ay (w.heap.size+1) 0)) aM _);rw[<-f]at y;rw[<-g]at v;have n:=aF b;clear b f g D o r j z a e l i k;go_enter func42,ntmps42;go_wp2_with fail;rw[<-n.out];refine bH y.out ?_;rintro G s;subst s;go_wp2_with fail;refine bH v.out ?_;rintro H t;subst t;go_wp2_with fail;refine bH (B.out _) ?_;rintro I u;subst u;go_wp2;go_ret2;exact⟨rfl,A.out⟩
def vo(v:WA)(x at_:Int)(w:Wq)(P:Wq->Prop)(h:qH 42 #[v] w (.tuple #[iZ x,iZ at_]) fun b=>P b):qH 60 #[v] w (iZ x) fun b=>P b:=by have H:=aF h;clear h;go_enter func60,ntmps60;go_wp2_with fail;refine bH H.out ?_;rintro d a;have c:=aF a;clear a;go_wp2;go_ret;exact⟨rfl,c.out⟩
def Own.mono{A B:Nat}{v:WA}(h:Own B v)(a:A<=B):Own A v:=fun k b=>qlz a (h k b)
def M6(f:Fr)(a:Option V3)(n c:Nat):∀v∈iX f (.slice a n c),v.oneCell'=true:=by intro v b;simp[iX]at b;rcases b with h|h|h|h|h|h|h|h|h|h<;>subst h<;>rfl
def M7(w:Wq)(d:Option V3)(c:List Fr)(e:Nat->Option V3)(f:Nat->Nat):Prop:=
 ∀j,j<c.length->∃b a,d=some (ay b a)/\nQ w b (a+j*10) (c.getD j iL) (e j) (f j)
def nC.weak{w:Wq}{c:Option V3}{d:List Fr}{e:Nat->Option V3}{f:Nat->Nat}(h:nC w c d e f):M7 w c d e f:=fun j k=>by obtain⟨b,a,i,g,_⟩:=h j k;exact⟨b,a,i,g⟩
end Go.Proofs.YtphbledmopchnaaGreatDoor
namespace Go.Proofs.YtphbledmopchnaaGreatDoor
open Go.RowKit Go.Extern.Stop Go.Stop Go.Extern Mm Tryz
def neqNil8(w:Wq):(binOp .eql 94 .nilIface (.iface 57 (iZ 8))).run prog w=.ok (.bool false) w:=bO
def neq78(w:Wq):(binOp .eql 94 (.iface 57 (iZ 7)) (.iface 57 (iZ 8))).run prog w=.ok (.bool false) w:=bO
def noIs57(v:WA)(a:Vg)(w:Wq):(mE (.iface 57 v) a 270 true).run prog w=.ok (.tuple #[.nilIface,.bool false]) w:=run_typeAssert_lacksB underlying270 bO bO v a w
def noUn57(v:WA)(a:Vg)(w:Wq):(mE (.iface 57 v) a 266 true).run prog w=.ok (.tuple #[.nilIface,.bool false]) w:=run_typeAssert_lacksB underlying266 bO bO v a w
def noUns57(v:WA)(a:Vg)(w:Wq):(mE (.iface 57 v) a 267 true).run prog w=.ok (.tuple #[.nilIface,.bool false]) w:=run_typeAssert_lacksB underlying267 bO bO v a w
def qaz(w:Wq):qH 71 #[.nilIface,.iface 57 (iZ 8)] w (.bool false) fun a=>a=w:=by have b:=neqNil8;go_enter func71,ntmps71;go_wp2;go_ret;exact⟨rfl,rfl⟩
def qb4(w:Wq):qH 71 #[.iface 57 (iZ 7),.iface 57 (iZ 8)] w (.bool false) fun c=>c=w:=by have a:=@run_callFunc_extern prog 121 _ ReflectliteType.typeOf func121 bO bO bO bO;have b:=@run_callFunc_extern prog 381 _ MZ func381 bO bO bO bO;have j:=typeOf30;have d:=comparable30;have e:=methodComparable;have nq:=neq78;have f:=noIs57;have g:=noUn57;have i:=noUns57;go_enter func71,ntmps71;go_wp2;refine wp_loop_rounds 1 ?_;rw[rounds_succ];go_wp2;go_ret;exact⟨rfl,rfl⟩
