import Derived.Test.YtphbledmopchnaaGreatDoorUaa
open Go.Instr renaming typeAssert->uj
open Go.Extern.ReflectliteValue renaming valueError->fA,method->mR,parts->nI,isNil->sQ,unpack->tL,methodAny->tT,flagAddr->Am,elem->Aw,set->DT,mk->Kt
open Go.Sem renaming run_bind->E8
open Go.World renaming cell?_alloc_lt->fB,frozen?_alloc_old->wz,block_lt_of_cell?->Av
set_option maxHeartbeats 4000000
set_option maxRecDepth 100000
namespace Go.Proofs.YtphbledmopchnaaGreatDoor
open Go.RowKit Go.Extern.Stop Go.Stop Go.Extern Mm Tryz
theorem valueOf53(t:Addr)(w:World):(tL (.iface 135 (.pointer (some t)))).run prog w
  =.ok (.agg #[ay 2 135,ay w.heap.size 0,uZ 150]) (w.alloc (.cells #[.pointer (some t)] 135)):=by kernel_rfl
theorem valueOf57(t:Addr)(w:World):(tL (.iface 139 (.pointer (some t)))).run prog w
  =.ok (.agg #[ay 2 139,ay w.heap.size 0,uZ 150]) (w.alloc (.cells #[.pointer (some t)] 139)):=by kernel_rfl
theorem valueOf30(x:Int)(w:World):(tL (.iface 57 (iZ x))).run prog w
  =.ok (.agg #[ay 2 57,ay w.heap.size 0,uZ 130]) (w.alloc (.cells #[iZ x] 57)):=by kernel_rfl
theorem type53(a:Addr)(w:World):(tT (fA "reflectlite.Value.Type" 0) (fun t _ _ _=>ReflectliteType.toType t) #[.agg #[ay 2 135,.pointer (some a),uZ 150]]).run prog w
  =.ok (.iface 259 (.agg #[ay 2 135])) w:=by kernel_rfl
theorem type57(a:Addr)(w:World):(tT (fA "reflectlite.Value.Type" 0) (fun t _ _ _=>ReflectliteType.toType t) #[.agg #[ay 2 139,.pointer (some a),uZ 150]]).run prog w
  =.ok (.iface 259 (.agg #[ay 2 139])) w:=by kernel_rfl
theorem methodKind(h:Value)(w:World):(Go.method 518 259 (.agg #[h]) "Kind").run prog w=.ok (364,h) w:=by kernel_rfl
theorem methodElem(h:Value)(w:World):(Go.method 518 259 (.agg #[h]) "Elem").run prog w=.ok (382,.agg #[h]) w:=by kernel_rfl
theorem methodImplements(h:Value)(w:World):(Go.method 518 259 (.agg #[h]) "Implements").run prog w=.ok (383,.agg #[h]) w:=by kernel_rfl
theorem methodAssignableTo(h:Value)(w:World):(Go.method 518 259 (.agg #[h]) "AssignableTo").run prog w=.ok (380,.agg #[h]) w:=by kernel_rfl
theorem methodComparable(h:Value)(w:World):(Go.method 518 259 (.agg #[h]) "Comparable").run prog w=.ok (381,.agg #[h]) w:=by kernel_rfl
theorem kind53(w:World):((ReflectliteType.abiMethod fun t=>Functor.map (fun a:Nat=>Value.int IntKind.u8 (a:Int)) (Rtype.kind t)) #[ay 2 135]).run prog w=.ok (.int .u8 22) w:=by kernel_rfl
theorem kind51(w:World):((ReflectliteType.abiMethod fun t=>Functor.map (fun a:Nat=>Value.int IntKind.u8 (a:Int)) (Rtype.kind t)) #[ay 2 133]).run prog w=.ok (.int .u8 22) w:=by kernel_rfl
theorem kind57(w:World):((ReflectliteType.abiMethod fun t=>Functor.map (fun a:Nat=>Value.int IntKind.u8 (a:Int)) (Rtype.kind t)) #[ay 2 139]).run prog w=.ok (.int .u8 22) w:=by kernel_rfl
theorem kind30(w:World):((ReflectliteType.abiMethod fun t=>Functor.map (fun a:Nat=>Value.int IntKind.u8 (a:Int)) (Rtype.kind t)) #[ay 2 57]).run prog w=.ok (.int .u8 2) w:=by kernel_rfl
theorem elem53(w:World):(ReflectliteType.method ReflectliteType.elem #[.agg #[ay 2 135]]).run prog w=.ok (.iface 259 (.agg #[ay 2 133])) w:=by kernel_rfl
theorem elem57(w:World):(ReflectliteType.method ReflectliteType.elem #[.agg #[ay 2 139]]).run prog w=.ok (.iface 259 (.agg #[ay 2 57])) w:=by kernel_rfl
theorem implements51(w:World):(ReflectliteType.relation "Implements" ReflectliteType.implements_ #[.agg #[ay 2 133],.iface 259 (.agg #[ay 2 94])]).run prog w=.ok (.bool true) w:=by kernel_rfl
theorem implements30(w:World):(ReflectliteType.relation "Implements" ReflectliteType.implements_ #[.agg #[ay 2 57],.iface 259 (.agg #[ay 2 94])]).run prog w=.ok (.bool true) w:=by kernel_rfl
theorem typeOf30(v:Value)(w:World):(ReflectliteType.typeOf #[.iface 57 v]).run prog w=.ok (.iface 259 (.agg #[ay 2 57])) w:=by kernel_rfl
theorem assignable30(w:World):(ReflectliteType.relation "AssignableTo" ReflectliteType.assignableTo #[.agg #[ay 2 57],.iface 259 (.agg #[ay 2 57])]).run prog w=.ok (.bool true) w:=by kernel_rfl
theorem assignable51(w:World):(ReflectliteType.relation "AssignableTo" ReflectliteType.assignableTo #[.agg #[ay 2 57],.iface 259 (.agg #[ay 2 133])]).run prog w=.ok (.bool false) w:=by kernel_rfl
def Jd:Array Value→Sem Value:=ReflectliteType.method fun t=>do Rtype.noPackHeld "Comparable" t;pure (.bool (←typeInfo t).comparable)
theorem comparable30(w:World):(Jd #[.agg #[ay 2 57]]).run prog w=.ok (.bool true) w:=by kernel_rfl
theorem noAs30(v:Value)(F:TypeId)(w:World):(uj (.iface 57 v) F 263 true).run prog w=.ok (.tuple #[.nilIface,.bool false]) w:=run_typeAssert_lacksB underlying263 (by kernel_rfl) (by kernel_rfl) v F w
theorem noUnwrap30(v:Value)(F:TypeId)(w:World):(uj (.iface 57 v) F 266 true).run prog w=.ok (.tuple #[.nilIface,.bool false]) w:=run_typeAssert_lacksB underlying266 (by kernel_rfl) (by kernel_rfl) v F w
theorem noUnwraps30(v:Value)(F:TypeId)(w:World):(uj (.iface 57 v) F 267 true).run prog w=.ok (.tuple #[.nilIface,.bool false]) w:=run_typeAssert_lacksB underlying267 (by kernel_rfl) (by kernel_rfl) v F w
theorem rlm(z:Sem Value)(f:TypeId->Addr->Nat->Nat->Sem Value)(v:Value):
  mR z f #[v]=(do match <-nI v with|none=>z|some (t,a,fl)=>f t a fl (fl % 32)):=rfl
theorem parts53(a:Addr)(w:World):(nI (.agg #[ay 2 135,.pointer (some a),uZ 150])).run prog w=.ok (some (135,a,150)) w:=by kernel_rfl
theorem parts57(a:Addr)(w:World):(nI (.agg #[ay 2 139,.pointer (some a),uZ 150])).run prog w=.ok (some (139,a,150)) w:=by kernel_rfl
theorem isNil53(a p:Addr)(W:World)(F:W.cell? a=some (.pointer (some p))):
  (mR (fA "reflectlite.Value.IsNil" 0) sQ #[.agg #[ay 2 135,.pointer (some a),uZ 150]]).run prog W=.ok (.bool false) W:=by
 rw[rlm];simp only[E8,parts53,Result.andThen];simp[sQ,loadVar,isAgg,underlying,underlying135,F,Result.andThen]
theorem isNil57(a p:Addr)(W:World)(F:W.cell? a=some (.pointer (some p))):
  (mR (fA "reflectlite.Value.IsNil" 0) sQ #[.agg #[ay 2 139,.pointer (some a),uZ 150]]).run prog W=.ok (.bool false) W:=by
 rw[rlm];simp only[E8,parts57,Result.andThen];simp[sQ,loadVar,isAgg,underlying,underlying139,F,Result.andThen]
theorem elemOf57(w:World):(Rtype.elem? 139).run prog w=.ok (some 57) w:=by kernel_rfl
theorem mk30(p:Addr)(w:World):(Kt 57 p Am).run prog w=.ok (.agg #[ay 2 57,.pointer (some p),uZ 386]) w:=by kernel_rfl
theorem elemV57(a p:Addr)(W:World)(F:W.cell? a=some (.pointer (some p))):
  (mR (fA "reflectlite.Value.Elem" 0) Aw #[.agg #[ay 2 139,.pointer (some a),uZ 150]]).run prog W
   =.ok (.agg #[ay 2 57,.pointer (some p),uZ 386]) W:=by
 rw[rlm];simp only[E8,parts57,Result.andThen];simp[Aw,loadVar,isAgg,underlying,underlying139,F,Result.andThen,elemOf57,mk30]
theorem rls(v x:Value):DT #[v,x]=(do
  let(some (dst,a,fl),some (src,b,_)):=(<-nI v,<-nI x)
   |unsupported (.noEntry "extern/(internal/reflectlite.Value).Set.zeroValue")
  if fl / Am % 2==0 then unsupported (.noEntry "extern/(internal/reflectlite.Value).Set.unaddressable")
  let val <-loadVar src b
  if <-Rtype.directlyAssignable dst src then storeVar dst a val
  else if <-Rtype.implements dst src then
   if(<-Rtype.kind src)==20 then
    match val with
    |.nilIface=>unsupported (.noEntry "extern/reflectlite: a nil value of one interface type handed on as a value of another")
    |_=>storeVar dst a val
   else storeVar dst a (.iface src val)
  else panicString ("reflectlite.Set: value of type "++(←Rtype.spelt src)++ " is not assignable to type "++(←Rtype.spelt dst))
  pure (.tuple #[])):=rfl
theorem parts30a(a:Addr)(w:World):(nI (.agg #[ay 2 57,.pointer (some a),uZ 386])).run prog w=.ok (some (57,a,386)) w:=by kernel_rfl
theorem parts30(a:Addr)(w:World):(nI (.agg #[ay 2 57,.pointer (some a),uZ 130])).run prog w=.ok (some (57,a,130)) w:=by kernel_rfl
theorem direct30(w:World):(Rtype.directlyAssignable 57 57).run prog w=.ok true w:=by kernel_rfl
theorem set30(F b:Addr)(x:Int)(G:Value)(W:World)(hb:W.cell? b=some (iZ x))(ht:W.cell? F=some G)(H:W.frozen? F=false):
  (DT #[.agg #[ay 2 57,.pointer (some F),uZ 386],.agg #[ay 2 57,.pointer (some b),uZ 130]]).run prog W
   =.ok (.tuple #[]) (W.setCell F (iZ x)):=by
 rw[rls];simp only[E8,parts30a,parts30,Result.andThen];simp[Am,loadVar,isAgg,underlying,underlying57,hb,Result.andThen,direct30,storeVar,Value.cells,storeCells,Addr.add];rw[run_store prog W F _ _ (by rfl)];simp[ht,H]
theorem eql7(w:World):(binOp .eql 94 (.iface 57 (iZ 7)) (.iface 57 (iZ 7))).run prog w=.ok (.bool true) w:=by kernel_rfl
def eF(w:World):Prop:=w.cell? (aj 0 0)=some (.iface 259 (.agg #[ay 2 94]))
theorem Vx(x:Int)(w:World)(H:∀w,(binOp .eql 94 (.iface 57 (iZ x)) (.iface 57 (iZ x))).run prog w=.ok (.bool true) w):
  Calls prog 71 #[.iface 57 (iZ x),.iface 57 (iZ x)] w fun e w'=>e=.returned (.bool true)/\w'=w:=by
 have F:=@run_callFunc_extern prog 121 _ ReflectliteType.typeOf func121 (by kernel_rfl) (by kernel_rfl) (by kernel_rfl) (by kernel_rfl);have G:=@run_callFunc_extern prog 381 _ Jd func381 (by kernel_rfl) (by kernel_rfl) (by kernel_rfl) (by kernel_rfl);have O:=typeOf30;have I:=comparable30;have K:=methodComparable;go_enter func71,ntmps71;go_wp2;refine wp_loop_rounds 1 ?_;rw[rounds_succ];go_wp2;go_ret;exact⟨rfl,rfl⟩
theorem Vy(x:Int)(t:Addr)(w:World)(F:eF w):
  Calls prog 70 #[.iface 57 (iZ x),.iface 135 (.pointer (some t))] w fun K w'=>K=.returned (.bool false)/\w'=(((w.alloc (.cells #[.pointer (some t)] 135)).alloc (.cells #[ay 2 135,ay w.heap.size 0,uZ 150] 217)).alloc (.cells #[ay 2 135,ay w.heap.size 0,uZ 150] 217)):=by
 unfold eF at F;have O:=@run_callFunc_extern prog 117 _ (fun args=>tL (args.getD 0 (.tuple #[]))) func117 (by kernel_rfl) (by kernel_rfl) (by kernel_rfl) (by kernel_rfl);have U:=@run_callFunc_extern prog 118 _ (tT (fA "reflectlite.Value.Type" 0) (fun t _ _ _=>ReflectliteType.toType t)) func118 (by kernel_rfl) (by kernel_rfl) (by kernel_rfl) (by kernel_rfl);have V:=@run_callFunc_extern prog 119 _ (mR (fA "reflectlite.Value.IsNil" 0) sQ) func119 (by kernel_rfl) (by kernel_rfl) (by kernel_rfl) (by kernel_rfl);have Z:=@run_callFunc_extern prog 364 _ (ReflectliteType.abiMethod fun t=>do pure (.int .u8 (<-Rtype.kind t))) func364 (by kernel_rfl) (by kernel_rfl) (by kernel_rfl) (by kernel_rfl);have Y8:=@run_callFunc_extern prog 382 _ (ReflectliteType.method ReflectliteType.elem) func382 (by kernel_rfl) (by kernel_rfl) (by kernel_rfl) (by kernel_rfl);have h6:=@run_callFunc_extern prog 383 _ (ReflectliteType.relation "Implements" ReflectliteType.implements_) func383 (by kernel_rfl) (by kernel_rfl) (by kernel_rfl) (by kernel_rfl);have X:=@run_callFunc_extern prog 121 _ ReflectliteType.typeOf func121 (by kernel_rfl) (by kernel_rfl) (by kernel_rfl) (by kernel_rfl);have h0:=@run_callFunc_extern prog 380 _ (ReflectliteType.relation "AssignableTo" ReflectliteType.assignableTo) func380 (by kernel_rfl) (by kernel_rfl) (by kernel_rfl) (by kernel_rfl);have tO:=typeOf30;have mA:=methodAssignableTo;have H:=assignable51;have f23:=valueOf53;have f24:=type53;have mK:=methodKind;have mE:=methodElem;have mI:=methodImplements;have h5:=kind53;have h4:=kind51;have I:=elem53;have h3:=implements51;have nA:=noAs30;have nU:=noUnwrap30;have nV:=noUnwraps30;have n25:=isNil53 (aj w.heap.size 0) t ((w.alloc (.cells #[.pointer (some t)] 135)).alloc (.cells #[ay 2 135,ay w.heap.size 0,uZ 150] 217)) (by simp);have G:0<w.heap.size:=Av _ _ F
 have h2:((w.alloc (.cells #[.pointer (some t)] 135)).alloc (.cells #[ay 2 135,ay w.heap.size 0,uZ 150] 217)).cell? (aj 0 0)=some (.iface 259 (.agg #[ay 2 94])):=by
  rw[fB _ _ (aj 0 0) (by simp),fB _ _ (aj 0 0) G];exact F
 go_enter func70,ntmps70;go_wp2;refine wp_loop_rounds 1 ?_;rw[rounds_succ];go_wp2;go_ret;exact⟨rfl,rfl⟩
theorem X9(x:Int)(t:Addr)(H:Value)(w:World)(K:eF w)(F:w.cell? t=some H)(I:w.frozen? t=false):
  Calls prog 70 #[.iface 57 (iZ x),.iface 139 (.pointer (some t))] w fun X w'=>X=.returned (.bool true)/\w'=((((w.alloc (.cells #[.pointer (some t)] 139)).alloc (.cells #[ay 2 139,ay w.heap.size 0,uZ 150] 217)).alloc (.cells #[ay 2 139,ay w.heap.size 0,uZ 150] 217)).alloc (.cells #[iZ x] 57)).setCell t (iZ x):=by
 unfold eF at K;have Z:=@run_callFunc_extern prog 117 _ (fun args=>tL (args.getD 0 (.tuple #[]))) func117 (by kernel_rfl) (by kernel_rfl) (by kernel_rfl) (by kernel_rfl);have h0:=@run_callFunc_extern prog 118 _ (tT (fA "reflectlite.Value.Type" 0) (fun t _ _ _=>ReflectliteType.toType t)) func118 (by kernel_rfl) (by kernel_rfl) (by kernel_rfl) (by kernel_rfl);have h2:=@run_callFunc_extern prog 119 _ (mR (fA "reflectlite.Value.IsNil" 0) sQ) func119 (by kernel_rfl) (by kernel_rfl) (by kernel_rfl) (by kernel_rfl);have h6:=@run_callFunc_extern prog 364 _ (ReflectliteType.abiMethod fun t=>do pure (.int .u8 (<-Rtype.kind t))) func364 (by kernel_rfl) (by kernel_rfl) (by kernel_rfl) (by kernel_rfl);have Y8:=@run_callFunc_extern prog 382 _ (ReflectliteType.method ReflectliteType.elem) func382 (by kernel_rfl) (by kernel_rfl) (by kernel_rfl) (by kernel_rfl);have he:=@run_callFunc_extern prog 383 _ (ReflectliteType.relation "Implements" ReflectliteType.implements_) func383 (by kernel_rfl) (by kernel_rfl) (by kernel_rfl) (by kernel_rfl);have h3:=@run_callFunc_extern prog 121 _ ReflectliteType.typeOf func121 (by kernel_rfl) (by kernel_rfl) (by kernel_rfl) (by kernel_rfl);have h7:=@run_callFunc_extern prog 380 _ (ReflectliteType.relation "AssignableTo" ReflectliteType.assignableTo) func380 (by kernel_rfl) (by kernel_rfl) (by kernel_rfl) (by kernel_rfl);have h4:=@run_callFunc_extern prog 165 _ (mR (fA "reflectlite.Value.Elem" 0) Aw) func165 (by kernel_rfl) (by kernel_rfl) (by kernel_rfl) (by kernel_rfl);have h5:=@run_callFunc_extern prog 166 _ DT func166 (by kernel_rfl) (by kernel_rfl) (by kernel_rfl) (by kernel_rfl);have tO:=typeOf30;have mA:=methodAssignableTo;have U:=assignable30;have hf:=valueOf30;have f23:=valueOf57;have f24:=type57;have mK:=methodKind;have mE:=methodElem;have mI:=methodImplements;have hc:=kind57;have ha:=kind30;have V:=elem57;have h9:=implements30;have n25:=isNil57 (aj w.heap.size 0) t ((w.alloc (.cells #[.pointer (some t)] 139)).alloc (.cells #[ay 2 139,ay w.heap.size 0,uZ 150] 217)) (by simp);have O:0<w.heap.size:=Av _ _ K
 have h8:((w.alloc (.cells #[.pointer (some t)] 139)).alloc (.cells #[ay 2 139,ay w.heap.size 0,uZ 150] 217)).cell? (aj 0 0)=some (.iface 259 (.agg #[ay 2 94])):=by
  rw[fB _ _ (aj 0 0) (by simp),fB _ _ (aj 0 0) O];exact K
 have G:t.block<w.heap.size:=Av _ _ F;have el:=elemV57 (aj w.heap.size 0) t (((w.alloc (.cells #[.pointer (some t)] 139)).alloc (.cells #[ay 2 139,ay w.heap.size 0,uZ 150] 217)).alloc (.cells #[ay 2 139,ay w.heap.size 0,uZ 150] 217)) (by rw[fB _ _ (aj w.heap.size 0) (by simp;omega)];simp)
 have st:=set30 t (aj (w.heap.size+1+1+1) 0) x H ((((w.alloc (.cells #[.pointer (some t)] 139)).alloc (.cells #[ay 2 139,ay w.heap.size 0,uZ 150] 217)).alloc (.cells #[ay 2 139,ay w.heap.size 0,uZ 150] 217)).alloc (.cells #[iZ x] 57))
  (by rw[World.cell?_alloc_at _ _ _ _ (by simp)];rfl)
  (by rw[fB _ _ t (by simp;omega),fB _ _ t (by simp;omega),fB _ _ t (by simp;omega),fB _ _ t G];exact F)
  (by rw[wz _ _ t (by simp;omega),wz _ _ t (by simp;omega),wz _ _ t (by simp;omega),wz _ _ t (Nat.ne_of_lt G)];exact I)
 go_enter func70,ntmps70;go_wp2;refine wp_loop_rounds 1 ?_;rw[rounds_succ];go_wp2;go_ret;exact⟨rfl,rfl⟩
theorem neqNil8(w:World):(binOp .eql 94 .nilIface (.iface 57 (iZ 8))).run prog w=.ok (.bool false) w:=by kernel_rfl
theorem neq78(w:World):(binOp .eql 94 (.iface 57 (iZ 7)) (.iface 57 (iZ 8))).run prog w=.ok (.bool false) w:=by kernel_rfl
theorem noIs57(v:Value)(F:TypeId)(w:World):(uj (.iface 57 v) F 270 true).run prog w=.ok (.tuple #[.nilIface,.bool false]) w:=run_typeAssert_lacksB underlying270 (by kernel_rfl) (by kernel_rfl) v F w
theorem noUn57(v:Value)(F:TypeId)(w:World):(uj (.iface 57 v) F 266 true).run prog w=.ok (.tuple #[.nilIface,.bool false]) w:=run_typeAssert_lacksB underlying266 (by kernel_rfl) (by kernel_rfl) v F w
theorem noUns57(v:Value)(F:TypeId)(w:World):(uj (.iface 57 v) F 267 true).run prog w=.ok (.tuple #[.nilIface,.bool false]) w:=run_typeAssert_lacksB underlying267 (by kernel_rfl) (by kernel_rfl) v F w
theorem Vz(w:World):Calls prog 71 #[.nilIface,.iface 57 (iZ 8)] w fun e w'=>e=.returned (.bool false)/\w'=w:=by
 have F:=neqNil8;go_enter func71,ntmps71;go_wp2;go_ret;exact⟨rfl,rfl⟩
theorem VA(w:World):Calls prog 71 #[.iface 57 (iZ 7),.iface 57 (iZ 8)] w fun e w'=>e=.returned (.bool false)/\w'=w:=by
 have F:=@run_callFunc_extern prog 121 _ ReflectliteType.typeOf func121 (by kernel_rfl) (by kernel_rfl) (by kernel_rfl) (by kernel_rfl);have G:=@run_callFunc_extern prog 381 _ Jd func381 (by kernel_rfl) (by kernel_rfl) (by kernel_rfl) (by kernel_rfl);have V:=typeOf30;have H:=comparable30;have I:=methodComparable;have nq:=neq78;have K:=noIs57;have O:=noUn57;have U:=noUns57;go_enter func71,ntmps71;go_wp2;refine wp_loop_rounds 1 ?_;rw[rounds_succ];go_wp2;go_ret;exact⟨rfl,rfl⟩
