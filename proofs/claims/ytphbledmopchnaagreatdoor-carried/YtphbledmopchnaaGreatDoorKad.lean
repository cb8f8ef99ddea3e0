import Derived.Test.YtphbledmopchnaaGreatDoorKab
open Go.RowKit.Below renaming refl->R3
open Go.Instr renaming typeAssert->Bu
open Nat renaming le_refl->M4
open Go.Extern.ReflectliteValue renaming valueError->jK,method->nI,parts->tL,isNil->tT,unpack->uj,methodAny->wz,flagAddr->Gl,elem->Kt,set->KG,mk->Vh
open Go.Sem renaming run_bind->Lb
open Go.World renaming cell?_alloc_lt->mR,block_lt_of_cell?->CK,frozen?_alloc_old->DJ
set_option maxHeartbeats 4000000
set_option maxRecDepth 100000
namespace Go.Proofs.YtphbledmopchnaaGreatDoor
open Go.RowKit Go.Extern.Stop Go.Stop Go.Extern Mm Tryz
theorem valueOf53(t:Addr)(w:World):(uj (.iface 135 (.pointer (some t)))).run prog w
  =.ok (.agg #[.pointer (some ⟨2,135,none⟩),.pointer (some ⟨w.heap.size,0,none⟩),.int .u64 150]) (w.alloc (.cells #[.pointer (some t)] 135)):=by kernel_rfl
theorem valueOf57(t:Addr)(w:World):(uj (.iface 139 (.pointer (some t)))).run prog w
  =.ok (.agg #[.pointer (some ⟨2,139,none⟩),.pointer (some ⟨w.heap.size,0,none⟩),.int .u64 150]) (w.alloc (.cells #[.pointer (some t)] 139)):=by kernel_rfl
theorem valueOf30(x:Int)(w:World):(uj (.iface 57 (.int .i64 x))).run prog w
  =.ok (.agg #[.pointer (some ⟨2,57,none⟩),.pointer (some ⟨w.heap.size,0,none⟩),.int .u64 130]) (w.alloc (.cells #[.int .i64 x] 57)):=by kernel_rfl
theorem type53(a:Addr)(w:World):(wz (jK "reflectlite.Value.Type" 0) (fun t _ _ _=>ReflectliteType.toType t) #[.agg #[.pointer (some ⟨2,135,none⟩),.pointer (some a),.int .u64 150]]).run prog w
  =.ok (.iface 259 (.agg #[.pointer (some ⟨2,135,none⟩)])) w:=by kernel_rfl
theorem type57(a:Addr)(w:World):(wz (jK "reflectlite.Value.Type" 0) (fun t _ _ _=>ReflectliteType.toType t) #[.agg #[.pointer (some ⟨2,139,none⟩),.pointer (some a),.int .u64 150]]).run prog w
  =.ok (.iface 259 (.agg #[.pointer (some ⟨2,139,none⟩)])) w:=by kernel_rfl
theorem methodKind(h:Value)(w:World):(Go.method 518 259 (.agg #[h]) "Kind").run prog w=.ok (364,h) w:=by kernel_rfl
theorem methodElem(h:Value)(w:World):(Go.method 518 259 (.agg #[h]) "Elem").run prog w=.ok (382,.agg #[h]) w:=by kernel_rfl
theorem methodImplements(h:Value)(w:World):(Go.method 518 259 (.agg #[h]) "Implements").run prog w=.ok (383,.agg #[h]) w:=by kernel_rfl
theorem methodAssignableTo(h:Value)(w:World):(Go.method 518 259 (.agg #[h]) "AssignableTo").run prog w=.ok (380,.agg #[h]) w:=by kernel_rfl
theorem methodComparable(h:Value)(w:World):(Go.method 518 259 (.agg #[h]) "Comparable").run prog w=.ok (381,.agg #[h]) w:=by kernel_rfl
theorem kind53(w:World):((ReflectliteType.abiMethod fun t=>Functor.map (fun a:Nat=>Value.int IntKind.u8 (a:Int)) (Rtype.kind t)) #[.pointer (some ⟨2,135,none⟩)]).run prog w=.ok (.int .u8 22) w:=by kernel_rfl
theorem kind51(w:World):((ReflectliteType.abiMethod fun t=>Functor.map (fun a:Nat=>Value.int IntKind.u8 (a:Int)) (Rtype.kind t)) #[.pointer (some ⟨2,133,none⟩)]).run prog w=.ok (.int .u8 22) w:=by kernel_rfl
theorem kind57(w:World):((ReflectliteType.abiMethod fun t=>Functor.map (fun a:Nat=>Value.int IntKind.u8 (a:Int)) (Rtype.kind t)) #[.pointer (some ⟨2,139,none⟩)]).run prog w=.ok (.int .u8 22) w:=by kernel_rfl
theorem kind30(w:World):((ReflectliteType.abiMethod fun t=>Functor.map (fun a:Nat=>Value.int IntKind.u8 (a:Int)) (Rtype.kind t)) #[.pointer (some ⟨2,57,none⟩)]).run prog w=.ok (.int .u8 2) w:=by kernel_rfl
theorem elem53(w:World):(ReflectliteType.method ReflectliteType.elem #[.agg #[.pointer (some ⟨2,135,none⟩)]]).run prog w=.ok (.iface 259 (.agg #[.pointer (some ⟨2,133,none⟩)])) w:=by kernel_rfl
theorem elem57(w:World):(ReflectliteType.method ReflectliteType.elem #[.agg #[.pointer (some ⟨2,139,none⟩)]]).run prog w=.ok (.iface 259 (.agg #[.pointer (some ⟨2,57,none⟩)])) w:=by kernel_rfl
theorem implements51(w:World):(ReflectliteType.relation "Implements" ReflectliteType.implements_ #[.agg #[.pointer (some ⟨2,133,none⟩)],.iface 259 (.agg #[.pointer (some ⟨2,94,none⟩)])]).run prog w=.ok (.bool true) w:=by kernel_rfl
theorem implements30(w:World):(ReflectliteType.relation "Implements" ReflectliteType.implements_ #[.agg #[.pointer (some ⟨2,57,none⟩)],.iface 259 (.agg #[.pointer (some ⟨2,94,none⟩)])]).run prog w=.ok (.bool true) w:=by kernel_rfl
theorem typeOf30(v:Value)(w:World):(ReflectliteType.typeOf #[.iface 57 v]).run prog w=.ok (.iface 259 (.agg #[.pointer (some ⟨2,57,none⟩)])) w:=by kernel_rfl
theorem assignable30(w:World):(ReflectliteType.relation "AssignableTo" ReflectliteType.assignableTo #[.agg #[.pointer (some ⟨2,57,none⟩)],.iface 259 (.agg #[.pointer (some ⟨2,57,none⟩)])]).run prog w=.ok (.bool true) w:=by kernel_rfl
theorem assignable51(w:World):(ReflectliteType.relation "AssignableTo" ReflectliteType.assignableTo #[.agg #[.pointer (some ⟨2,57,none⟩)],.iface 259 (.agg #[.pointer (some ⟨2,133,none⟩)])]).run prog w=.ok (.bool false) w:=by kernel_rfl
def G9:Array Value→Sem Value:=ReflectliteType.method fun t=>do Rtype.noPackHeld "Comparable" t;pure (.bool (←typeInfo t).comparable)
theorem comparable30(w:World):(G9 #[.agg #[.pointer (some ⟨2,57,none⟩)]]).run prog w=.ok (.bool true) w:=by kernel_rfl
theorem noAs30(v:Value)(F:TypeId)(w:World):(Bu (.iface 57 v) F 263 true).run prog w=.ok (.tuple #[.nilIface,.bool false]) w:=run_typeAssert_lacksB underlying263 (by kernel_rfl) (by kernel_rfl) v F w
theorem noUnwrap30(v:Value)(F:TypeId)(w:World):(Bu (.iface 57 v) F 266 true).run prog w=.ok (.tuple #[.nilIface,.bool false]) w:=run_typeAssert_lacksB underlying266 (by kernel_rfl) (by kernel_rfl) v F w
theorem noUnwraps30(v:Value)(F:TypeId)(w:World):(Bu (.iface 57 v) F 267 true).run prog w=.ok (.tuple #[.nilIface,.bool false]) w:=run_typeAssert_lacksB underlying267 (by kernel_rfl) (by kernel_rfl) v F w
theorem rlm(z:Sem Value)(f:TypeId->Addr->Nat->Nat->Sem Value)(v:Value):
  nI z f #[v]=(do match <-tL v with|none=>z|some (t,a,fl)=>f t a fl (fl % 32)):=rfl
theorem parts53(a:Addr)(w:World):(tL (.agg #[.pointer (some ⟨2,135,none⟩),.pointer (some a),.int .u64 150])).run prog w=.ok (some (135,a,150)) w:=by kernel_rfl
theorem parts57(a:Addr)(w:World):(tL (.agg #[.pointer (some ⟨2,139,none⟩),.pointer (some a),.int .u64 150])).run prog w=.ok (some (139,a,150)) w:=by kernel_rfl
theorem isNil53(a p:Addr)(W:World)(F:W.cell? a=some (.pointer (some p))):
  (nI (jK "reflectlite.Value.IsNil" 0) tT #[.agg #[.pointer (some ⟨2,135,none⟩),.pointer (some a),.int .u64 150]]).run prog W=.ok (.bool false) W:=by
 rw[rlm];simp only[Lb,parts53,Result.andThen];simp[tT,loadVar,isAgg,underlying,underlying135,F,Result.andThen]
theorem isNil57(a p:Addr)(W:World)(F:W.cell? a=some (.pointer (some p))):
  (nI (jK "reflectlite.Value.IsNil" 0) tT #[.agg #[.pointer (some ⟨2,139,none⟩),.pointer (some a),.int .u64 150]]).run prog W=.ok (.bool false) W:=by
 rw[rlm];simp only[Lb,parts57,Result.andThen];simp[tT,loadVar,isAgg,underlying,underlying139,F,Result.andThen]
theorem elemOf57(w:World):(Rtype.elem? 139).run prog w=.ok (some 57) w:=by kernel_rfl
theorem mk30(p:Addr)(w:World):(Vh 57 p Gl).run prog w=.ok (.agg #[.pointer (some ⟨2,57,none⟩),.pointer (some p),.int .u64 386]) w:=by kernel_rfl
theorem elemV57(a p:Addr)(W:World)(F:W.cell? a=some (.pointer (some p))):
  (nI (jK "reflectlite.Value.Elem" 0) Kt #[.agg #[.pointer (some ⟨2,139,none⟩),.pointer (some a),.int .u64 150]]).run prog W
   =.ok (.agg #[.pointer (some ⟨2,57,none⟩),.pointer (some p),.int .u64 386]) W:=by
 rw[rlm];simp only[Lb,parts57,Result.andThen];simp[Kt,loadVar,isAgg,underlying,underlying139,F,Result.andThen,elemOf57,mk30]
theorem rls(v x:Value):KG #[v,x]=(do
  let(some (dst,a,fl),some (src,b,_)):=(<-tL v,<-tL x)
   |unsupported (.noEntry "extern/(internal/reflectlite.Value).Set.zeroValue")
  if fl / Gl % 2==0 then unsupported (.noEntry "extern/(internal/reflectlite.Value).Set.unaddressable")
  let val <-loadVar src b
  if <-Rtype.directlyAssignable dst src then storeVar dst a val
  else if <-Rtype.implements dst src then
   if(<-Rtype.kind src)==20 then
    match val with
    |.nilIface=>unsupported (.noEntry "extern/reflectlite: a nil value of one interface type handed on as a value of another")
    |_=>storeVar dst a val
   else storeVar dst a (.iface src val)
  else panicString ("reflectlite.Set: value of type "++(←Rtype.spelt src)++ " is not assignable to type "++(←Rtype.spelt dst))
  pure (.tuple #[])):=rfl
theorem parts30a(a:Addr)(w:World):(tL (.agg #[.pointer (some ⟨2,57,none⟩),.pointer (some a),.int .u64 386])).run prog w=.ok (some (57,a,386)) w:=by kernel_rfl
theorem parts30(a:Addr)(w:World):(tL (.agg #[.pointer (some ⟨2,57,none⟩),.pointer (some a),.int .u64 130])).run prog w=.ok (some (57,a,130)) w:=by kernel_rfl
theorem direct30(w:World):(Rtype.directlyAssignable 57 57).run prog w=.ok true w:=by kernel_rfl
theorem set30(F b:Addr)(x:Int)(G:Value)(W:World)(hb:W.cell? b=some (.int .i64 x))(ht:W.cell? F=some G)(H:W.frozen? F=false):
  (KG #[.agg #[.pointer (some ⟨2,57,none⟩),.pointer (some F),.int .u64 386],.agg #[.pointer (some ⟨2,57,none⟩),.pointer (some b),.int .u64 130]]).run prog W
   =.ok (.tuple #[]) (W.setCell F (.int .i64 x)):=by
 rw[rls];simp only[Lb,parts30a,parts30,Result.andThen];simp[Gl,loadVar,isAgg,underlying,underlying57,hb,Result.andThen,direct30,storeVar,Value.cells,storeCells,Addr.add];rw[run_store prog W F _ _ (by rfl)];simp[ht,H]
theorem eql7(w:World):(binOp .eql 94 (.iface 57 (.int .i64 7)) (.iface 57 (.int .i64 7))).run prog w=.ok (.bool true) w:=by kernel_rfl
def dP(w:World):Prop:=w.cell? ⟨0,0,none⟩=some (.iface 259 (.agg #[.pointer (some ⟨2,94,none⟩)]))
theorem TV(x:Int)(w:World)(H:∀w,(binOp .eql 94 (.iface 57 (.int .i64 x)) (.iface 57 (.int .i64 x))).run prog w=.ok (.bool true) w):
  Calls prog 71 #[.iface 57 (.int .i64 x),.iface 57 (.int .i64 x)] w fun e w'=>e=.returned (.bool true)/\w'=w:=by
 have F:=@run_callFunc_extern prog 121 _ ReflectliteType.typeOf func121 (by kernel_rfl) (by kernel_rfl) (by kernel_rfl) (by kernel_rfl);have G:=@run_callFunc_extern prog 381 _ G9 func381 (by kernel_rfl) (by kernel_rfl) (by kernel_rfl) (by kernel_rfl);have U:=typeOf30;have I:=comparable30;have O:=methodComparable;go_enter func71,ntmps71;go_wp2;refine wp_loop_rounds 1 ?_;rw[rounds_succ];go_wp2;go_ret;exact⟨rfl,rfl⟩
theorem TW(x:Int)(t:Addr)(w:World)(F:dP w):
  Calls prog 70 #[.iface 57 (.int .i64 x),.iface 135 (.pointer (some t))] w fun O w'=>O=.returned (.bool false)/\w'=(((w.alloc (.cells #[.pointer (some t)] 135)).alloc (.cells #[.pointer (some ⟨2,135,none⟩),.pointer (some ⟨w.heap.size,0,none⟩),.int .u64 150] 217)).alloc (.cells #[.pointer (some ⟨2,135,none⟩),.pointer (some ⟨w.heap.size,0,none⟩),.int .u64 150] 217)):=by
 unfold dP at F;have U:=@run_callFunc_extern prog 117 _ (fun args=>uj (args.getD 0 (.tuple #[]))) func117 (by kernel_rfl) (by kernel_rfl) (by kernel_rfl) (by kernel_rfl);have V:=@run_callFunc_extern prog 118 _ (wz (jK "reflectlite.Value.Type" 0) (fun t _ _ _=>ReflectliteType.toType t)) func118 (by kernel_rfl) (by kernel_rfl) (by kernel_rfl) (by kernel_rfl);have X:=@run_callFunc_extern prog 119 _ (nI (jK "reflectlite.Value.IsNil" 0) tT) func119 (by kernel_rfl) (by kernel_rfl) (by kernel_rfl) (by kernel_rfl);have h0:=@run_callFunc_extern prog 364 _ (ReflectliteType.abiMethod fun t=>do pure (.int .u8 (<-Rtype.kind t))) func364 (by kernel_rfl) (by kernel_rfl) (by kernel_rfl) (by kernel_rfl);have Ya:=@run_callFunc_extern prog 382 _ (ReflectliteType.method ReflectliteType.elem) func382 (by kernel_rfl) (by kernel_rfl) (by kernel_rfl) (by kernel_rfl);have Zm:=@run_callFunc_extern prog 383 _ (ReflectliteType.relation "Implements" ReflectliteType.implements_) func383 (by kernel_rfl) (by kernel_rfl) (by kernel_rfl) (by kernel_rfl);have Z:=@run_callFunc_extern prog 121 _ ReflectliteType.typeOf func121 (by kernel_rfl) (by kernel_rfl) (by kernel_rfl) (by kernel_rfl);have h2:=@run_callFunc_extern prog 380 _ (ReflectliteType.relation "AssignableTo" ReflectliteType.assignableTo) func380 (by kernel_rfl) (by kernel_rfl) (by kernel_rfl) (by kernel_rfl);have tO:=typeOf30;have mA:=methodAssignableTo;have H:=assignable51;have f23:=valueOf53;have f24:=type53;have mK:=methodKind;have mE:=methodElem;have mI:=methodImplements;have h6:=kind53;have h5:=kind51;have I:=elem53;have h4:=implements51;have nA:=noAs30;have nU:=noUnwrap30;have nV:=noUnwraps30;have n25:=isNil53 ⟨w.heap.size,0,none⟩ t ((w.alloc (.cells #[.pointer (some t)] 135)).alloc (.cells #[.pointer (some ⟨2,135,none⟩),.pointer (some ⟨w.heap.size,0,none⟩),.int .u64 150] 217)) (by simp);have G:0<w.heap.size:=CK _ _ F
 have h3:((w.alloc (.cells #[.pointer (some t)] 135)).alloc (.cells #[.pointer (some ⟨2,135,none⟩),.pointer (some ⟨w.heap.size,0,none⟩),.int .u64 150] 217)).cell? ⟨0,0,none⟩=some (.iface 259 (.agg #[.pointer (some ⟨2,94,none⟩)])):=by
  rw[mR _ _ ⟨0,0,none⟩ (by simp),mR _ _ ⟨0,0,none⟩ G];exact F
 go_enter func70,ntmps70;go_wp2;refine wp_loop_rounds 1 ?_;rw[rounds_succ];go_wp2;go_ret;exact⟨rfl,rfl⟩
theorem WS(x:Int)(t:Addr)(H:Value)(w:World)(O:dP w)(F:w.cell? t=some H)(I:w.frozen? t=false):
  Calls prog 70 #[.iface 57 (.int .i64 x),.iface 139 (.pointer (some t))] w fun Z w'=>Z=.returned (.bool true)/\w'=((((w.alloc (.cells #[.pointer (some t)] 139)).alloc (.cells #[.pointer (some ⟨2,139,none⟩),.pointer (some ⟨w.heap.size,0,none⟩),.int .u64 150] 217)).alloc (.cells #[.pointer (some ⟨2,139,none⟩),.pointer (some ⟨w.heap.size,0,none⟩),.int .u64 150] 217)).alloc (.cells #[.int .i64 x] 57)).setCell t (.int .i64 x):=by
 unfold dP at O;have h0:=@run_callFunc_extern prog 117 _ (fun args=>uj (args.getD 0 (.tuple #[]))) func117 (by kernel_rfl) (by kernel_rfl) (by kernel_rfl) (by kernel_rfl);have h2:=@run_callFunc_extern prog 118 _ (wz (jK "reflectlite.Value.Type" 0) (fun t _ _ _=>ReflectliteType.toType t)) func118 (by kernel_rfl) (by kernel_rfl) (by kernel_rfl) (by kernel_rfl);have h3:=@run_callFunc_extern prog 119 _ (nI (jK "reflectlite.Value.IsNil" 0) tT) func119 (by kernel_rfl) (by kernel_rfl) (by kernel_rfl) (by kernel_rfl);have h7:=@run_callFunc_extern prog 364 _ (ReflectliteType.abiMethod fun t=>do pure (.int .u8 (<-Rtype.kind t))) func364 (by kernel_rfl) (by kernel_rfl) (by kernel_rfl) (by kernel_rfl);have Ya:=@run_callFunc_extern prog 382 _ (ReflectliteType.method ReflectliteType.elem) func382 (by kernel_rfl) (by kernel_rfl) (by kernel_rfl) (by kernel_rfl);have Zm:=@run_callFunc_extern prog 383 _ (ReflectliteType.relation "Implements" ReflectliteType.implements_) func383 (by kernel_rfl) (by kernel_rfl) (by kernel_rfl) (by kernel_rfl);have h4:=@run_callFunc_extern prog 121 _ ReflectliteType.typeOf func121 (by kernel_rfl) (by kernel_rfl) (by kernel_rfl) (by kernel_rfl);have h8:=@run_callFunc_extern prog 380 _ (ReflectliteType.relation "AssignableTo" ReflectliteType.assignableTo) func380 (by kernel_rfl) (by kernel_rfl) (by kernel_rfl) (by kernel_rfl);have h5:=@run_callFunc_extern prog 165 _ (nI (jK "reflectlite.Value.Elem" 0) Kt) func165 (by kernel_rfl) (by kernel_rfl) (by kernel_rfl) (by kernel_rfl);have h6:=@run_callFunc_extern prog 166 _ KG func166 (by kernel_rfl) (by kernel_rfl) (by kernel_rfl) (by kernel_rfl);have tO:=typeOf30;have mA:=methodAssignableTo;have V:=assignable30;have hf:=valueOf30;have f23:=valueOf57;have f24:=type57;have mK:=methodKind;have mE:=methodElem;have mI:=methodImplements;have he:=kind57;have hc:=kind30;have X:=elem57;have ha:=implements30;have n25:=isNil57 ⟨w.heap.size,0,none⟩ t ((w.alloc (.cells #[.pointer (some t)] 139)).alloc (.cells #[.pointer (some ⟨2,139,none⟩),.pointer (some ⟨w.heap.size,0,none⟩),.int .u64 150] 217)) (by simp);have U:0<w.heap.size:=CK _ _ O
 have h9:((w.alloc (.cells #[.pointer (some t)] 139)).alloc (.cells #[.pointer (some ⟨2,139,none⟩),.pointer (some ⟨w.heap.size,0,none⟩),.int .u64 150] 217)).cell? ⟨0,0,none⟩=some (.iface 259 (.agg #[.pointer (some ⟨2,94,none⟩)])):=by
  rw[mR _ _ ⟨0,0,none⟩ (by simp),mR _ _ ⟨0,0,none⟩ U];exact O
 have G:t.block<w.heap.size:=CK _ _ F;have el:=elemV57 ⟨w.heap.size,0,none⟩ t (((w.alloc (.cells #[.pointer (some t)] 139)).alloc (.cells #[.pointer (some ⟨2,139,none⟩),.pointer (some ⟨w.heap.size,0,none⟩),.int .u64 150] 217)).alloc (.cells #[.pointer (some ⟨2,139,none⟩),.pointer (some ⟨w.heap.size,0,none⟩),.int .u64 150] 217)) (by rw[mR _ _ ⟨w.heap.size,0,none⟩ (by simp;omega)];simp)
 have st:=set30 t ⟨w.heap.size+1+1+1,0,none⟩ x H ((((w.alloc (.cells #[.pointer (some t)] 139)).alloc (.cells #[.pointer (some ⟨2,139,none⟩),.pointer (some ⟨w.heap.size,0,none⟩),.int .u64 150] 217)).alloc (.cells #[.pointer (some ⟨2,139,none⟩),.pointer (some ⟨w.heap.size,0,none⟩),.int .u64 150] 217)).alloc (.cells #[.int .i64 x] 57))
  (by rw[World.cell?_alloc_at _ _ _ _ (by simp)];rfl)
  (by rw[mR _ _ t (by simp;omega),mR _ _ t (by simp;omega),mR _ _ t (by simp;omega),mR _ _ t G];exact F)
  (by rw[DJ _ _ t (by simp;omega),DJ _ _ t (by simp;omega),DJ _ _ t (by simp;omega),DJ _ _ t (Nat.ne_of_lt G)];exact I)
 go_enter func70,ntmps70;go_wp2;refine wp_loop_rounds 1 ?_;rw[rounds_succ];go_wp2;go_ret;exact⟨rfl,rfl⟩
end Go.Proofs.YtphbledmopchnaaGreatDoor
namespace Go.Proofs.YtphbledmopchnaaGreatDoor
open Go.RowKit Go.Lib Go.Shelf Mm Tryz
theorem rV(w:World):Calls prog 42 #[.nilIface] w fun e w'=>e=.returned (.tuple #[.int .i64 0,.int .i64 (-1)])/\Below w.heap.size w w':=by
 go_enter func42,ntmps42;go_wp2;go_ret2;exact⟨rfl,((R3 _ w).alloc (M4 _) _).alloc (by simp) _⟩
theorem mF(x:Int)(h5:∀w,(binOp .eql 94 (.iface 57 (.int .i64 x)) (.iface 57 (.int .i64 x))).run prog w=.ok (.bool true) w)(w:World)(hg:dP w):
  Calls prog 42 #[.iface 57 (.int .i64 x)] w fun e w'=>e=.returned (.tuple #[.int .i64 x,.int .i64 (-1)])/\Below w.heap.size w w':=by
 obtain⟨F,I⟩:∃F,F=(w.alloc (.cells #[.pointer none] 133)).alloc (.cells #[.int .i64 0] 57):=⟨_,rfl⟩
 have hs:F.heap.size=w.heap.size+2:=by rw[I];simp
 have hb:Below w.heap.size w F:=by rw[I];exact((R3 _ w).alloc (M4 _) _).alloc (by simp) _
 have h0:0<w.heap.size:=CK _ _ hg;have Z:dP F:=cell_of hg (hb.block 0 h0)
 have hB:ak F (w.heap.size+1) 57 [.int .i64 0]:=by rw[I];have:=ak.new (w.alloc (.cells #[.pointer none] 133)) 57 [.int .i64 0];simpa using this
 have HM:=hid (TW x ⟨w.heap.size,0,none⟩ F Z);obtain⟨H,U⟩:∃H,H=(((F.alloc (.cells #[.pointer (some ⟨w.heap.size,0,none⟩)] 135)).alloc (.cells #[.pointer (some ⟨2,135,none⟩),.pointer (some ⟨F.heap.size,0,none⟩),.int .u64 150] 217)).alloc (.cells #[.pointer (some ⟨2,135,none⟩),.pointer (some ⟨F.heap.size,0,none⟩),.int .u64 150] 217)):=⟨_,rfl⟩
 have G:Below F.heap.size F H:=by rw[U];exact(((R3 _ F).alloc (M4 _) _).alloc (by simp) _).alloc (by simp;omega) _
 have O:ak H (w.heap.size+1) 57 [.int .i64 0]:=hB.of_heap (G.block _ (by omega));have h3:dP H:=cell_of Z (G.block 0 (by omega));have HH:=hid (WS x ⟨w.heap.size+1,0,none⟩ (.int .i64 0) H h3 (O.cell 0) (O.frozen 0));have HI:=hid (fun w=>TV x w h5);obtain⟨W3,V⟩:∃W3,W3=((((H.alloc (.cells #[.pointer (some ⟨w.heap.size+1,0,none⟩)] 139)).alloc (.cells #[.pointer (some ⟨2,139,none⟩),.pointer (some ⟨H.heap.size,0,none⟩),.int .u64 150] 217)).alloc (.cells #[.pointer (some ⟨2,139,none⟩),.pointer (some ⟨H.heap.size,0,none⟩),.int .u64 150] 217)).alloc (.cells #[.int .i64 x] 57)):=⟨_,rfl⟩
 have X:Below H.heap.size H W3:=by rw[V];exact((((R3 _ H).alloc (M4 _) _).alloc (by simp) _).alloc (by simp;omega) _).alloc (by simp;omega) _
 have h2:ak W3 (w.heap.size+1) 57 [.int .i64 0]:=O.of_heap (X.block _ (by have:=G.size;omega));have k1:(W3.setCell ⟨w.heap.size+1,0,none⟩ (.int .i64 x)).cell? ⟨w.heap.size+1,0,none⟩=some (.int .i64 x):=World.cell?_setCell_same' _ _ _ (by rw[h2.cell 0];rfl);have HF:Hid (Below w.heap.size w (W3.setCell ⟨w.heap.size+1,0,none⟩ (.int .i64 x))):=(((hb.trans (G.mono (by omega))).trans (X.mono (by have:=G.size;omega))).setCell (p:=⟨w.heap.size+1,0,none⟩) (by simp) _);rw[<-U]at HM;rw[<-V]at HH;have h4:=hid I;clear I U V hs hb hg Z hB G O h3 X h2;go_enter func42,ntmps42
 go_wp2_with fail
 rw[<-h4.out];refine HM.out.mono ?_;rintro e w2 ⟨rfl,h6⟩;subst h6
 go_wp2_with fail
 refine HH.out.mono ?_;rintro e w3 ⟨rfl,h7⟩;subst h7
 go_wp2_with fail
 refine(HI.out _).mono ?_;rintro e w4 ⟨rfl,h8⟩;subst h8;go_wp2;go_ret2;exact⟨rfl,HF.out⟩
theorem um(v:Value)(x at_:Int)(w:World)(P:World->Prop)(h:Calls prog 42 #[v] w fun e w'=>e=.returned (.tuple #[.int .i64 x,.int .i64 at_])/\P w'):
  Calls prog 60 #[v] w fun e w'=>e=.returned (.int .i64 x)/\P w':=by
 have H:=hid h;clear h;go_enter func60,ntmps60
 go_wp2_with fail
 refine H.out.mono ?_;rintro e I ⟨rfl,F⟩;have G:=hid F;clear F;go_wp2;go_ret;exact⟨rfl,G.out⟩
end Go.Proofs.YtphbledmopchnaaGreatDoor
namespace Go.Proofs.YtphbledmopchnaaGreatDoor
open Go.RowKit Go.Extern.Stop Go.Stop Go.Extern Mm Tryz
theorem neqNil8(w:World):(binOp .eql 94 .nilIface (.iface 57 (.int .i64 8))).run prog w=.ok (.bool false) w:=by kernel_rfl
theorem neq78(w:World):(binOp .eql 94 (.iface 57 (.int .i64 7)) (.iface 57 (.int .i64 8))).run prog w=.ok (.bool false) w:=by kernel_rfl
theorem noIs57(v:Value)(F:TypeId)(w:World):(Bu (.iface 57 v) F 270 true).run prog w=.ok (.tuple #[.nilIface,.bool false]) w:=run_typeAssert_lacksB underlying270 (by kernel_rfl) (by kernel_rfl) v F w
theorem noUn57(v:Value)(F:TypeId)(w:World):(Bu (.iface 57 v) F 266 true).run prog w=.ok (.tuple #[.nilIface,.bool false]) w:=run_typeAssert_lacksB underlying266 (by kernel_rfl) (by kernel_rfl) v F w
theorem noUns57(v:Value)(F:TypeId)(w:World):(Bu (.iface 57 v) F 267 true).run prog w=.ok (.tuple #[.nilIface,.bool false]) w:=run_typeAssert_lacksB underlying267 (by kernel_rfl) (by kernel_rfl) v F w
theorem TY(w:World):Calls prog 71 #[.nilIface,.iface 57 (.int .i64 8)] w fun e w'=>e=.returned (.bool false)/\w'=w:=by
 have F:=neqNil8;go_enter func71,ntmps71;go_wp2;go_ret;exact⟨rfl,rfl⟩
theorem T9(w:World):Calls prog 71 #[.iface 57 (.int .i64 7),.iface 57 (.int .i64 8)] w fun e w'=>e=.returned (.bool false)/\w'=w:=by
 have F:=@run_callFunc_extern prog 121 _ ReflectliteType.typeOf func121 (by kernel_rfl) (by kernel_rfl) (by kernel_rfl) (by kernel_rfl);have G:=@run_callFunc_extern prog 381 _ G9 func381 (by kernel_rfl) (by kernel_rfl) (by kernel_rfl) (by kernel_rfl);have X:=typeOf30;have H:=comparable30;have I:=methodComparable;have nq:=neq78;have O:=noIs57;have U:=noUn57;have V:=noUns57;go_enter func71,ntmps71;go_wp2;refine wp_loop_rounds 1 ?_;rw[rounds_succ];go_wp2;go_ret;exact⟨rfl,rfl⟩
end Go.Proofs.YtphbledmopchnaaGreatDoor
