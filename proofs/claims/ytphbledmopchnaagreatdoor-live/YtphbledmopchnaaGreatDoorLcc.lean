import Derived.Test.YtphbledmopchnaaGreatDoorLca
import Derived.Deep.CutRange
import Derived.Deep.RegionWith
import Derived.Defers
import Derived.Recover
open Go.RowKit.Below renaming refl->qy
open Go.Instr renaming typeAssert->nA
open List renaming getD_eq_getElem?_getD->qx,drop_left'->rX,append_assoc->tK
open Nat renaming zero_le->mE,not_lt_zero->mR,le_refl->nU
open Go.Extern.ReflectliteValue renaming valueError->eB,method->j3,parts->lg,isNil->mI,unpack->mK,methodAny->mY,flagAddr->nV,elem->og,set->o8,mk->tL
open Go.Sem renaming run_bind->qA
open Go.World renaming cell?_alloc_lt->eT,block_lt_of_cell?->nI,frozen?_alloc_old->nP
set_option maxHeartbeats 4000000
set_option maxRecDepth 100000
namespace Go.Proofs.YtphbledmopchnaaGreatDoor
open Go.RowKit Go.Extern.Stop Go.Stop Go.Extern Mm Tryz
theorem valueOf53(t:Addr)(w:World):(mK (.iface 135 (.pointer (some t)))).run prog w
  =.ok (.agg #[aI 2 135,aI w.heap.size 0,uZ 150]) (w.alloc (.cells #[.pointer (some t)] 135)):=bH
theorem valueOf57(t:Addr)(w:World):(mK (.iface 139 (.pointer (some t)))).run prog w
  =.ok (.agg #[aI 2 139,aI w.heap.size 0,uZ 150]) (w.alloc (.cells #[.pointer (some t)] 139)):=bH
theorem valueOf30(x:Int)(w:World):(mK (.iface 57 (iZ x))).run prog w
  =.ok (.agg #[aI 2 57,aI w.heap.size 0,uZ 130]) (w.alloc (.cells #[iZ x] 57)):=bH
theorem type53(a:Addr)(w:World):(mY (eB "reflectlite.Value.Type" 0) (fun t _ _ _=>ReflectliteType.toType t) #[.agg #[aI 2 135,.pointer (some a),uZ 150]]).run prog w
  =.ok (.iface 259 (.agg #[aI 2 135])) w:=bH
theorem type57(a:Addr)(w:World):(mY (eB "reflectlite.Value.Type" 0) (fun t _ _ _=>ReflectliteType.toType t) #[.agg #[aI 2 139,.pointer (some a),uZ 150]]).run prog w
  =.ok (.iface 259 (.agg #[aI 2 139])) w:=bH
theorem methodKind(h:Value)(w:World):(Go.method 518 259 (.agg #[h]) "Kind").run prog w=.ok (364,h) w:=bH
theorem methodElem(h:Value)(w:World):(Go.method 518 259 (.agg #[h]) "Elem").run prog w=.ok (382,.agg #[h]) w:=bH
theorem methodImplements(h:Value)(w:World):(Go.method 518 259 (.agg #[h]) "Implements").run prog w=.ok (383,.agg #[h]) w:=bH
theorem methodAssignableTo(h:Value)(w:World):(Go.method 518 259 (.agg #[h]) "AssignableTo").run prog w=.ok (380,.agg #[h]) w:=bH
theorem methodComparable(h:Value)(w:World):(Go.method 518 259 (.agg #[h]) "Comparable").run prog w=.ok (381,.agg #[h]) w:=bH
theorem kind53(w:World):((ReflectliteType.abiMethod fun t=>Functor.map (fun a:Nat=>Value.int IntKind.u8 (a:Int)) (Rtype.kind t)) #[aI 2 135]).run prog w=.ok (.int .u8 22) w:=bH
theorem kind51(w:World):((ReflectliteType.abiMethod fun t=>Functor.map (fun a:Nat=>Value.int IntKind.u8 (a:Int)) (Rtype.kind t)) #[aI 2 133]).run prog w=.ok (.int .u8 22) w:=bH
theorem kind57(w:World):((ReflectliteType.abiMethod fun t=>Functor.map (fun a:Nat=>Value.int IntKind.u8 (a:Int)) (Rtype.kind t)) #[aI 2 139]).run prog w=.ok (.int .u8 22) w:=bH
theorem kind30(w:World):((ReflectliteType.abiMethod fun t=>Functor.map (fun a:Nat=>Value.int IntKind.u8 (a:Int)) (Rtype.kind t)) #[aI 2 57]).run prog w=.ok (.int .u8 2) w:=bH
theorem elem53(w:World):(ReflectliteType.method ReflectliteType.elem #[.agg #[aI 2 135]]).run prog w=.ok (.iface 259 (.agg #[aI 2 133])) w:=bH
theorem elem57(w:World):(ReflectliteType.method ReflectliteType.elem #[.agg #[aI 2 139]]).run prog w=.ok (.iface 259 (.agg #[aI 2 57])) w:=bH
theorem implements51(w:World):(ReflectliteType.relation "Implements" ReflectliteType.implements_ #[.agg #[aI 2 133],.iface 259 (.agg #[aI 2 94])]).run prog w=.ok (.bool true) w:=bH
theorem implements30(w:World):(ReflectliteType.relation "Implements" ReflectliteType.implements_ #[.agg #[aI 2 57],.iface 259 (.agg #[aI 2 94])]).run prog w=.ok (.bool true) w:=bH
theorem typeOf30(v:Value)(w:World):(ReflectliteType.typeOf #[.iface 57 v]).run prog w=.ok (.iface 259 (.agg #[aI 2 57])) w:=bH
theorem assignable30(w:World):(ReflectliteType.relation "AssignableTo" ReflectliteType.assignableTo #[.agg #[aI 2 57],.iface 259 (.agg #[aI 2 57])]).run prog w=.ok (.bool true) w:=bH
theorem assignable51(w:World):(ReflectliteType.relation "AssignableTo" ReflectliteType.assignableTo #[.agg #[aI 2 57],.iface 259 (.agg #[aI 2 133])]).run prog w=.ok (.bool false) w:=bH
def MU:Array Value→Sem Value:=ReflectliteType.method fun t=>do Rtype.noPackHeld "Comparable" t;pure (.bool (←typeInfo t).comparable)
theorem comparable30(w:World):(MU #[.agg #[aI 2 57]]).run prog w=.ok (.bool true) w:=bH
theorem noAs30(v:Value)(a:TypeId)(w:World):(nA (.iface 57 v) a 263 true).run prog w=.ok (.tuple #[.nilIface,.bool false]) w:=run_typeAssert_lacksB underlying263 bH bH v a w
theorem noUnwrap30(v:Value)(a:TypeId)(w:World):(nA (.iface 57 v) a 266 true).run prog w=.ok (.tuple #[.nilIface,.bool false]) w:=run_typeAssert_lacksB underlying266 bH bH v a w
theorem noUnwraps30(v:Value)(a:TypeId)(w:World):(nA (.iface 57 v) a 267 true).run prog w=.ok (.tuple #[.nilIface,.bool false]) w:=run_typeAssert_lacksB underlying267 bH bH v a w
theorem rlm(z:Sem Value)(f:TypeId->Addr->Nat->Nat->Sem Value)(v:Value):j3 z f #[v]=(do match <-lg v with|none=>z|some (t,a,fl)=>f t a fl (fl % 32)):=rfl
theorem parts53(a:Addr)(w:World):(lg (.agg #[aI 2 135,.pointer (some a),uZ 150])).run prog w=.ok (some (135,a,150)) w:=bH
theorem parts57(a:Addr)(w:World):(lg (.agg #[aI 2 139,.pointer (some a),uZ 150])).run prog w=.ok (some (139,a,150)) w:=bH
theorem isNil53(a p:Addr)(W:World)(b:W.cell? a=some (.pointer (some p))):(j3 (eB "reflectlite.Value.IsNil" 0) mI #[.agg #[aI 2 135,.pointer (some a),uZ 150]]).run prog W=.ok (.bool false) W:=by rw[rlm];simp only[qA,parts53,Result.andThen];simp[mI,loadVar,isAgg,underlying,underlying135,b,Result.andThen]
theorem isNil57(a p:Addr)(W:World)(b:W.cell? a=some (.pointer (some p))):(j3 (eB "reflectlite.Value.IsNil" 0) mI #[.agg #[aI 2 139,.pointer (some a),uZ 150]]).run prog W=.ok (.bool false) W:=by rw[rlm];simp only[qA,parts57,Result.andThen];simp[mI,loadVar,isAgg,underlying,underlying139,b,Result.andThen]
theorem elemOf57(w:World):(Rtype.elem? 139).run prog w=.ok (some 57) w:=bH
theorem mk30(p:Addr)(w:World):(tL 57 p nV).run prog w=.ok (.agg #[aI 2 57,.pointer (some p),uZ 386]) w:=bH
theorem elemV57(a p:Addr)(W:World)(b:W.cell? a=some (.pointer (some p))):(j3 (eB "reflectlite.Value.Elem" 0) og #[.agg #[aI 2 139,.pointer (some a),uZ 150]]).run prog W
   =.ok (.agg #[aI 2 57,.pointer (some p),uZ 386]) W:=by
 rw[rlm];simp only[qA,parts57,Result.andThen];simp[og,loadVar,isAgg,underlying,underlying139,b,Result.andThen,elemOf57,mk30]
theorem rls(v x:Value):o8 #[v,x]=(do
  let(some (dst,a,fl),some (src,b,_)):=(<-lg v,<-lg x)
   |unsupported (.noEntry "extern/(internal/reflectlite.Value).Set.zeroValue")
  if fl / nV % 2==0 then unsupported (.noEntry "extern/(internal/reflectlite.Value).Set.unaddressable")
  let val <-loadVar src b
  if <-Rtype.directlyAssignable dst src then storeVar dst a val
  else if <-Rtype.implements dst src then
   if(<-Rtype.kind src)==20 then
    match val with
    |.nilIface=>unsupported (.noEntry "extern/reflectlite: a nil value of one interface type handed on as a value of another")
    |_=>storeVar dst a val
   else storeVar dst a (.iface src val)
  else panicString ("reflectlite.Set: value of type "++(←Rtype.spelt src)++ " is not assignable to type "++(←Rtype.spelt dst))
  pure (.tuple #[])):=rfl
theorem parts30a(a:Addr)(w:World):(lg (.agg #[aI 2 57,.pointer (some a),uZ 386])).run prog w=.ok (some (57,a,386)) w:=bH
theorem parts30(a:Addr)(w:World):(lg (.agg #[aI 2 57,.pointer (some a),uZ 130])).run prog w=.ok (some (57,a,130)) w:=bH
theorem direct30(w:World):(Rtype.directlyAssignable 57 57).run prog w=.ok true w:=bH
theorem set30(a b:Addr)(x:Int)(c:Value)(W:World)(hb:W.cell? b=some (iZ x))(ht:W.cell? a=some c)(d:W.frozen? a=false):(o8 #[.agg #[aI 2 57,.pointer (some a),uZ 386],.agg #[aI 2 57,.pointer (some b),uZ 130]]).run prog W
   =.ok (.tuple #[]) (W.setCell a (iZ x)):=by
 rw[rls];simp only[qA,parts30a,parts30,Result.andThen];simp[nV,loadVar,isAgg,underlying,underlying57,hb,Result.andThen,direct30,storeVar,Value.cells,storeCells,Addr.add];rw[run_store prog W a _ _ (by rfl)];simp[ht,d]
theorem eql7(w:World):(binOp .eql 94 (.iface 57 (iZ 7)) (.iface 57 (iZ 7))).run prog w=.ok (.bool true) w:=bH
def iE(w:World):Prop:=w.cell? (aB 0 0)=some (.iface 259 (.agg #[aI 2 94]))
theorem YZ(x:Int)(w:World)(c:∀w,(binOp .eql 94 (.iface 57 (iZ x)) (.iface 57 (iZ x))).run prog w=.ok (.bool true) w):Calls prog 71 #[.iface 57 (iZ x),.iface 57 (iZ x)] w fun e w'=>e=.returned (.bool true)/\w'=w:=by have a:=@run_callFunc_extern prog 121 _ ReflectliteType.typeOf func121 bH bH bH bH;have b:=@run_callFunc_extern prog 381 _ MU func381 bH bH bH bH;have g:=typeOf30;have d:=comparable30;have f:=methodComparable;go_enter func71,ntmps71;go_wp2;refine wp_loop_rounds 1 ?_;rw[rounds_succ];go_wp2;go_ret;exact⟨rfl,rfl⟩
theorem Y0(x:Int)(t:Addr)(w:World)(a:iE w):Calls prog 70 #[.iface 57 (iZ x),.iface 135 (.pointer (some t))] w fun e w'=>e=.returned (.bool false)/\w'=(((w.alloc (.cells #[.pointer (some t)] 135)).alloc (.cells #[aI 2 135,aI w.heap.size 0,uZ 150] 217)).alloc (.cells #[aI 2 135,aI w.heap.size 0,uZ 150] 217)):=by
 unfold iE at a;have f:=@run_callFunc_extern prog 117 _ (fun args=>mK (args.getD 0 (.tuple #[]))) func117 bH bH bH bH;have g:=@run_callFunc_extern prog 118 _ (mY (eB "reflectlite.Value.Type" 0) (fun t _ _ _=>ReflectliteType.toType t)) func118 bH bH bH bH;have h:=@run_callFunc_extern prog 119 _ (j3 (eB "reflectlite.Value.IsNil" 0) mI) func119 bH bH bH bH;have j:=@run_callFunc_extern prog 364 _ (ReflectliteType.abiMethod fun t=>do pure (.int .u8 (<-Rtype.kind t))) func364 bH bH bH bH;have p:=@run_callFunc_extern prog 382 _ (ReflectliteType.method ReflectliteType.elem) func382 bH bH bH bH;have q:=@run_callFunc_extern prog 383 _ (ReflectliteType.relation "Implements" ReflectliteType.implements_) func383 bH bH bH bH;have i:=@run_callFunc_extern prog 121 _ ReflectliteType.typeOf func121 bH bH bH bH;have k:=@run_callFunc_extern prog 380 _ (ReflectliteType.relation "AssignableTo" ReflectliteType.assignableTo) func380 bH bH bH bH;have B:=typeOf30;have r:=methodAssignableTo;have c:=assignable51;have f23:=valueOf53;have f24:=type53;have v:=methodKind;have s:=methodElem;have u:=methodImplements;have o:=kind53;have n:=kind51;have d:=elem53;have m:=implements51;have y:=noAs30;have z:=noUnwrap30;have A:=noUnwraps30;have n25:=isNil53 (aB w.heap.size 0) t ((w.alloc (.cells #[.pointer (some t)] 135)).alloc (.cells #[aI 2 135,aI w.heap.size 0,uZ 150] 217)) aP;have b:0<w.heap.size:=nI _ _ a;have l:((w.alloc (.cells #[.pointer (some t)] 135)).alloc (.cells #[aI 2 135,aI w.heap.size 0,uZ 150] 217)).cell? (aB 0 0)=some (.iface 259 (.agg #[aI 2 94])):=by rw[eT _ _ (aB 0 0) aP,eT _ _ (aB 0 0) b];exact a
 go_enter func70,ntmps70;go_wp2;refine wp_loop_rounds 1 ?_;rw[rounds_succ];go_wp2;go_ret;exact⟨rfl,rfl⟩
theorem qbu(x:Int)(t:Addr)(c:Value)(w:World)(e:iE w)(a:w.cell? t=some c)(d:w.frozen? t=false):Calls prog 70 #[.iface 57 (iZ x),.iface 139 (.pointer (some t))] w fun i w'=>i=.returned (.bool true)/\w'=((((w.alloc (.cells #[.pointer (some t)] 139)).alloc (.cells #[aI 2 139,aI w.heap.size 0,uZ 150] 217)).alloc (.cells #[aI 2 139,aI w.heap.size 0,uZ 150] 217)).alloc (.cells #[iZ x] 57)).setCell t (iZ x):=by
 unfold iE at e;have j:=@run_callFunc_extern prog 117 _ (fun args=>mK (args.getD 0 (.tuple #[]))) func117 bH bH bH bH;have k:=@run_callFunc_extern prog 118 _ (mY (eB "reflectlite.Value.Type" 0) (fun t _ _ _=>ReflectliteType.toType t)) func118 bH bH bH bH;have l:=@run_callFunc_extern prog 119 _ (j3 (eB "reflectlite.Value.IsNil" 0) mI) func119 bH bH bH bH;have p:=@run_callFunc_extern prog 364 _ (ReflectliteType.abiMethod fun t=>do pure (.int .u8 (<-Rtype.kind t))) func364 bH bH bH bH;have y:=@run_callFunc_extern prog 382 _ (ReflectliteType.method ReflectliteType.elem) func382 bH bH bH bH;have z:=@run_callFunc_extern prog 383 _ (ReflectliteType.relation "Implements" ReflectliteType.implements_) func383 bH bH bH bH;have m:=@run_callFunc_extern prog 121 _ ReflectliteType.typeOf func121 bH bH bH bH;have q:=@run_callFunc_extern prog 380 _ (ReflectliteType.relation "AssignableTo" ReflectliteType.assignableTo) func380 bH bH bH bH;have n:=@run_callFunc_extern prog 165 _ (j3 (eB "reflectlite.Value.Elem" 0) og) func165 bH bH bH bH;have o:=@run_callFunc_extern prog 166 _ o8 func166 bH bH bH bH;have F:=typeOf30;have B:=methodAssignableTo;have g:=assignable30;have A:=valueOf30;have f23:=valueOf57;have f24:=type57;have E:=methodKind;have C:=methodElem;have D:=methodImplements;have v:=kind57;have u:=kind30;have h:=elem57;have s:=implements30;have n25:=isNil57 (aB w.heap.size 0) t ((w.alloc (.cells #[.pointer (some t)] 139)).alloc (.cells #[aI 2 139,aI w.heap.size 0,uZ 150] 217)) aP;have f:0<w.heap.size:=nI _ _ e;have r:((w.alloc (.cells #[.pointer (some t)] 139)).alloc (.cells #[aI 2 139,aI w.heap.size 0,uZ 150] 217)).cell? (aB 0 0)=some (.iface 259 (.agg #[aI 2 94])):=by rw[eT _ _ (aB 0 0) aP,eT _ _ (aB 0 0) f];exact e
 have b:t.block<w.heap.size:=nI _ _ a;have el:=elemV57 (aB w.heap.size 0) t (((w.alloc (.cells #[.pointer (some t)] 139)).alloc (.cells #[aI 2 139,aI w.heap.size 0,uZ 150] 217)).alloc (.cells #[aI 2 139,aI w.heap.size 0,uZ 150] 217)) (by rw[eT _ _ (aB w.heap.size 0) (by simp;omega)];simp);have st:=set30 t (aB (w.heap.size+1+1+1) 0) x c ((((w.alloc (.cells #[.pointer (some t)] 139)).alloc (.cells #[aI 2 139,aI w.heap.size 0,uZ 150] 217)).alloc (.cells #[aI 2 139,aI w.heap.size 0,uZ 150] 217)).alloc (.cells #[iZ x] 57))
  (by rw[World.cell?_alloc_at _ _ _ _ aP];rfl)
  (by rw[eT _ _ t (by simp;omega),eT _ _ t (by simp;omega),eT _ _ t (by simp;omega),eT _ _ t b];exact a)
  (by rw[nP _ _ t (by simp;omega),nP _ _ t (by simp;omega),nP _ _ t (by simp;omega),nP _ _ t (Nat.ne_of_lt b)];exact d)
 go_enter func70,ntmps70;go_wp2;refine wp_loop_rounds 1 ?_;rw[rounds_succ];go_wp2;go_ret;exact⟨rfl,rfl⟩
end Go.Proofs.YtphbledmopchnaaGreatDoor
namespace Go.Proofs.YtphbledmopchnaaGreatDoor
open Go.RowKit Go.Lib Go.Shelf Mm Tryz
theorem xX(w:World):Calls prog 42 #[.nilIface] w fun e w'=>e=.returned (.tuple #[iZ 0,(iZ (-1))])/\bJ w w':=by go_enter func42,ntmps42;go_wp2;go_ret2;exact⟨rfl,((qy _ w).alloc (nU _) _).alloc aP _⟩
theorem rH(x:Int)(o:∀w,(binOp .eql 94 (.iface 57 (iZ x)) (.iface 57 (iZ x))).run prog w=.ok (.bool true) w)(w:World)(q:iE w):Calls prog 42 #[.iface 57 (iZ x)] w fun e w'=>e=.returned (.tuple #[iZ x,(iZ (-1))])/\bJ w w':=by
 obtain⟨c,b⟩:=bZ ((w.alloc (.cells #[.pointer none] 133)).alloc (.cells #[iZ 0] 57));have hs:c.heap.size=w.heap.size+2:=by rw[b];simp
 have hb:bJ w c:=by rw[b];exact((qy _ w).alloc (nU _) _).alloc aP _
 have A:0<w.heap.size:=nI _ _ q;have j:iE c:=cell_of q (hb.block 0 A);have hB:aS c (w.heap.size+1) 57 [iZ 0]:=by rw[b];have:=aS.new (w.alloc (.cells #[.pointer none] 133)) 57 [iZ 0];simpa using this
 have v:=aG (Y0 x (aB w.heap.size 0) c j);obtain⟨d,g⟩:=bZ ((((c.alloc (.cells #[aI w.heap.size 0] 135)).alloc (.cells #[aI 2 135,aI c.heap.size 0,uZ 150] 217)).alloc (.cells #[aI 2 135,aI c.heap.size 0,uZ 150] 217)));have a:bJ c d:=by rw[g];exact(((qy _ c).alloc (nU _) _).alloc aP _).alloc (by simp;omega) _
 have f:aS d (w.heap.size+1) 57 [iZ 0]:=hB.of_heap (a.block _ aj);have l:iE d:=cell_of j (a.block 0 aj);have u:=aG (qbu x (aB (w.heap.size+1) 0) (iZ 0) d l (f.cell 0) (f.frozen 0));have z:=aG (fun w=>YZ x w o);obtain⟨m,h⟩:=bZ (((((d.alloc (.cells #[(aI (w.heap.size+1) 0)] 139)).alloc (.cells #[aI 2 139,aI d.heap.size 0,uZ 150] 217)).alloc (.cells #[aI 2 139,aI d.heap.size 0,uZ 150] 217)).alloc (.cells #[iZ x] 57)));have i:bJ d m:=by rw[h];exact((((qy _ d).alloc (nU _) _).alloc aP _).alloc (by simp;omega) _).alloc (by simp;omega) _
 have k:aS m (w.heap.size+1) 57 [iZ 0]:=f.of_heap (i.block _ (bV a.size));have k1:(m.setCell (aB (w.heap.size+1) 0) (iZ x)).cell? (aB (w.heap.size+1) 0)=some (iZ x):=World.cell?_setCell_same' _ _ _ (by rw[k.cell 0];rfl);have y:Hid (bJ w (m.setCell (aB (w.heap.size+1) 0) (iZ x))):=(((hb.trans (a.mono aj)).trans (i.mono (bV a.size))).setCell (p:=(aB (w.heap.size+1) 0)) aP _);rw[<-g]at v;rw[<-h]at u;have n:=aG b;clear b g h hs hb q j hB a f l i k;go_enter func42,ntmps42;go_wp2_with fail;rw[<-n.out];refine bN v.out ?_;rintro B r;subst r;go_wp2_with fail;refine bN u.out ?_;rintro C s;subst s;go_wp2_with fail;refine bN (z.out _) ?_;rintro D t;subst t;go_wp2;go_ret2;exact⟨rfl,y.out⟩
theorem zx(v:Value)(x at_:Int)(w:World)(P:World->Prop)(h:Calls prog 42 #[v] w fun e w'=>e=.returned (.tuple #[iZ x,iZ at_])/\P w'):Calls prog 60 #[v] w fun e w'=>e=.returned (iZ x)/\P w':=by have H:=aG h;clear h;go_enter func60,ntmps60;go_wp2_with fail;refine bN H.out ?_;rintro c a;have b:=aG a;clear a;go_wp2;go_ret;exact⟨rfl,b.out⟩
theorem Own.mono{A B:Nat}{v:Value}(h:Own B v)(a:A<=B):Own A v:=fun k b=>Nat.le_trans a (h k b)
theorem Mf(f:Fr)(a:Option Addr)(n c:Nat):∀v∈iL f (.slice a n c),v.oneCell'=true:=by intro v b;simp[iL]at b;rcases b with h|h|h|h|h|h|h|h|h|h<;>subst h<;>rfl
def Ye(w:World)(fa:Option Addr)(fs:List Fr)(ra:Nat->Option Addr)(rc:Nat->Nat):Prop:=
 ∀j,j<fs.length->∃b off,fa=some (aB b off)/\nX w b (off+j*10) (fs.getD j iM) (ra j) (rc j)
theorem mg.weak{w:World}{fa:Option Addr}{fs:List Fr}{ra:Nat->Option Addr}{rc:Nat->Nat}(h:mg w fa fs ra rc):Ye w fa fs ra rc:=fun j c=>by obtain⟨b,off,a,h1,_⟩:=h j c;exact⟨b,off,a,h1⟩
def DV(k:Int):Fr:=⟨k,0,0,0,0,false,0,0,⟨#[]⟩,[]⟩
def norm(f:Fr):Fr:=Cj f (dJ f.aC) (dJ f.aC).length (DV f.aC)
theorem oF{f:Fr}(h:snd f=true):f.aC=1\/f.aC=2\/f.aC=3\/f.aC=4\/f.aC=5\/f.aC=6\/f.aC=7\/f.aC=8:=by obtain⟨_,h1,a,_⟩:=qU f h;omega
theorem norm_eq(f:Fr)(h:snd f=true):norm f=
  (if f.aC=1 then DV 1 else if f.aC=2 then{DV 2 with ranges:=f.ranges}else if f.aC=3 then{DV 3 with aH:=f.aH,aD:=f.aD,aV:=f.aV}else if f.aC=4 then{DV 4 with bn:=f.bn,aH:=f.aH,aD:=f.aD,data:=f.data}
  else if f.aC=5 then{DV 5 with aL:=f.aL}else if f.aC=6 then{DV 6 with aH:=f.aH,aL:=f.aL}else if f.aC=7 then{DV 7 with id:=f.id,aW:=f.aW,data:=f.data}else{DV 8 with aL:=f.aL}):=by
 unfold norm;rcases oF h with e|e|e|e|e|e|e|e<;>rw[e]<;>rfl
theorem lS(f:Fr)(h:snd f=true):(norm f).aC=f.aC:=by rw[norm_eq f h];rcases oF h with e|e|e|e|e|e|e|e<;>rw[e]<;>rfl
theorem Cn(f:Fr)(h:snd f=true):snd (norm f)=true:=by
 obtain⟨⟨s0,s8,n0,n1,n2,n3,n4⟩,_,_,a⟩:=qU f h;rw[norm_eq f h];unfold l7 at a;rcases oF h with e|e|e|e|e|e|e|e;·rw[e];rfl
 ·rw[e]at a ⊢;simp only[show((2:Int)=1)=False by decide,if_true,if_false]at a ⊢;unfold snd pQ l7;simp[DV,a]
 ·rw[e]at a ⊢;simp only[show((3:Int)=1)=False by decide,show((3:Int)=2)=False by decide,if_true,if_false]at a ⊢;unfold snd pQ l7;simp[DV,s0,s8,n0,n1];exact of_decide_eq_true a
 ·rw[e]at a ⊢;simp only[show((4:Int)=1)=False by decide,show((4:Int)=2)=False by decide,show((4:Int)=3)=False by decide,if_true,if_false]at a ⊢;unfold snd pQ l7;simp[DV,s0,s8,n0];exact of_decide_eq_true a
 ·rw[e];simp only[show((5:Int)=1)=False by decide,show((5:Int)=2)=False by decide,show((5:Int)=3)=False by decide,show((5:Int)=4)=False by decide,if_true,if_false];unfold snd pQ l7;simp[DV,n2]
 ·rw[e];simp only[show((6:Int)=1)=False by decide,show((6:Int)=2)=False by decide,show((6:Int)=3)=False by decide,show((6:Int)=4)=False by decide,show((6:Int)=5)=False by decide,if_true,if_false];unfold snd pQ l7;simp[DV,n2,s0,s8]
 ·rw[e];simp only[show((7:Int)=1)=False by decide,show((7:Int)=2)=False by decide,show((7:Int)=3)=False by decide,show((7:Int)=4)=False by decide,show((7:Int)=5)=False by decide,show((7:Int)=6)=False by decide,if_true,if_false];unfold snd pQ l7;simp[DV,n3,n4]
 ·rw[e];simp only[show((8:Int)=1)=False by decide,show((8:Int)=2)=False by decide,show((8:Int)=3)=False by decide,show((8:Int)=4)=False by decide,show((8:Int)=5)=False by decide,show((8:Int)=6)=False by decide,show((8:Int)=7)=False by decide,if_false];unfold snd pQ l7;simp[DV,n2]
theorem Ml(f:Fr)(h:snd f=true):bD (norm f)=bD f:=by unfold bD;rw[lS f h,norm_eq f h];rcases oF h with e|e|e|e|e|e|e|e<;>rw[e]<;>rfl
theorem Oo(f:Fr)(h:snd f=true)(ok:lM f):lM (norm f):=by
 obtain⟨c,b,k0,s0,⟨u1,u2,u3,u4,u5⟩,r0⟩:=ok;rw[norm_eq f h];have z:(0:Nat)<18446744073709551616:=iO;rcases oF h with e|e|e|e|e|e|e|e<;>rw[e]
 ·show lM ⟨1,0,0,0,0,false,0,0,⟨#[]⟩,[]⟩;exact⟨mE _,mE _,⟨(by decide:(-9223372036854775808:Int)<=1),(by decide:(1:Int)<=9223372036854775807)⟩,⟨(by decide:(-9223372036854775808:Int)<=0),(by decide:(0:Int)<=9223372036854775807)⟩,⟨z,z,z,z,z⟩,fun j a=>absurd a (mR _)⟩
 ·show lM ⟨2,0,0,0,0,false,0,0,⟨#[]⟩,f.ranges⟩;exact⟨c,mE _,⟨(by decide:(-9223372036854775808:Int)<=2),(by decide:(2:Int)<=9223372036854775807)⟩,⟨(by decide:(-9223372036854775808:Int)<=0),(by decide:(0:Int)<=9223372036854775807)⟩,⟨z,z,z,z,z⟩,r0⟩
 ·show lM ⟨3,f.aH,f.aD,f.aV,0,false,0,0,⟨#[]⟩,[]⟩;exact⟨mE _,mE _,⟨(by decide:(-9223372036854775808:Int)<=3),(by decide:(3:Int)<=9223372036854775807)⟩,s0,⟨u1,u2,z,z,z⟩,fun j a=>absurd a (mR _)⟩
 ·show lM ⟨4,f.aH,f.aD,0,0,f.bn,0,0,f.data,[]⟩;exact⟨mE _,b,⟨(by decide:(-9223372036854775808:Int)<=4),(by decide:(4:Int)<=9223372036854775807)⟩,s0,⟨u1,z,z,z,z⟩,fun j a=>absurd a (mR _)⟩
 ·show lM ⟨5,0,0,0,f.aL,false,0,0,⟨#[]⟩,[]⟩;exact⟨mE _,mE _,⟨(by decide:(-9223372036854775808:Int)<=5),(by decide:(5:Int)<=9223372036854775807)⟩,⟨(by decide:(-9223372036854775808:Int)<=0),(by decide:(0:Int)<=9223372036854775807)⟩,⟨z,z,u3,z,z⟩,fun j a=>absurd a (mR _)⟩
 ·show lM ⟨6,f.aH,0,0,f.aL,false,0,0,⟨#[]⟩,[]⟩;exact⟨mE _,mE _,⟨(by decide:(-9223372036854775808:Int)<=6),(by decide:(6:Int)<=9223372036854775807)⟩,s0,⟨z,z,u3,z,z⟩,fun j a=>absurd a (mR _)⟩
 ·show lM ⟨7,0,0,0,0,false,f.id,f.aW,f.data,[]⟩;exact⟨mE _,b,⟨(by decide:(-9223372036854775808:Int)<=7),(by decide:(7:Int)<=9223372036854775807)⟩,⟨(by decide:(-9223372036854775808:Int)<=0),(by decide:(0:Int)<=9223372036854775807)⟩,⟨z,z,z,u4,u5⟩,fun j a=>absurd a (mR _)⟩
 ·show lM ⟨8,0,0,0,f.aL,false,0,0,⟨#[]⟩,[]⟩;exact⟨mE _,mE _,⟨(by decide:(-9223372036854775808:Int)<=8),(by decide:(8:Int)<=9223372036854775807)⟩,⟨(by decide:(-9223372036854775808:Int)<=0),(by decide:(0:Int)<=9223372036854775807)⟩,⟨z,z,u3,z,z⟩,fun j a=>absurd a (mR _)⟩
theorem Uu(w:World):Calls prog 215 #[.int .u8 1] w fun e w'=>e=.returned (iZ 1)/\w'=w:=by go_enter func215,ntmps215;go_wp2;go_ret;exact⟨rfl,rfl⟩
theorem Uv(w:World):Calls prog 215 #[.int .u8 2] w fun e w'=>e=.returned (iZ 2)/\w'=w:=by go_enter func215,ntmps215;go_wp2;go_ret;exact⟨rfl,rfl⟩
theorem Ql(w:World):Calls prog 215 #[.int .u8 36] w fun e w'=>e=.returned (iZ 3)/\w'=w:=by go_enter func215,ntmps215;go_wp2;go_ret;exact⟨rfl,rfl⟩
theorem Uw(w:World):Calls prog 215 #[.int .u8 8] w fun e w'=>e=.returned (iZ 4)/\w'=w:=by go_enter func215,ntmps215;go_wp2;go_ret;exact⟨rfl,rfl⟩
theorem Ux(w:World):Calls prog 215 #[.int .u8 9] w fun e w'=>e=.returned (iZ 4)/\w'=w:=by go_enter func215,ntmps215;go_wp2;go_ret;exact⟨rfl,rfl⟩
theorem Qm(w:World):Calls prog 215 #[.int .u8 16] w fun e w'=>e=.returned (iZ 5)/\w'=w:=by go_enter func215,ntmps215;go_wp2;go_ret;exact⟨rfl,rfl⟩
theorem Qn(w:World):Calls prog 215 #[.int .u8 17] w fun e w'=>e=.returned (iZ 6)/\w'=w:=by go_enter func215,ntmps215;go_wp2;go_ret;exact⟨rfl,rfl⟩
theorem Qo(w:World):Calls prog 215 #[.int .u8 48] w fun e w'=>e=.returned (iZ 7)/\w'=w:=by go_enter func215,ntmps215;go_wp2;go_ret;exact⟨rfl,rfl⟩
theorem Qp(w:World):Calls prog 215 #[.int .u8 28] w fun e w'=>e=.returned (iZ 8)/\w'=w:=by go_enter func215,ntmps215;go_wp2;go_ret;exact⟨rfl,rfl⟩
theorem Co(f:Fr)(h:snd f=true):∃x t,bD f=x::t/\∀w,Calls prog 215 #[.int .u8 ((x.toNat:Nat):Int)] w fun e w'=>e=.returned (iZ f.aC)/\w'=w:=by
 have hd:∀(l:List (List UInt8)) n,eF l (n+1)=l.getD 0 []++gP l (n+1) 1:=fun l n=>by have:=tY l (n+1) 0 aj;rw[oC]at this;exact this
 unfold bD;rcases oF h with e|e|e|e|e|e|e|e<;>rw[e]
 ·exact⟨1,[],rfl,Uu⟩
 ·exact⟨2,_,hd _ 1,Uv⟩
 ·exact⟨36,_,hd _ 3,Ql⟩
 ·cases b:f.bn
  ·refine⟨8,gP ((dJ 4).map (dH f)) 4 1,?_,Uw⟩;have:=hd ((dJ 4).map (dH f)) 3;have a:((dJ 4).map (dH f)).getD 0 []=[8]:=by
    show dH f (1,0)=[8];unfold dH;rw[b];rfl
   rw[a]at this;exact this
  ·refine⟨9,gP ((dJ 4).map (dH f)) 4 1,?_,Ux⟩;have:=hd ((dJ 4).map (dH f)) 3;have a:((dJ 4).map (dH f)).getD 0 []=[9]:=by
    show dH f (1,0)=[9];unfold dH;rw[b];rfl
   rw[a]at this;exact this
 ·exact⟨16,_,hd _ 1,Qm⟩
 ·exact⟨17,_,hd _ 2,Qn⟩
 ·exact⟨48,_,hd _ 3,Qo⟩
 ·exact⟨28,_,hd _ 1,Qp⟩
structure PK (w:World) (yb yo cap:Nat) (body:List UInt8) (n:Nat) (fs:List Fr) (wr:World) (v9:Nat->Value) (k:Nat) (s:Value) (p bg:Nat):Prop where
 box:aS wr w.heap.size 56 [uZ n,s]
 err:aS wr (w.heap.size+1) 94 [.nilIface]
 rd:gZ wr (w.heap.size+2) yb yo cap body p bg
 cp:xq (w.heap.size+3) wr s fs v9 k
 gQ:w.heap.size+3<=wr.heap.size
 bel:Below w.heap.size w wr
 yl:yb<w.heap.size
theorem PK.frame{w:World}{yb yo cap:Nat}{body:List UInt8}{n:Nat}{fs:List Fr}{wr y:World}{v9:Nat->Value}{k:Nat}{s:Value}{p bg f d:Nat}(h:PK w yb yo cap body n fs wr v9 k s p bg)(c:uQ wr.heap.size (w.heap.size+2) (w.heap.size+2) wr y)(l:gZ y (w.heap.size+2) yb yo cap body f d):PK w yb yo cap body n fs y v9 k s f d:=by
 have gQ:=h.gQ;have a:∀b,b<wr.heap.size->b≠w.heap.size+2->y.heap[b]?=wr.heap[b]?:=fun b h1 e=>c.block b h1 e e;refine⟨h.box.of_heap (a _ aj aj),h.err.of_heap (a _ aj aj),l,⟨h.cp.buf.of_heap (fun b hb=>a b (h.cp.buf.lt b hb) (bV (h.cp.own b hb))),h.cp.own,fun j m=>?_⟩,bV c.size,?_,h.yl⟩;·obtain⟨g,i,o⟩:=h.cp.rT j m;exact⟨g.of_heap (fun b hb=>a b (g.lt b hb) (bV (i b hb))),i,o⟩
 ·exact h.bel.trans ⟨c.os,c.tape,c.output,c.size,fun b hb=>a b aj aj⟩
theorem PK.app{w:World}{yb yo cap:Nat}{body:List UInt8}{n:Nat}{fs:List Fr}{y:World}{v9:Nat->Value}{k:Nat}{s:Value}{p bg:Nat}(h:PK w yb yo cap body n fs y v9 k s p bg)(S:k<fs.length)(hl:fs.length<=1000000000)(F:Fr)(hF:fs.getD k iM=F)(ra:Option Addr)(rc:Nat)(z:eX 170 2 y (.slice ra F.ranges.length rc) F.ranges.length (bQ F.ranges))(G:Own (w.heap.size+3) (.slice ra F.ranges.length rc))(r:∀b,(Value.slice ra F.ranges.length rc).ownBlock=some b->s.ownBlock≠some b):∃o c' d,(∀Q,(Builtin.append_ #[54,54] Q #[s,dP y.heap.size 1 1]).run prog (y.alloc (.cells #[iZ F.aC,iZ F.aH,uZ F.aD,uZ F.aV,uZ F.aL,.bool F.bn,uZ F.id,uZ F.aW,.string F.data,.slice ra F.ranges.length rc] 65))=.ok (.slice o (k+1) c') d)/\aS d w.heap.size 56 [uZ n,s]/\PK w yb yo cap body n fs (d.setCell (aB w.heap.size 1) (.slice o (k+1) c')) (fun j=>if j=k then .slice ra F.ranges.length rc else v9 j) (k+1) (.slice o (k+1) c') p bg:=by
 have gQ:=h.gQ;have A:=h.yl;obtain⟨i,v⟩:=bZ (y.alloc (.cells #[iZ F.aC,iZ F.aH,uZ F.aD,uZ F.aV,uZ F.aL,.bool F.bn,uZ F.id,uZ F.aW,.string F.data,.slice ra F.ranges.length rc] 65));have M:i.heap.size=y.heap.size+1:=by rw[v];simp
 have c:Below y.heap.size y i:=by rw[v];exact(qy _ _).alloc (nU _) _
 have x:aS i y.heap.size 65 (iL F (.slice ra F.ranges.length rc)):=by rw[v];exact aS.new y 65 _
 rw[<-v];have B:eX 65 10 i s k (pI fs v9 k):=h.cp.buf.of_heap (fun b hb=>c.block b (h.cp.buf.lt b hb));obtain⟨R,d,t,D,m⟩:=iQ Gc B (aB y.heap.size 0) 1 1 (iL F (.slice ra F.ranges.length rc)) (by simp[iL]) aj (Mf F _ _ _) (fun j u O=>by rw[Addr.add_lit,Nat.zero_add,x.cell];exact O) aj;obtain⟨o,c',P,_⟩:=D.shape;subst P;have l:Below (w.heap.size+3) i d:=m.below h.cp.own aj;have q:=m.own h.cp.own aj;have g:∀b,b<w.heap.size+3->d.heap[b]?=y.heap[b]?:=fun b hb=>by rw[l.block b hb,c.block b aj]
 have E:=h.box.of_heap (g w.heap.size aj);have a:∀b,b≠w.heap.size->(d.setCell (aB w.heap.size 1) (.slice o (k+1) c')).heap[b]?=d.heap[b]?:=fun b hb=>Below.heap_setCell _ _ _ _ hb;have N:=l.size;refine⟨o,c',d,t,E,⟨E.setCell 1 _,h.err.of_heap (by rw[a _ aj,g _ aj]),h.rd.of (by rw[a _ aj,g _ aj]) (by rw[a _ aj,g _ aj]),⟨?_,q,fun j L=>?_⟩,by simp;omega,?_,A⟩⟩
 ·have e:pI fs (fun j=>if j=k then .slice ra F.ranges.length rc else v9 j) (k+1)=pI fs v9 k++iL F (.slice ra F.ranges.length rc):=by
   rw[pI,hF,zS fs _ v9 k (fun j L=>by rw[aU aj]),bK rfl]
  rw[e];exact D.of_heap (fun b hb=>a b (bV (q b hb)))
 ·by_cases e:j=k
  ·subst e;simp only[if_true];rw[hF];refine⟨z.of_heap (fun b hb=>?_),G,fun b hb f=>?_⟩;·have:=G b hb;have:=z.lt b hb;rw[a b aj,m.1.block b aj (fun e=>r b hb e.symm),c.block b this]
   ·have:=z.lt b hb;rcases m.2 b f with f|f;·exact r b hb f
    ·omega
  ·simp only[aU e];obtain⟨C,H,I⟩:=h.cp.rT j aj;refine⟨C.of_heap (fun b hb=>?_),H,fun b hb f=>?_⟩;·have:=H b hb;have:=C.lt b hb;rw[a b aj,m.1.block b aj (fun e=>I b hb e.symm),c.block b this]
   ·have:=C.lt b hb;rcases m.2 b f with f|f;·exact I b hb f
    ·omega
 ·have J:Below w.heap.size y i:=c.mono aj;have K:Below w.heap.size i d:=l.mono aj;exact h.bel.trans ((J.trans K).setCell (p:=(aB w.heap.size 1)) (nU _) _)
theorem pX(n:Nat)(fs:List Fr)(k:Nat):∀N,k<=N->∃s,fV n fs N=fV n fs k++s
 |0,h=>⟨[],by obtain rfl:k=0:=aj;simp⟩
 |N+1,h=>by
  by_cases e:k=N+1;·exact⟨[],by rw[e];simp⟩
  ·obtain⟨s,hs⟩:=pX n fs k N aj;exact⟨s++_,by rw[fV,hs,tK]⟩
def g_(n:Nat)(fs:List Fr)(N k:Nat):List UInt8:=(fV n fs N).drop (fV n fs k).length
theorem Gw(n:Nat)(fs:List Fr)(N:Nat):g_ n fs N N=[]:=by unfold g_;exact List.drop_of_length_le (nU _)
theorem Ef(n:Nat)(fs:List Fr)(N:Nat):fV n fs N=Num.ay n++g_ n fs N 0:=by obtain⟨s,hs⟩:=pX n fs 0 N aj;unfold g_;rw[hs,rX rfl];rfl
theorem vI(n:Nat)(fs:List Fr)(N k:Nat)(h:k<N):g_ n fs N k=bD (fs.getD k iM)++g_ n fs N (k+1):=by
 obtain⟨s,hs⟩:=pX n fs (k+1) N aj;have a:(fV n fs N).drop (fV n fs (k+1)).length=s:=by rw[hs];exact rX rfl
 have hB:fV n fs N=fV n fs k++(bD (fs.getD k iM)++s):=by rw[hs,fV];simp only[tK]
 unfold g_;rw[a,hB];exact rX rfl
theorem getD_map(fs:List Fr)(k:Nat)(h:k<fs.length):(fs.map norm).getD k iM=norm (fs.getD k iM):=by rw[qx,qx,List.getElem?_map,List.getElem?_eq_getElem h];rfl
end Go.Proofs.YtphbledmopchnaaGreatDoor
namespace Go.Proofs.YtphbledmopchnaaGreatDoor
open Go.RowKit Go.Extern.Stop Go.Stop Go.Extern Mm Tryz
theorem neqNil8(w:World):(binOp .eql 94 .nilIface (.iface 57 (iZ 8))).run prog w=.ok (.bool false) w:=bH
theorem neq78(w:World):(binOp .eql 94 (.iface 57 (iZ 7)) (.iface 57 (iZ 8))).run prog w=.ok (.bool false) w:=bH
theorem noIs57(v:Value)(a:TypeId)(w:World):(nA (.iface 57 v) a 270 true).run prog w=.ok (.tuple #[.nilIface,.bool false]) w:=run_typeAssert_lacksB underlying270 bH bH v a w
theorem noUn57(v:Value)(a:TypeId)(w:World):(nA (.iface 57 v) a 266 true).run prog w=.ok (.tuple #[.nilIface,.bool false]) w:=run_typeAssert_lacksB underlying266 bH bH v a w
theorem noUns57(v:Value)(a:TypeId)(w:World):(nA (.iface 57 v) a 267 true).run prog w=.ok (.tuple #[.nilIface,.bool false]) w:=run_typeAssert_lacksB underlying267 bH bH v a w
theorem Y2(w:World):Calls prog 71 #[.nilIface,.iface 57 (iZ 8)] w fun e w'=>e=.returned (.bool false)/\w'=w:=by have a:=neqNil8;go_enter func71,ntmps71;go_wp2;go_ret;exact⟨rfl,rfl⟩
theorem Y3(w:World):Calls prog 71 #[.iface 57 (iZ 7),.iface 57 (iZ 8)] w fun e w'=>e=.returned (.bool false)/\w'=w:=by have a:=@run_callFunc_extern prog 121 _ ReflectliteType.typeOf func121 bH bH bH bH;have b:=@run_callFunc_extern prog 381 _ MU func381 bH bH bH bH;have i:=typeOf30;have c:=comparable30;have d:=methodComparable;have nq:=neq78;have f:=noIs57;have g:=noUn57;have h:=noUns57;go_enter func71,ntmps71;go_wp2;refine wp_loop_rounds 1 ?_;rw[rounds_succ];go_wp2;go_ret;exact⟨rfl,rfl⟩
