import Derived.Test.YtphbledmopchnaaGreatDoorVad
open Go.Instr renaming typeAssert->mE
open Go.Extern.ReflectliteValue renaming valueError->eB,method->eT,parts->fA,isNil->fB,unpack->fE,methodAny->l9,flagAddr->mI,elem->mK,set->mR,mk->nI
set_option maxHeartbeats 4000000
set_option maxRecDepth 100000
open Go renaming World->Wq,Value->Wx,TypeId->WK,Addr->XK
set_option linter.all false
namespace Go.Proofs.YtphbledmopchnaaGreatDoor
open Go.RowKit Go.Extern.Stop Go.Stop Go.Extern Mm Tryz
def valueOf53(t w):(fE (.iface 135 (.pointer (some t)))).run prog w
  =.ok (.agg #[aK 2 135,aK w.heap.size 0,uZ 150]) (w.alloc (.cells #[.pointer (some t)] 135)):=bZ
def valueOf57(t w):(fE (.iface 139 (.pointer (some t)))).run prog w
  =.ok (.agg #[aK 2 139,aK w.heap.size 0,uZ 150]) (w.alloc (.cells #[.pointer (some t)] 139)):=bZ
def valueOf30(x w):(fE (.iface 57 (iZ x))).run prog w
  =.ok (.agg #[aK 2 57,aK w.heap.size 0,uZ 130]) (w.alloc (.cells #[iZ x] 57)):=bZ
def type53(a w):(l9 (eB "reflectlite.Value.Type" 0) (fun t _ _ _=>ReflectliteType.toType t) #[.agg #[aK 2 135,.pointer (some a),uZ 150]]).run prog w
  =.ok (.iface 259 (.agg #[aK 2 135])) w:=bZ
def type57(a w):(l9 (eB "reflectlite.Value.Type" 0) (fun t _ _ _=>ReflectliteType.toType t) #[.agg #[aK 2 139,.pointer (some a),uZ 150]]).run prog w
  =.ok (.iface 259 (.agg #[aK 2 139])) w:=bZ
def methodKind(h w):(Go.method 518 259 (.agg #[h]) "Kind").run prog w=.ok (364,h) w:=bZ
def methodElem(h w):(Go.method 518 259 (.agg #[h]) "Elem").run prog w=.ok (382,.agg #[h]) w:=bZ
def methodImplements(h w):(Go.method 518 259 (.agg #[h]) "Implements").run prog w=.ok (383,.agg #[h]) w:=bZ
def methodAssignableTo(h w):(Go.method 518 259 (.agg #[h]) "AssignableTo").run prog w=.ok (380,.agg #[h]) w:=bZ
def methodComparable(h w):(Go.method 518 259 (.agg #[h]) "Comparable").run prog w=.ok (381,.agg #[h]) w:=bZ
def kind53(w):((ReflectliteType.abiMethod fun t=>Functor.map (fun a:Nat=>Value.int IntKind.u8 (a:Int)) (Rtype.kind t)) #[aK 2 135]).run prog w=.ok (.int .u8 22) w:=bZ
def kind51(w):((ReflectliteType.abiMethod fun t=>Functor.map (fun a:Nat=>Value.int IntKind.u8 (a:Int)) (Rtype.kind t)) #[aK 2 133]).run prog w=.ok (.int .u8 22) w:=bZ
def kind57(w):((ReflectliteType.abiMethod fun t=>Functor.map (fun a:Nat=>Value.int IntKind.u8 (a:Int)) (Rtype.kind t)) #[aK 2 139]).run prog w=.ok (.int .u8 22) w:=bZ
def kind30(w):((ReflectliteType.abiMethod fun t=>Functor.map (fun a:Nat=>Value.int IntKind.u8 (a:Int)) (Rtype.kind t)) #[aK 2 57]).run prog w=.ok (.int .u8 2) w:=bZ
def elem53(w):(ReflectliteType.method ReflectliteType.elem #[.agg #[aK 2 135]]).run prog w=.ok (.iface 259 (.agg #[aK 2 133])) w:=bZ
def elem57(w):(ReflectliteType.method ReflectliteType.elem #[.agg #[aK 2 139]]).run prog w=.ok (.iface 259 (.agg #[aK 2 57])) w:=bZ
def implements51(w):(ReflectliteType.relation "Implements" ReflectliteType.implements_ #[.agg #[aK 2 133],.iface 259 (.agg #[aK 2 94])]).run prog w=.ok (.bool true) w:=bZ
def implements30(w):(ReflectliteType.relation "Implements" ReflectliteType.implements_ #[.agg #[aK 2 57],.iface 259 (.agg #[aK 2 94])]).run prog w=.ok (.bool true) w:=bZ
def typeOf30(v w):(ReflectliteType.typeOf #[.iface 57 v]).run prog w=.ok (.iface 259 (.agg #[aK 2 57])) w:=bZ
def assignable30(w):(ReflectliteType.relation "AssignableTo" ReflectliteType.assignableTo #[.agg #[aK 2 57],.iface 259 (.agg #[aK 2 57])]).run prog w=.ok (.bool true) w:=bZ
def assignable51(w):(ReflectliteType.relation "AssignableTo" ReflectliteType.assignableTo #[.agg #[aK 2 57],.iface 259 (.agg #[aK 2 133])]).run prog w=.ok (.bool false) w:=bZ
def SG:Array Wx→Sem Wx:=ReflectliteType.method fun t=>do Rtype.noPackHeld "Comparable" t;pure (.bool (←typeInfo t).comparable)
def comparable30(w):(SG #[.agg #[aK 2 57]]).run prog w=.ok (.bool true) w:=bZ
def noAs30(v a w):(mE (.iface 57 v) a 263 true).run prog w=.ok (.tuple #[.nilIface,.bool false]) w:=run_typeAssert_lacksB underlying263 bZ bZ v a w
def noUnwrap30(v a w):(mE (.iface 57 v) a 266 true).run prog w=.ok (.tuple #[.nilIface,.bool false]) w:=run_typeAssert_lacksB underlying266 bZ bZ v a w
def noUnwraps30(v a w):(mE (.iface 57 v) a 267 true).run prog w=.ok (.tuple #[.nilIface,.bool false]) w:=run_typeAssert_lacksB underlying267 bZ bZ v a w
def rlm(z f v):eT z f #[v]=(do match <-fA v with|none=>z|some (t,a,fl)=>f t a fl (fl % 32)):=rfl
def parts53(a w):(fA (.agg #[aK 2 135,.pointer (some a),uZ 150])).run prog w=.ok (some (135,a,150)) w:=bZ
def parts57(a w):(fA (.agg #[aK 2 139,.pointer (some a),uZ 150])).run prog w=.ok (some (139,a,150)) w:=bZ
def isNil53(a p W)(b:W.cell? a=some (.pointer (some p))):(eT (eB "reflectlite.Value.IsNil" 0) fB #[.agg #[aK 2 135,.pointer (some a),uZ 150]]).run prog W=.ok (.bool false) W:=by rw[rlm];simp only[DC,parts53,Result.andThen];simp[fB,loadVar,isAgg,underlying,underlying135,b,Result.andThen]
def isNil57(a p W)(b:W.cell? a=some (.pointer (some p))):(eT (eB "reflectlite.Value.IsNil" 0) fB #[.agg #[aK 2 139,.pointer (some a),uZ 150]]).run prog W=.ok (.bool false) W:=by rw[rlm];simp only[DC,parts57,Result.andThen];simp[fB,loadVar,isAgg,underlying,underlying139,b,Result.andThen]
def elemOf57(w):(Rtype.elem? 139).run prog w=.ok (some 57) w:=bZ
def mk30(p w):(nI 57 p mI).run prog w=.ok (.agg #[aK 2 57,.pointer (some p),uZ 386]) w:=bZ
def elemV57(a p W)(b:W.cell? a=some (.pointer (some p))):(eT (eB "reflectlite.Value.Elem" 0) mK #[.agg #[aK 2 139,.pointer (some a),uZ 150]]).run prog W
   =.ok (.agg #[aK 2 57,.pointer (some p),uZ 386]) W:=by
 rw[rlm];simp only[DC,parts57,Result.andThen];simp[mK,loadVar,isAgg,underlying,underlying139,b,Result.andThen,elemOf57,mk30]
def rls(v x):mR #[v,x]=(do
  let(some (dst,a,fl),some (src,b,_)):=(<-fA v,<-fA x)
   |unsupported (.noEntry "extern/(internal/reflectlite.Value).Set.zeroValue")
  if fl / mI % 2==0 then unsupported (.noEntry "extern/(internal/reflectlite.Value).Set.unaddressable")
  let val <-loadVar src b
  if <-Rtype.directlyAssignable dst src then storeVar dst a val
  else if <-Rtype.implements dst src then
   if(<-Rtype.kind src)==20 then
    match val with
    |.nilIface=>unsupported (.noEntry "extern/reflectlite: a nil value of one interface type handed on as a value of another")
    |_=>storeVar dst a val
   else storeVar dst a (.iface src val)
  else panicString ("reflectlite.Set: value of type "++(←Rtype.spelt src)++ " is not assignable to type "++(←Rtype.spelt dst))
  pure (.tuple #[])):=rfl
def parts30a(a w):(fA (.agg #[aK 2 57,.pointer (some a),uZ 386])).run prog w=.ok (some (57,a,386)) w:=bZ
def parts30(a w):(fA (.agg #[aK 2 57,.pointer (some a),uZ 130])).run prog w=.ok (some (57,a,130)) w:=bZ
def direct30(w):(Rtype.directlyAssignable 57 57).run prog w=.ok true w:=bZ
def set30(a b x c W)(d:W.cell? b=some (iZ x))(f:W.cell? a=some c)(e:W.frozen? a=false):(mR #[.agg #[aK 2 57,.pointer (some a),uZ 386],.agg #[aK 2 57,.pointer (some b),uZ 130]]).run prog W
   =.ok (.tuple #[]) (W.setCell a (iZ x)):=by
 rw[rls];simp only[DC,parts30a,parts30,Result.andThen];simp[mI,loadVar,isAgg,underlying,underlying57,d,Result.andThen,direct30,storeVar,Value.cells,storeCells,Addr.add];rw[run_store prog W a _ _ (by rfl)];simp[f,e]
def eql7(w):(binOp .eql 94 (.iface 57 (iZ 7)) (.iface 57 (iZ 7))).run prog w=.ok (.bool true) w:=bZ
def iM(w:Wq):Prop:=w.cell? (aA 0 0)=some (.iface 259 (.agg #[aK 2 94]))
def qgy(x w)(c:∀w,(binOp .eql 94 (.iface 57 (iZ x)) (.iface 57 (iZ x))).run prog w=.ok (.bool true) w):bN 71 #[.iface 57 (iZ x),.iface 57 (iZ x)] w (.bool true) fun d=>d=w:=by have a:=@run_callFunc_extern prog 121 _ ReflectliteType.typeOf func121 bZ bZ bZ bZ;have b:=@run_callFunc_extern prog 381 _ SG func381 bZ bZ bZ bZ;have g:=typeOf30;have e:=comparable30;have f:=methodComparable;go_enter func71,ntmps71;go_wp2;refine wp_loop_rounds 1 ?_;rw[rounds_succ];go_wp2;go_ret;exact⟨rfl,rfl⟩
def qgz(x t w)(a:iM w):bN 70 #[.iface 57 (iZ x),.iface 135 (.pointer (some t))] w (.bool false) fun r=>r=(((w.alloc (.cells #[.pointer (some t)] 135)).alloc (.cells #[aK 2 135,aK w.heap.size 0,uZ 150] 217)).alloc (.cells #[aK 2 135,aK w.heap.size 0,uZ 150] 217)):=by
 unfold iM at a;have e:=@run_callFunc_extern prog 117 _ (fun args=>fE (args.getD 0 (.tuple #[]))) func117 bZ bZ bZ bZ;have f:=@run_callFunc_extern prog 118 _ (l9 (eB "reflectlite.Value.Type" 0) (fun t _ _ _=>ReflectliteType.toType t)) func118 bZ bZ bZ bZ;have g:=@run_callFunc_extern prog 119 _ (eT (eB "reflectlite.Value.IsNil" 0) fB) func119 bZ bZ bZ bZ;have j:=@run_callFunc_extern prog 364 _ (ReflectliteType.abiMethod fun t=>do pure (.int .u8 (<-Rtype.kind t))) func364 bZ bZ bZ bZ;have p:=@run_callFunc_extern prog 382 _ (ReflectliteType.method ReflectliteType.elem) func382 bZ bZ bZ bZ;have q:=@run_callFunc_extern prog 383 _ (ReflectliteType.relation "Implements" ReflectliteType.implements_) func383 bZ bZ bZ bZ;have i:=@run_callFunc_extern prog 121 _ ReflectliteType.typeOf func121 bZ bZ bZ bZ;have k:=@run_callFunc_extern prog 380 _ (ReflectliteType.relation "AssignableTo" ReflectliteType.assignableTo) func380 bZ bZ bZ bZ;have C:=typeOf30;have s:=methodAssignableTo;have c:=assignable51;have f23:=valueOf53;have f24:=type53;have y:=methodKind;have u:=methodElem;have v:=methodImplements;have o:=kind53;have n:=kind51;have d:=elem53;have m:=implements51;have z:=noAs30;have A:=noUnwrap30;have B:=noUnwraps30;have n25:=isNil53 (aA w.heap.size 0) t ((w.alloc (.cells #[.pointer (some t)] 135)).alloc (.cells #[aK 2 135,aK w.heap.size 0,uZ 150] 217)) aR;have b:0<w.heap.size:=iq _ _ a;have l:((w.alloc (.cells #[.pointer (some t)] 135)).alloc (.cells #[aK 2 135,aK w.heap.size 0,uZ 150] 217)).cell? (aA 0 0)=some (.iface 259 (.agg #[aK 2 94])):=by rw[tJ _ _ (aA 0 0) aR,tJ _ _ (aA 0 0) b];exact a
 go_enter func70,ntmps70;go_wp2;refine wp_loop_rounds 1 ?_;rw[rounds_succ];go_wp2;go_ret;exact⟨rfl,rfl⟩
def qlh(x t c w)(e:iM w)(a:w.cell? t=some c)(d:w.frozen? t=false):bN 70 #[.iface 57 (iZ x),.iface 139 (.pointer (some t))] w (.bool true) fun B=>B=((((w.alloc (.cells #[.pointer (some t)] 139)).alloc (.cells #[aK 2 139,aK w.heap.size 0,uZ 150] 217)).alloc (.cells #[aK 2 139,aK w.heap.size 0,uZ 150] 217)).alloc (.cells #[iZ x] 57)).setCell t (iZ x):=by
 unfold iM at e;have j:=@run_callFunc_extern prog 117 _ (fun args=>fE (args.getD 0 (.tuple #[]))) func117 bZ bZ bZ bZ;have k:=@run_callFunc_extern prog 118 _ (l9 (eB "reflectlite.Value.Type" 0) (fun t _ _ _=>ReflectliteType.toType t)) func118 bZ bZ bZ bZ;have l:=@run_callFunc_extern prog 119 _ (eT (eB "reflectlite.Value.IsNil" 0) fB) func119 bZ bZ bZ bZ;have p:=@run_callFunc_extern prog 364 _ (ReflectliteType.abiMethod fun t=>do pure (.int .u8 (<-Rtype.kind t))) func364 bZ bZ bZ bZ;have y:=@run_callFunc_extern prog 382 _ (ReflectliteType.method ReflectliteType.elem) func382 bZ bZ bZ bZ;have z:=@run_callFunc_extern prog 383 _ (ReflectliteType.relation "Implements" ReflectliteType.implements_) func383 bZ bZ bZ bZ;have m:=@run_callFunc_extern prog 121 _ ReflectliteType.typeOf func121 bZ bZ bZ bZ;have q:=@run_callFunc_extern prog 380 _ (ReflectliteType.relation "AssignableTo" ReflectliteType.assignableTo) func380 bZ bZ bZ bZ;have n:=@run_callFunc_extern prog 165 _ (eT (eB "reflectlite.Value.Elem" 0) mK) func165 bZ bZ bZ bZ;have o:=@run_callFunc_extern prog 166 _ mR func166 bZ bZ bZ bZ;have I:=typeOf30;have D:=methodAssignableTo;have g:=assignable30;have A:=valueOf30;have f23:=valueOf57;have f24:=type57;have G:=methodKind;have E:=methodElem;have F:=methodImplements;have v:=kind57;have u:=kind30;have i:=elem57;have s:=implements30;have n25:=isNil57 (aA w.heap.size 0) t ((w.alloc (.cells #[.pointer (some t)] 139)).alloc (.cells #[aK 2 139,aK w.heap.size 0,uZ 150] 217)) aR;have f:0<w.heap.size:=iq _ _ e;have r:((w.alloc (.cells #[.pointer (some t)] 139)).alloc (.cells #[aK 2 139,aK w.heap.size 0,uZ 150] 217)).cell? (aA 0 0)=some (.iface 259 (.agg #[aK 2 94])):=by rw[tJ _ _ (aA 0 0) aR,tJ _ _ (aA 0 0) f];exact e
 have b:=iq _ _ a;have C:=elemV57 (aA w.heap.size 0) t (((w.alloc (.cells #[.pointer (some t)] 139)).alloc (.cells #[aK 2 139,aK w.heap.size 0,uZ 150] 217)).alloc (.cells #[aK 2 139,aK w.heap.size 0,uZ 150] 217)) (by rw[tJ _ _ (aA w.heap.size 0) dZ];simp);have H:=set30 t (aA (w.heap.size+1+1+1) 0) x c ((((w.alloc (.cells #[.pointer (some t)] 139)).alloc (.cells #[aK 2 139,aK w.heap.size 0,uZ 150] 217)).alloc (.cells #[aK 2 139,aK w.heap.size 0,uZ 150] 217)).alloc (.cells #[iZ x] 57))
  (by rw[World.cell?_alloc_at _ _ _ _ aR];rfl)
  (by rw[tJ _ _ t dZ,tJ _ _ t dZ,tJ _ _ t dZ,tJ _ _ t b];exact a)
  (by rw[KS _ _ t dZ,KS _ _ t dZ,KS _ _ t dZ,KS _ _ t (Nat.ne_of_lt b)];exact d)
 go_enter func70,ntmps70;go_wp2;refine wp_loop_rounds 1 ?_;rw[rounds_succ];go_wp2;go_ret;exact⟨rfl,rfl⟩
end Go.Proofs.YtphbledmopchnaaGreatDoor
namespace Go.Proofs.YtphbledmopchnaaGreatDoor
open Go.RowKit Go.Lib Go.Shelf Mm Tryz
def BK(w):bN 42 #[.nilIface] w (.tuple #[iZ 0,(iZ (-1))]) fun a=>bJ w a:=by go_enter func42,ntmps42;go_wp2;go_ret2;exact⟨rfl,((bP _ w).alloc (aI _) _).alloc aR _⟩
def rQ(x)(q:∀w,(binOp .eql 94 (.iface 57 (iZ x)) (.iface 57 (iZ x))).run prog w=.ok (.bool true) w)(w)(r:iM w):bN 42 #[.iface 57 (iZ x)] w (.tuple #[iZ x,(iZ (-1))]) fun E=>bJ w E:=by
 obtain⟨c,b⟩:=bU ((w.alloc (.cells #[.pointer none] 133)).alloc (.cells #[iZ 0] 57));have D:c.heap.size=w.heap.size+2:=by rw[b];simp
 have o:bJ w c:=by rw[b];exact((bP _ w).alloc (aI _) _).alloc aR _
 have C:0<w.heap.size:=iq _ _ r;have j:iM c:=cell_of r (o.block 0 C);have z:aS c (w.heap.size+1) 57 [iZ 0]:=by rw[b];have:=aS.new (w.alloc (.cells #[.pointer none] 133)) 57 [iZ 0];simpa using this
 have y:=aG (qgz x (aA w.heap.size 0) c j);obtain⟨e,f⟩:=bU ((((c.alloc (.cells #[aK w.heap.size 0] 135)).alloc (.cells #[aK 2 135,aK c.heap.size 0,uZ 150] 217)).alloc (.cells #[aK 2 135,aK c.heap.size 0,uZ 150] 217)));have a:bJ c e:=by rw[f];exact(((bP _ c).alloc (aI _) _).alloc aR _).alloc dZ _
 have d:=z.of_heap (a.block _ aj);have l:iM e:=cell_of j (a.block 0 aj);have v:=aG (qlh x (aA (w.heap.size+1) 0) (iZ 0) e l (d.cell 0) (d.frozen 0));have B:=aG (fun w=>qgy x w q);obtain⟨n,g⟩:=bU (((((e.alloc (.cells #[(aK (w.heap.size+1) 0)] 139)).alloc (.cells #[aK 2 139,aK e.heap.size 0,uZ 150] 217)).alloc (.cells #[aK 2 139,aK e.heap.size 0,uZ 150] 217)).alloc (.cells #[iZ x] 57)));have i:bJ e n:=by rw[g];exact((((bP _ e).alloc (aI _) _).alloc aR _).alloc dZ _).alloc dZ _
 have k:=d.of_heap (i.block _ (fT a.size));have F:(n.setCell (aA (w.heap.size+1) 0) (iZ x)).cell? (aA (w.heap.size+1) 0)=some (iZ x):=World.cell?_setCell_same' _ _ _ (by rw[k.cell 0];rfl);have A:Hid (bJ w (n.setCell (aA (w.heap.size+1) 0) (iZ x))):=(((o.trans (a.mono aj)).trans (i.mono (fT a.size))).setCell (p:=(aA (w.heap.size+1) 0)) aR _);rw[<-f]at y;rw[<-g]at v;have m:=aG b;clear b f g D o r j z a d l i k;go_enter func42,ntmps42;go_wp2_with fail;rw[<-m.out];refine bK y.out ?_;rintro G s;subst s;go_wp2_with fail;refine bK v.out ?_;rintro H t;subst t;go_wp2_with fail;refine bK (B.out _) ?_;rintro I u;subst u;go_wp2;go_ret2;exact⟨rfl,A.out⟩
def yF(v x at_ w)(P:Wq->Prop)(h:bN 42 #[v] w (.tuple #[iZ x,iZ at_]) fun b=>P b):bN 60 #[v] w (iZ x) fun b=>P b:=by have H:=aG h;clear h;go_enter func60,ntmps60;go_wp2_with fail;refine bK H.out ?_;rintro d a;have c:=aG a;clear a;go_wp2;go_ret;exact⟨rfl,c.out⟩
def Own.mono{A B v}(h:Own B v)(a:A<=B):Own A v:=fun k b=>dx a (h k b)
def RJ(f a n c):∀v∈jV f (.slice a n c),v.oneCell'=true:=by intro v b;simp[jV]at b;rcases b with h|h|h|h|h|h|h|h|h|h<;>subst h<;>rfl
def qfo(w:Wq)(d:Option XK)(c:List Fr)(e:Nat->Option XK)(f:Nat->Nat):Prop:=
 ∀j,j<c.length->∃b a,d=some (aA b a)/\rX w b (a+j*10) (c.getD j jv) (e j) (f j)
theorem ru.weak{w a c d e}(h:ru w a c d e):qfo w a c d e:=fun j f=>by obtain⟨b,g,k,i,_⟩:=h j f;grind
end Go.Proofs.YtphbledmopchnaaGreatDoor
namespace Go.Proofs.YtphbledmopchnaaGreatDoor
open Go.RowKit Go.Extern.Stop Go.Stop Go.Extern Mm Tryz
def neqNil8(w):(binOp .eql 94 .nilIface (.iface 57 (iZ 8))).run prog w=.ok (.bool false) w:=bZ
def neq78(w):(binOp .eql 94 (.iface 57 (iZ 7)) (.iface 57 (iZ 8))).run prog w=.ok (.bool false) w:=bZ
def noIs57(v a w):(mE (.iface 57 v) a 270 true).run prog w=.ok (.tuple #[.nilIface,.bool false]) w:=run_typeAssert_lacksB underlying270 bZ bZ v a w
def noUn57(v a w):(mE (.iface 57 v) a 266 true).run prog w=.ok (.tuple #[.nilIface,.bool false]) w:=run_typeAssert_lacksB underlying266 bZ bZ v a w
def noUns57(v a w):(mE (.iface 57 v) a 267 true).run prog w=.ok (.tuple #[.nilIface,.bool false]) w:=run_typeAssert_lacksB underlying267 bZ bZ v a w
def qh0(w):bN 71 #[.nilIface,.iface 57 (iZ 8)] w (.bool false) fun a=>a=w:=by have b:=neqNil8;go_enter func71,ntmps71;go_wp2;go_ret;exact⟨rfl,rfl⟩
def qh1(w):bN 71 #[.iface 57 (iZ 7),.iface 57 (iZ 8)] w (.bool false) fun c=>c=w:=by have a:=@run_callFunc_extern prog 121 _ ReflectliteType.typeOf func121 bZ bZ bZ bZ;have b:=@run_callFunc_extern prog 381 _ SG func381 bZ bZ bZ bZ;have j:=typeOf30;have d:=comparable30;have e:=methodComparable;have nq:=neq78;have f:=noIs57;have g:=noUn57;have i:=noUns57;go_enter func71,ntmps71;go_wp2;refine wp_loop_rounds 1 ?_;rw[rounds_succ];go_wp2;go_ret;exact⟨rfl,rfl⟩
