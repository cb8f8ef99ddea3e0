import Derived.Test.YtphbledmopchnaaGreatDoorLie
import Derived.Test.YtphbledmopchnaaGreatDoorLcb
import Derived.ChangeOld
import Derived.Deep.DeepHandedRow
import Derived.LaidHandle
import Derived.LaidLaws
import Derived.Lib.LaidTab
import Derived.Lib.SmallJoins
import Derived.ProofKit
import Derived.Test.YtphbledmopchnaaGreatDoorCards
import Derived.Test.YtphbledmopchnaaGreatDoorTie
open Go.OpenSpec renaming ofChange->eB
set_option maxRecDepth 100000
namespace Go.Proofs.YtphbledmopchnaaGreatDoor
open Go.ChangeShapes Go.WideShapes Go.ChangeAt Go.RowKit
set_option linter.unusedVariables false

theorem own:ownKnob Tryz.prog.godebug=none:=by kernel_rfl
theorem laidOut:laidOutB Tryz.prog=true:=by kernel_rfl
theorem qhq:Tryz.prog.globalNamed "errors.errorType"=some 0:=by kernel_rfl
theorem qhr:(Tryz.prog.cutTypes.find? (·.1== "internal/reflectlite.rtype")).map (·.2)=some 259:=by kernel_rfl
theorem qd5:Tryz.prog.types.size=418:=by kernel_rfl
theorem qd6:((List.range 418).filter fun t=>Tryz.prog.rowNamed t [101,114,114,111,114])=[94]:=by kernel_rfl
theorem qfk:Tryz.prog.globalNamed "mediawire/wire.nibbleSums"=some 1:=by kernel_rfl
theorem XD:(Tryz.prog.globals[1]?).map (·.type)=some 311:=by kernel_rfl
theorem XE:Tryz.prog.cellsOf 311=16:=by kernel_rfl
theorem KY{W:World}(h:laidMetH Tryz.prog Rows.liveRow.laid W):iE W:=by
 have g:laidMet Tryz.prog [("mediawire/wire.nibbleSums",Rows.laid_mediawire_wire_nibbleSums)] W∧handlesMet Tryz.prog [("errors.errorType",Rows.laid_errors_errorType)] W:=h;obtain⟨name,u,j,c,d,e,f,a⟩:=g.2 _ (List.mem_singleton.2 rfl);have en:name=[101,114,114,111,114]:=(Option.some.inj c).symm;subst en;obtain rfl:=Option.some.inj (qhr.symm.trans d);have b:j∈(List.range 418).filter fun t=>Tryz.prog.rowNamed t [101,114,114,111,114]:=List.mem_filter.2 ⟨List.mem_range.2 (by rw[<-qd5];exact e),f⟩;rw[qd6]at b;obtain rfl:=List.mem_singleton.1 b;have i:typeHandle Tryz.prog 94=.pointer (some ⟨2,94,none⟩):=by kernel_rfl
 rw[i]at a;have:=World.var?_cell qhq a 0;simpa[iE]using this
theorem KZ{W:World}(h:laidMetH Tryz.prog Rows.liveRow.laid W):j4 W:=by
 have a:laidMet Tryz.prog [("mediawire/wire.nibbleSums",Rows.laid_mediawire_wire_nibbleSums)] W∧handlesMet Tryz.prog [("errors.errorType",Rows.laid_errors_errorType)] W:=h;have ht:=Lib.tabIs_of_head (k:=.u32) (zs:=[0,498536548,997073096,651767980,1994146192,1802195444,1303535960,1342533948,3988292384,4027552580,3604390888,3412177804,2607071920,2262029012,2685067896,3183342108]) (rest:=[]) qfk XD Tryz.underlying311 (e:=140) (by kernel_rfl) (by kernel_rfl) XE a.1;intro k b;rw[ht.cell qfk k b];have:k=0\/k=1\/k=2\/k=3\/k=4\/k=5\/k=6\/k=7\/k=8\/k=9\/k=10\/k=11\/k=12\/k=13\/k=14\/k=15:=by omega
 rcases this with rfl|rfl|rfl|rfl|rfl|rfl|rfl|rfl|rfl|rfl|rfl|rfl|rfl|rfl|rfl|rfl<;>rfl
theorem contract(H:Type)(enc:TypeId×Value->H)(W:World)(base:Nat)(args:Array Value)(ds gs:List (DataW H))(before:List MemPlace)(a:∀(j:Nat) t v,Tryz.f9.params[j]?=some t->args[j]?=some v->Value.okWide Tryz.prog W .any base t v)(A:DataW.Whole enc Tryz.prog Tryz.f9.params.toList Rows.liveSpec.vars false W args.toList ds gs before)(w:(DataW.weightsEach Tryz.prog (Tryz.f9.params.toList++(eB Rows.liveSpec).bare.plain.varTypes Tryz.prog) (ds++gs)).all (·<=reachBytes)=true)(y:laidMetH Tryz.prog Rows.liveRow.laid W):Calls Tryz.prog 9 args W fun e o=>∃v,e=.returned v/\Rows.liveSpec.post enc Tryz.prog Tryz.f9 false true false false W args v o:=by
 have c:=A;obtain⟨p,q,hA0,U,rfl,Y,h4⟩:=A;have u:DataW.TrodAll enc Tryz.prog W 0 (fun _=>true) true Tryz.f9.params.toList args.toList ds p:=hA0;rw[Tryz.params9]at u a;obtain⟨C,h5,M,N,p0,q0,g,rfl,rfl,s,r0⟩:=trodAll_cons u;obtain⟨D,h6,d1,O,p1,q1,rfl,rfl,rfl,h1,r1⟩:=trodAll_cons r0;obtain⟨E,h7,d2,P,p2,q2,rfl,rfl,rfl,R,r2⟩:=trodAll_cons r1;obtain⟨v3,h8,d3,Q,p3,q3,rfl,rfl,rfl,S,r3⟩:=trodAll_cons r2;obtain⟨rfl,rfl,rfl⟩:=trodAll_nil r3;obtain rfl:args=#[C,D,E,v3]:=by cases args;simp_all
 obtain⟨rfl,rfl⟩:=trodVars_none U;have k0:=s;have i:∀x∈p0,x.block<W.heap.size:=by obtain⟨m,Z⟩:=k0;exact DataW.trod_lt m _ _ _ Z
 obtain⟨J,rfl,rfl,rfl,w1⟩:=open_int Tryz.underlying3 (a 1 3 D rfl rfl) h1;obtain⟨K,rfl,rfl,rfl,F⟩:=open_int Tryz.underlying3 (a 2 3 E rfl rfl) R;obtain⟨L,rfl,rfl,rfl,G⟩:=open_int Tryz.underlying3 (a 3 3 v3 rfl rfl) S;obtain⟨I,l,b,rfl⟩:=okWide_slice Tryz.underlying26 (a 0 26 C rfl rfl);have k:Sd.WtK 26 M:=fun n hn=>of_decide_eq_true (List.all_eq_true.1 w n (DataW.weights_mem_each (j:=0) (t:=26) rfl rfl n hn));obtain⟨oa,f,oc,B,T,d⟩:∃oa f oc,Value.slice I l b=.slice oa f.length oc/\Sd.StW W oa f/\f.length<=140737488351232:=by obtain⟨r,X⟩:=s;exact Sd.Xe X k
 rw[B];rw[B]at c k0;have z:=KZ y;clear hA0 w;refine(Sd.SE oa f oc J K L (bounds_i64 w1) (bounds_i64 F) (bounds_i64 G) W T d (KY y) z (World.block_lt_of_cell? _ _ (z 0 (by decide)))).mono fun e o ⟨V,bel⟩=>?_;subst V;exact⟨_,rfl,_,_,_,[],_,[],c,trodAll_mk1 (shut_bool Tryz.underlying4 _),(trodAll_cons_mk (Below.trod laidOut (by kernel_rfl) (of_decide_eq_true (by kernel_rfl)) k0 bel i) (trodAll_cons_mk (shut_int Tryz.underlying3 w1) (trodAll_cons_mk (shut_int Tryz.underlying3 F) (trodAll_cons_mk (shut_int Tryz.underlying3 G) trodAll_mk0)))),rfl,bel.frame _,fun h=>by cases h⟩
def lay(cs:Array Value):Obj->Obj
 |.cells _ t frozen=>.cells cs t frozen
 |o=>o
def zI (P : Program) (os : Os) : World :=
 {World.holding P os ⟨#[],#[],[]⟩with heap:=((World.holding P os ⟨#[],#[],[]⟩).heap.modify 0 (lay #[.iface 259 (.agg #[.pointer (some ⟨2,94,none⟩)])])).modify 1 (lay #[.int .u32 0,.int .u32 498536548,.int .u32 997073096,.int .u32 651767980,.int .u32 1994146192,.int .u32 1802195444,.int .u32 1303535960,.int .u32 1342533948,.int .u32 3988292384,.int .u32 4027552580,.int .u32 3604390888,.int .u32 3412177804,.int .u32 2607071920,.int .u32 2262029012,.int .u32 2685067896,.int .u32 3183342108])}
def Bn : Array Value:=#[.slice none 0 0,.int .i64 0,.int .i64 0,.int .i64 0]
theorem XF(os:Os):laidMetH Tryz.prog Rows.liveRow.laid ((zI Tryz.prog os).forCall (fun _ _=>0) ⟨#[],Bn,[]⟩).memory:=
 laidMetH_of_parts (laidMet_of_run' 8 (by kernel_rfl) (by kernel_rfl)) (by kernel_rfl)
theorem reads(os:Os){H:Type}(enc:TypeId×Value->H):∃places,DataW.whole enc Tryz.prog ((zI Tryz.prog os).forCall (fun _ _=>0) ⟨#[],Bn,[]⟩).memory Tryz.f9.params.toList Rows.liveSpec.vars false Bn.toList 8=some ([.nil,.lit (.int .i64 0),.lit (.int .i64 0),.lit (.int .i64 0)],[],places):=
 ⟨[],by kernel_rfl⟩
theorem lifted(os:Os)(started:os.Started)(H:Type)(enc:TypeId×Value->H)(F:Stop.Interp):ReturnsInHanded {} Tryz.checked os 9 .any ((eB Rows.liveSpec).preRow enc Tryz.prog Tryz.f9 Rows.liveRow.domain false Rows.liveRow.laid) (((eB Rows.liveSpec).at F).post enc Tryz.prog Tryz.f9 false true false false):=by
 obtain⟨places,e⟩:=reads os enc;refine returnsInHanded_of_row (C:=Tryz.checked) (s:=eB Rows.liveSpec) own started (by kernel_rfl) Tryz.func9
  (witness_row_at (enc:=enc) (C:=Tryz.checked) false (zI Tryz.prog os) Bn rfl (by kernel_rfl) (by kernel_rfl) (by kernel_rfl)
   (OpenSpec.preRow_of_cond 8 e (by kernel_rfl) (fun k d=>by cases d) (by kernel_rfl) (XF os))) ?_
 intro W base args ds gs before a c _ _ gQ b _ _;exact contract H enc W base args ds gs before a c gQ b
theorem said:Rows.LiveSaid:=
 OpenClaim.holds_of_cond 9 Tryz.f9 rfl rfl rfl rfl rfl rfl rfl ⟨rfl,rfl,rfl,rfl,rfl⟩ rfl rfl rfl rfl rfl (by as_aux_lemma=>kernel_rfl) Tryz.func9 Sd.Z4
  (of_decide_eq_true (by kernel_rfl)) (by unfold Func.isWrapper;first|(rw[if_pos (by decide +kernel)];kernel_rfl)|(rw[if_neg (by decide +kernel)];exact⟨rfl,rfl⟩))
  (fun os started H enc _ F=>by rw[OpenClaim.pre_eq_preRow];exact lifted os started H enc F)
theorem K_(f:FuncId)(fn:Func)(b:Tryz.pinned.checked.prog.funcNamed "mediawire/mediawirekeep.Live"=some f)(a:Tryz.pinned.checked.prog.funcs[f]?=some fn):true=Tryz.pinned.checked.prog.looks []/\∀(j:Nat) t,fn.params[j]?=some t->Tryz.pinned.checked.prog.wantsStandIn t=false:=by
 obtain rfl:f=9:=Option.some.inj ((show Tryz.prog.funcNamed "mediawire/mediawirekeep.Live"=some 9 by kernel_rfl).symm.trans b) |>.symm;obtain rfl:fn=Tryz.f9:=(Option.some.inj (Tryz.func9.symm.trans a)).symm;refine⟨by kernel_rfl,fun j t ht=>?_⟩;rw[Tryz.params9]at ht;have c:t=26\/t=3:=by simpa using Array.mem_of_getElem? ht
 rcases c with rfl|rfl;·exact(show Tryz.prog.wantsStandIn 26=false by kernel_rfl)
 ·exact(show Tryz.prog.wantsStandIn 3=false by kernel_rfl)
theorem live_holds:Rows.LiveCardSaid:=
 Claim7.holds_tied_plain_at .later [] _ _ _ _ said (fun _ h=>by cases h) (by as_aux_lemma=>kernel_rfl) (fun _ h=>by cases h) live_row_tie rfl ⟨rfl,rfl⟩ (by as_aux_lemma=>kernel_rfl) rfl K_ (by as_aux_lemma=>kernel_rfl)
#print axioms live_holds
end Go.Proofs.YtphbledmopchnaaGreatDoor
