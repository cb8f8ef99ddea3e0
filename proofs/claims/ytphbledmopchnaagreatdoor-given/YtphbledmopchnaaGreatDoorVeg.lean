import Derived.Test.YtphbledmopchnaaGreatDoorVac
import Derived.Test.YtphbledmopchnaaGreatDoorVee
import Derived.Test.YtphbledmopchnaaGreatDoorVef
import Derived.ChangeOld
import Derived.Deep.DeepHandedRow
import Derived.LaidHandle
import Derived.LaidLaws
import Derived.Lib.LaidTab
import Derived.Lib.SmallJoins
import Derived.ProofKit
import Derived.Test.YtphbledmopchnaaGreatDoorCards
import Derived.Test.YtphbledmopchnaaGreatDoorTie
open Go.OpenSpec renaming ofChange->eB
set_option maxRecDepth 100000
set_option linter.all false
namespace Go.Proofs.YtphbledmopchnaaGreatDoor
open Go.ChangeShapes Go.WideShapes Go.ChangeAt Go.RowKit
variable {W:World}
set_option linter.unusedVariables false

def own:ownKnob Tryz.prog.godebug=none:=by kernel_rfl
def laidOut:laidOutB Tryz.prog=true:=by kernel_rfl
def qrq:Tryz.prog.globalNamed "errors.errorType"=some 0:=by kernel_rfl
def qrr:(Tryz.prog.cutTypes.find? (·.1== "internal/reflectlite.rtype")).map (·.2)=some 259:=by kernel_rfl
def qmt:Tryz.prog.types.size=418:=by kernel_rfl
def qmu:((List.range 418).filter fun t=>Tryz.prog.rowNamed t [101,114,114,111,114])=[94]:=by kernel_rfl
def qpc:Tryz.prog.globalNamed "mediawire/wire.nibbleSums"=some 1:=by kernel_rfl
def qep:(Tryz.prog.globals[1]?).map (·.type)=some 311:=by kernel_rfl
def qeq:Tryz.prog.cellsOf 311=16:=by kernel_rfl
def Qn(h:laidMetH Tryz.prog Rows.givenRow.laid W):iM W:=by
 have g:laidMet Tryz.prog [("mediawire/wire.nibbleSums",Rows.laid_mediawire_wire_nibbleSums)] W∧handlesMet Tryz.prog [("errors.errorType",Rows.laid_errors_errorType)] W:=h;obtain⟨name,u,j,c,d,e,f,a⟩:=g.2 _ (List.mem_singleton.2 rfl);have en:=(Option.some.inj c).symm;subst en;obtain rfl:=Option.some.inj (qrr.symm.trans d);have b:j∈(List.range 418).filter fun t=>Tryz.prog.rowNamed t [101,114,114,111,114]:=List.mem_filter.2 ⟨List.mem_range.2 (by rw[<-qmt];exact e),f⟩;rw[qmu]at b;obtain rfl:=List.mem_singleton.1 b;have i:typeHandle Tryz.prog 94=.pointer (some ⟨2,94,none⟩):=by kernel_rfl
 rw[i]at a;have:=World.var?_cell qrq a 0;simpa[iM]using this
def Qo(h:laidMetH Tryz.prog Rows.givenRow.laid W):mM W:=by
 have a:laidMet Tryz.prog [("mediawire/wire.nibbleSums",Rows.laid_mediawire_wire_nibbleSums)] W∧handlesMet Tryz.prog [("errors.errorType",Rows.laid_errors_errorType)] W:=h;have c:=Lib.tabIs_of_head (k:=.u32) (zs:=[0,498536548,997073096,651767980,1994146192,1802195444,1303535960,1342533948,3988292384,4027552580,3604390888,3412177804,2607071920,2262029012,2685067896,3183342108]) (rest:=[]) qpc qep Tryz.underlying311 (e:=140) (by kernel_rfl) (by kernel_rfl) qeq a.1;intro k b;rw[c.cell qpc k b];have:k=0\/k=1\/k=2\/k=3\/k=4\/k=5\/k=6\/k=7\/k=8\/k=9\/k=10\/k=11\/k=12\/k=13\/k=14\/k=15:=by omega
 rcases this with rfl|rfl|rfl|rfl|rfl|rfl|rfl|rfl|rfl|rfl|rfl|rfl|rfl|rfl|rfl|rfl<;>rfl
theorem contract(H:Type)(enc:TypeId×Value->H)(W:World)(base:Nat)(args:Array Value)(y A:List (DataW H))(before:List MemPlace)(a:∀(j:Nat) t v,Tryz.f10.params[j]?=some t->args[j]?=some v->Value.okWide Tryz.prog W .any base t v)(G:DataW.Whole enc Tryz.prog Tryz.f10.params.toList Rows.givenSpec.vars false W args.toList y A before)(D:(DataW.weightsEach Tryz.prog (Tryz.f10.params.toList++(eB Rows.givenSpec).bare.plain.varTypes Tryz.prog) (y++A)).all (·<=reachBytes)=true)(E:laidMetH Tryz.prog Rows.givenRow.laid W):Calls Tryz.prog 10 args W fun e w=>∃v,e=.returned v/\Rows.givenSpec.post enc Tryz.prog Tryz.f10 false true false false W args v w:=by
 have d:=G;obtain⟨p,q,hA0,hV,rfl,h4,h5⟩:=G;have C:=hA0;rw[Tryz.params10]at C a;obtain⟨J,h6,U,V,p0,q0,k,rfl,rfl,B,r0⟩:=trodAll_cons C;obtain⟨K,h7,d1,X,p1,q1,rfl,rfl,rfl,h1,r1⟩:=trodAll_cons r0;obtain⟨L,h8,d2,Y,p2,q2,rfl,rfl,rfl,h2,r2⟩:=trodAll_cons r1;obtain⟨M,h9,d3,Z,p3,q3,rfl,rfl,rfl,h3,r3⟩:=trodAll_cons r2;obtain⟨rfl,rfl,rfl⟩:=trodAll_nil r3;obtain rfl:args=#[J,K,L,M]:=by grind
 obtain⟨rfl,rfl⟩:=trodVars_none hV;have l:=B;have o:∀x∈p0,x.block<W.heap.size:=by obtain⟨m,hm⟩:=l;exact DataW.trod_lt m _ _ _ hm
 obtain⟨R,rfl,rfl,rfl,N⟩:=open_int Tryz.underlying3 (a 1 3 K rfl rfl) h1;obtain⟨S,rfl,rfl,rfl,O⟩:=open_int Tryz.underlying3 (a 2 3 L rfl rfl) h2;obtain⟨T,rfl,rfl,rfl,P⟩:=open_int Tryz.underlying3 (a 3 3 M rfl rfl) h3;obtain⟨Q,u,c,rfl⟩:=okWide_slice Tryz.underlying26 (a 0 26 J rfl rfl);have s:Sd.WtK 26 U:=fun n hn=>of_decide_eq_true (List.all_eq_true.1 D n (DataW.weights_mem_each (j:=0) (t:=26) rfl rfl n hn));obtain⟨i,g,r,I,hO,f⟩:∃i g r,Value.slice Q u c=.slice i g.length r/\Sd.StW W i g/\g.length<=140737488351232:=by obtain⟨z,hf⟩:=B;exact Sd.qdy hf s
 rw[I];rw[I]at d l;have F:=Qo E;clear hA0 D;refine(Sd.TV i g r R S T (bounds_i64 N) (bounds_i64 O) (bounds_i64 P) W hO f (Qn E) F (World.block_lt_of_cell? _ _ (F 0 (by decide)))).mono fun e w ⟨he,b⟩=>?_;subst he;exact⟨_,rfl,_,_,_,[],_,[],d,trodAll_mk1 (shut_bool Tryz.underlying4 _),(trodAll_cons_mk (Below.trod laidOut (by kernel_rfl) (of_decide_eq_true (by kernel_rfl)) l b o) (trodAll_cons_mk (shut_int Tryz.underlying3 N) (trodAll_cons_mk (shut_int Tryz.underlying3 O) (trodAll_cons_mk (shut_int Tryz.underlying3 P) trodAll_mk0)))),rfl,b.frame _,fun h=>by cases h⟩
def lay(cs:Array Value):Obj->Obj
 |.cells _ t frozen=>.cells cs t frozen
 |o=>o
def Du (P : Program) (a : Os) : World :=
 {World.holding P a ⟨#[],#[],[]⟩with heap:=((World.holding P a ⟨#[],#[],[]⟩).heap.modify 0 (lay #[.iface 259 (.agg #[.pointer (some ⟨2,94,none⟩)])])).modify 1 (lay #[.int .u32 0,.int .u32 498536548,.int .u32 997073096,.int .u32 651767980,.int .u32 1994146192,.int .u32 1802195444,.int .u32 1303535960,.int .u32 1342533948,.int .u32 3988292384,.int .u32 4027552580,.int .u32 3604390888,.int .u32 3412177804,.int .u32 2607071920,.int .u32 2262029012,.int .u32 2685067896,.int .u32 3183342108])}
def EW : Array Value:=#[.slice none 0 0,.int .i64 0,.int .i64 0,.int .i64 0]
def qer(a:Os):laidMetH Tryz.prog Rows.givenRow.laid ((Du Tryz.prog a).forCall (fun _ _=>0) ⟨#[],EW,[]⟩).memory:=
 laidMetH_of_parts (laidMet_of_run' 8 (by kernel_rfl) (by kernel_rfl)) (by kernel_rfl)
def reads(a:Os){H:Type}(enc:TypeId×Value->H):∃places,DataW.whole enc Tryz.prog ((Du Tryz.prog a).forCall (fun _ _=>0) ⟨#[],EW,[]⟩).memory Tryz.f10.params.toList Rows.givenSpec.vars false EW.toList 8=some ([.nil,.lit (.int .i64 0),.lit (.int .i64 0),.lit (.int .i64 0)],[],places):=
 ⟨[],by kernel_rfl⟩
def lifted(b:Os)(started:b.Started)(H:Type)(enc:TypeId×Value->H)(F:Stop.Interp):ReturnsInHanded {} Tryz.checked b 10 .any ((eB Rows.givenSpec).preRow enc Tryz.prog Tryz.f10 Rows.givenRow.domain false Rows.givenRow.laid) (((eB Rows.givenSpec).at F).post enc Tryz.prog Tryz.f10 false true false false):=by
 obtain⟨places,h⟩:=reads b enc;refine returnsInHanded_of_row (C:=Tryz.checked) (s:=eB Rows.givenSpec) own started (by kernel_rfl) Tryz.func10
  (witness_row_at (enc:=enc) (C:=Tryz.checked) false (Du Tryz.prog b) EW rfl (by kernel_rfl) (by kernel_rfl) (by kernel_rfl)
   (OpenSpec.preRow_of_cond 8 h (by kernel_rfl) (fun k g=>by cases g) (by kernel_rfl) (qer b))) ?_
 intro W base args c d before a f _ _ i e _ _;exact contract H enc W base args c d before a f i e
def said:Rows.GivenSaid:=
 OpenClaim.holds_of_cond 10 Tryz.f10 rfl rfl rfl rfl rfl rfl rfl ⟨rfl,rfl,rfl,rfl,rfl⟩ rfl rfl rfl rfl rfl (by as_aux_lemma=>kernel_rfl) Tryz.func10 Sd.qj4
  (of_decide_eq_true (by kernel_rfl)) (by unfold Func.isWrapper;first|(rw[if_pos (by decide +kernel)];kernel_rfl)|(rw[if_neg (by decide +kernel)];exact⟨rfl,rfl⟩))
  (fun b started H a _ F=>by rw[OpenClaim.pre_eq_preRow];exact lifted b started H a F)
theorem Qq(f:FuncId)(fn:Func)(b:Tryz.pinned.checked.prog.funcNamed "mediawire/mediawirekeep.Given"=some f)(a:Tryz.pinned.checked.prog.funcs[f]?=some fn):true=Tryz.pinned.checked.prog.looks []/\∀(j:Nat) t,fn.params[j]?=some t->Tryz.pinned.checked.prog.wantsStandIn t=false:=by
 obtain rfl:f=10:=Option.some.inj ((show Tryz.prog.funcNamed "mediawire/mediawirekeep.Given"=some 10 by kernel_rfl).symm.trans b) |>.symm;obtain rfl:fn=Tryz.f10:=(Option.some.inj (Tryz.func10.symm.trans a)).symm;refine⟨by kernel_rfl,fun j t d=>?_⟩;rw[Tryz.params10]at d;have c:t=26\/t=3:=by grind
 rcases c with rfl|rfl;.exact(show Tryz.prog.wantsStandIn 26=false by kernel_rfl)
 .exact(show Tryz.prog.wantsStandIn 3=false by kernel_rfl)
theorem given_holds:Rows.GivenCardSaid:=
 Claim7.holds_tied_plain_at .later [] _ _ _ _ said (fun _ h=>by cases h) (by as_aux_lemma=>kernel_rfl) (fun _ h=>by cases h) given_row_tie rfl ⟨rfl,rfl⟩ (by as_aux_lemma=>kernel_rfl) rfl Qq (by as_aux_lemma=>kernel_rfl)
#print axioms given_holds
end Go.Proofs.YtphbledmopchnaaGreatDoor
