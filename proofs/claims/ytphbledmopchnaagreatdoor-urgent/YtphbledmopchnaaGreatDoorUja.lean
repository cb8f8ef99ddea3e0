import Derived.Test.YtphbledmopchnaaGreatDoorUie
import Derived.Test.YtphbledmopchnaaGreatDoorUbd
import Derived.ChangeOld
import Derived.Deep.DeepHandedRow
import Derived.LaidHandle
import Derived.LaidLaws
import Derived.Lib.LaidTab
import Derived.Lib.SmallJoins
import Derived.ProofKit
import Derived.Test.YtphbledmopchnaaGreatDoorCards
import Derived.Test.YtphbledmopchnaaGreatDoorTie
open List renaming mem_singleton->fB,all_eq_true->mR
open Go.OpenSpec renaming ofChange->fA
set_option maxRecDepth 100000
namespace Go.Proofs.YtphbledmopchnaaGreatDoor
open Go.ChangeShapes Go.WideShapes Go.ChangeAt Go.RowKit
set_option linter.unusedVariables false

theorem ZY:ownKnob Tryz.prog.godebug=none:=by kernel_rfl
theorem laidOut:laidOutB Tryz.prog=true:=by kernel_rfl
theorem qcc:Tryz.prog.globalNamed "errors.errorType"=some 0:=by kernel_rfl
theorem qcd:(Tryz.prog.cutTypes.find? (·.1== "internal/reflectlite.rtype")).map (·.2)=some 259:=by kernel_rfl
theorem YB:Tryz.prog.types.size=418:=by kernel_rfl
theorem YC:((List.range 418).filter fun t=>Tryz.prog.rowNamed t [101,114,114,111,114])=[94]:=by kernel_rfl
theorem Z0:Tryz.prog.globalNamed "mediawire/wire.nibbleSums"=some 1:=by kernel_rfl
theorem SI:(Tryz.prog.globals[1]?).map (·.type)=some 311:=by kernel_rfl
theorem SK:Tryz.prog.cellsOf 311=16:=by kernel_rfl
theorem Gt{W:World}(h:laidMetH Tryz.prog Rows.urgentRow.laid W):eF W:=by
 have U:laidMet Tryz.prog [("mediawire/wire.nibbleSums",Rows.laid_mediawire_wire_nibbleSums)] W∧handlesMet Tryz.prog [("errors.errorType",Rows.laid_errors_errorType)] W:=h;obtain⟨name,u,ty,H,I,K,O,F⟩:=U.2 _ (fB.2 rfl);have en:name=[101,114,114,111,114]:=(Option.some.inj H).symm;subst en;obtain rfl:=Option.some.inj (qcd.symm.trans I)
 have G:ty∈(List.range 418).filter fun t=>Tryz.prog.rowNamed t [101,114,114,111,114]:=List.mem_filter.2 ⟨List.mem_range.2 (by rw[<-YB];exact K),O⟩
 rw[YC]at G;obtain rfl:=fB.1 G
 have V:typeHandle Tryz.prog 94=.pointer (some ⟨2,94,none⟩):=by kernel_rfl
 rw[V]at F;have:=World.var?_cell qcc F 0;simpa[eF]using this
theorem Gu{W:World}(h:laidMetH Tryz.prog Rows.urgentRow.laid W):TabAt W:=by
 have F:laidMet Tryz.prog [("mediawire/wire.nibbleSums",Rows.laid_mediawire_wire_nibbleSums)] W∧handlesMet Tryz.prog [("errors.errorType",Rows.laid_errors_errorType)] W:=h;have ht:=Lib.tabIs_of_head (k:=.u32) (zs:=[0,498536548,997073096,651767980,1994146192,1802195444,1303535960,1342533948,3988292384,4027552580,3604390888,3412177804,2607071920,2262029012,2685067896,3183342108]) (rest:=[]) Z0 SI Tryz.underlying311 (e:=140) (by kernel_rfl) (by kernel_rfl) SK F.1;intro k G;rw[ht.cell Z0 k G]
 have:k=0\/k=1\/k=2\/k=3\/k=4\/k=5\/k=6\/k=7\/k=8\/k=9\/k=10\/k=11\/k=12\/k=13\/k=14\/k=15:=by omega
 rcases this with rfl|rfl|rfl|rfl|rfl|rfl|rfl|rfl|rfl|rfl|rfl|rfl|rfl|rfl|rfl|rfl<;>rfl
theorem contract(H:Type)(enc:TypeId×Value->H)(W:World)(base:Nat)(args:Array Value)(ds gs:List (DataW H))(before:List MemPlace)(F:∀(j:Nat) t v,Tryz.f12.params[j]?=some t->args[j]?=some v->Value.okWide Tryz.prog W .any base t v)(hW:DataW.Whole enc Tryz.prog Tryz.f12.params.toList Rows.urgentSpec.vars false W args.toList ds gs before)(V:(DataW.weightsEach Tryz.prog (Tryz.f12.params.toList++(fA Rows.urgentSpec).bare.plain.varTypes Tryz.prog) (ds++gs)).all (·<=reachBytes)=true)(hL:laidMetH Tryz.prog Rows.urgentRow.laid W):
  Calls Tryz.prog 12 args W fun e W'=>∃v,e=.returned v/\Rows.urgentSpec.post enc Tryz.prog Tryz.f12 false true false false W args v W':=by
 have O:=hW;obtain⟨p,q,hA0,hV,rfl,ha,hg⟩:=hW;have hA:DataW.TrodAll enc Tryz.prog W 0 (fun _=>true) true Tryz.f12.params.toList args.toList ds p:=hA0;rw[Tryz.params12]at hA F;obtain⟨v0,hj,d0,h7,p0,q0,X,rfl,rfl,h0,r0⟩:=trodAll_cons hA;obtain⟨v1,hk,d1,h8,p1,q1,rfl,rfl,rfl,h1,r1⟩:=trodAll_cons r0;obtain⟨v2,ho,d2,h9,p2,q2,rfl,rfl,rfl,h2,r2⟩:=trodAll_cons r1;obtain⟨rfl,rfl,rfl⟩:=trodAll_nil r2
 obtain rfl:args=#[v0,v1,v2]:=by cases args;simp_all
 obtain⟨rfl,rfl⟩:=trodVars_none hV;have k0:=h0;have k1:=h1
 have h3:∀x∈p0,x.block<W.heap.size:=by obtain⟨m,hm⟩:=k0;exact DataW.trod_lt m _ _ _ hm
 have h4:∀x∈p1,x.block<W.heap.size:=by obtain⟨m,hm⟩:=k1;exact DataW.trod_lt m _ _ _ hm
 obtain⟨a2,rfl,rfl,rfl,w2⟩:=open_int Tryz.underlying3 (F 2 3 v2 rfl rfl) h2;obtain⟨a0,h5,I,rfl⟩:=okWide_slice Tryz.underlying53 (F 0 53 v0 rfl rfl);obtain⟨a1,U,h6,rfl⟩:=okWide_slice Tryz.underlying53 (F 1 53 v1 rfl rfl)
 have YD:Sd.WtK 53 d0:=fun n hn=>of_decide_eq_true (mR.1 V n (DataW.weights_mem_each (j:=0) (t:=53) rfl rfl n hn))
 have YE:Sd.WtK 53 d1:=fun n hn=>of_decide_eq_true (mR.1 V n (DataW.weights_mem_each (j:=1) (t:=53) rfl rfl n hn))
 obtain⟨ta,ts,tc,Z,hO⟩:∃oa L oc,Value.slice a0 h5 I=.slice oa L.length oc/\Sd.SsW W oa L:=by
  obtain⟨K,hf⟩:=h0;exact Sd.KU hf YD
 obtain⟨ga,gs,gc,G,wJ⟩:∃oa L oc,Value.slice a1 U h6=.slice oa L.length oc/\Sd.SsW W oa L:=by
  obtain⟨K,hf⟩:=h1;exact Sd.KU hf YE
 rw[Z,G];rw[Z,G]at O;rw[Z]at k0;rw[G]at k1;have hT:=Gu hL;clear hA0 V
 refine(Sd.Gq ta ts tc ga gs gc a2 (bounds_i64 w2) W hO wJ (Gt hL) hT (World.block_lt_of_cell? _ _ (hT 0 (by decide)))).mono fun e W' ⟨he,PO⟩=>?_
 subst he;exact⟨_,rfl,_,_,_,[],_,[],O,trodAll_mk1 (shut_bool Tryz.underlying4 _),(trodAll_cons_mk (Below.trod laidOut (by kernel_rfl) (of_decide_eq_true (by kernel_rfl)) k0 PO h3) (trodAll_cons_mk (Below.trod laidOut (by kernel_rfl) (of_decide_eq_true (by kernel_rfl)) k1 PO h4) (trodAll_cons_mk (shut_int Tryz.underlying3 w2) trodAll_mk0))),rfl,PO.frame _,fun h=>by cases h⟩
def lay(cs:Array Value):Obj->Obj
 |.cells _ t frozen=>.cells cs t frozen
 |o=>o
def vF (P : Program) (os : Os) : World :=
 {World.holding P os ⟨#[],#[],[]⟩with heap:=((World.holding P os ⟨#[],#[],[]⟩).heap.modify 0 (lay #[.iface 259 (.agg #[.pointer (some ⟨2,94,none⟩)])])).modify 1 (lay #[.int .u32 0,.int .u32 498536548,.int .u32 997073096,.int .u32 651767980,.int .u32 1994146192,.int .u32 1802195444,.int .u32 1303535960,.int .u32 1342533948,.int .u32 3988292384,.int .u32 4027552580,.int .u32 3604390888,.int .u32 3412177804,.int .u32 2607071920,.int .u32 2262029012,.int .u32 2685067896,.int .u32 3183342108])}
def xA : Array Value:=#[.slice none 0 0,.slice none 0 0,.int .i64 0]
theorem SL(os:Os):laidMetH Tryz.prog Rows.urgentRow.laid ((vF Tryz.prog os).forCall (fun _ _=>0) ⟨#[],xA,[]⟩).memory:=
 laidMetH_of_parts (laidMet_of_run' 8 (by kernel_rfl) (by kernel_rfl)) (by kernel_rfl)
theorem reads(os:Os){H:Type}(enc:TypeId×Value->H):∃places,DataW.whole enc Tryz.prog ((vF Tryz.prog os).forCall (fun _ _=>0) ⟨#[],xA,[]⟩).memory Tryz.f12.params.toList Rows.urgentSpec.vars false xA.toList 8=some ([.nil,.nil,.lit (.int .i64 0)],[],places):=
 ⟨[],by kernel_rfl⟩
theorem lifted(os:Os)(started:os.Started)(H:Type)(enc:TypeId×Value->H)(F:Stop.Interp):
  ReturnsInHanded {} Tryz.checked os 12 .any ((fA Rows.urgentSpec).preRow enc Tryz.prog Tryz.f12 Rows.urgentRow.domain false Rows.urgentRow.laid) (((fA Rows.urgentSpec).at F).post enc Tryz.prog Tryz.f12 false true false false):=by
 obtain⟨places,U⟩:=reads os enc
 refine returnsInHanded_of_row (C:=Tryz.checked) (s:=fA Rows.urgentSpec) ZY started (by kernel_rfl) Tryz.func12
  (witness_row_at (enc:=enc) (C:=Tryz.checked) false (vF Tryz.prog os) xA rfl (by kernel_rfl) (by kernel_rfl) (by kernel_rfl)
   (OpenSpec.preRow_of_cond 8 U (by kernel_rfl) (fun k O=>by cases O) (by kernel_rfl) (SL os))) ?_
 intro W base args ds gs before G K _ _ hsz I _ _;exact contract H enc W base args ds gs before G K hsz I
theorem said:Rows.UrgentSaid:=
 OpenClaim.holds_of_cond 12 Tryz.f12 rfl rfl rfl rfl rfl rfl rfl ⟨rfl,rfl,rfl,rfl,rfl⟩ rfl rfl rfl rfl rfl (by as_aux_lemma=>kernel_rfl) Tryz.func12 Sd.WH
  (of_decide_eq_true (by kernel_rfl)) (by unfold Func.isWrapper;first|(rw[if_pos (by decide +kernel)];kernel_rfl)|(rw[if_neg (by decide +kernel)];exact⟨rfl,rfl⟩))
  (fun os started H enc _ F=>by rw[OpenClaim.pre_eq_preRow];exact lifted os started H enc F)
theorem Gv(f:FuncId)(fn:Func)(G:Tryz.pinned.checked.prog.funcNamed "mediawire/mediawirekeep.Urgent"=some f)(F:Tryz.pinned.checked.prog.funcs[f]?=some fn):
  true=Tryz.pinned.checked.prog.looks []/\∀(j:Nat) t,fn.params[j]?=some t->Tryz.pinned.checked.prog.wantsStandIn t=false:=by
 obtain rfl:f=12:=Option.some.inj ((show Tryz.prog.funcNamed "mediawire/mediawirekeep.Urgent"=some 12 by kernel_rfl).symm.trans G) |>.symm
 obtain rfl:fn=Tryz.f12:=(Option.some.inj (Tryz.func12.symm.trans F)).symm;refine⟨by kernel_rfl,fun j t ht=>?_⟩;rw[Tryz.params12]at ht
 have H:t=53\/t=3:=by simpa using Array.mem_of_getElem? ht
 rcases H with rfl|rfl
 ·exact(show Tryz.prog.wantsStandIn 53=false by kernel_rfl)
 ·exact(show Tryz.prog.wantsStandIn 3=false by kernel_rfl)
theorem urgent_holds:Rows.UrgentCardSaid:=
 Claim7.holds_tied_plain_at .later [] _ _ _ _ said (fun _ h=>by cases h) (by as_aux_lemma=>kernel_rfl) (fun _ h=>by cases h) urgent_row_tie rfl ⟨rfl,rfl⟩ (by as_aux_lemma=>kernel_rfl) rfl Gv (by as_aux_lemma=>kernel_rfl)
#print axioms urgent_holds
end Go.Proofs.YtphbledmopchnaaGreatDoor
