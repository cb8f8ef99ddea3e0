import Derived.Test.YtphbledmopchnaaGreatDoorKie
import Derived.ChangeArms
import Derived.Deep.SlicePairs
import Derived.SizedLaws
import Derived.Test.YtphbledmopchnaaGreatDoorKbb
import Derived.Below
import Derived.ChangeOld
import Derived.Deep.DeepHandedRow
import Derived.LaidHandle
import Derived.LaidLaws
import Derived.Lib.LaidTab
import Derived.Lib.SmallJoins
import Derived.ProofKit
import Derived.Test.YtphbledmopchnaaGreatDoorCards
import Derived.Test.YtphbledmopchnaaGreatDoorTie
open List renaming mem_append_left->mR,range->nI,mem_singleton->tL,mem_range->uj
open Go.OpenSpec renaming ofChange->jK
open Go.World renaming cells?_some->tT,holding->wz
set_option maxHeartbeats 1000000
set_option maxRecDepth 100000
namespace Go.Proofs.YtphbledmopchnaaGreatDoor.Sd
open Go.ChangeShapes Go.WideShapes Go.RowKit Go.Deep
section
theorem YI:0<Tryz.prog.bytesOf 37:=by decide +kernel
theorem kc3:Tryz.prog.cellsOf 3=1:=by kernel_rfl
theorem kc9:Tryz.prog.cellsOf 9=1:=by kernel_rfl
theorem YJ:Tryz.prog.cellsOf 37=5:=by kernel_rfl
section
variable {H:Type} {enc:TypeId×Value->H}
def Rs(t:TypeId)(d:DataW H):Prop:=∀n∈d.weights Tryz.prog t,n<=140737488351232
theorem MJ{t:TypeId}{bs:List UInt8}(h:Rs (H:=H) t (.lit (.string bs))):bs.length<=140737488351232:=h _ (by simp[DataW.weights])
theorem QV{e:TypeId}:∀{l:List (DataW H)} {d:DataW H},d∈l->∀n∈d.weights Tryz.prog e,n∈DataW.weightsAll Tryz.prog e l
 |[],d,h,_,_=>by cases h
 |x::l,d,h,n,hn=>by
  rw[DataW.weightsAll]
  rcases List.mem_cons.1 h with rfl|h
  ·exact mR _ hn
  ·exact List.mem_append_right _ (QV h n hn)
theorem Fa{t e:TypeId}{F G:List (DataW H)}(I:Tryz.prog.underlying t=some (.slice e))(hb:0<Tryz.prog.bytesOf e)(h:Rs t (.slice F G)):F.length<=140737488351232/\∀d∈F,Rs e d:=by
 refine⟨?_,fun d hd n O=>h n ?_⟩
 ·have h1:=h ((F.length+G.length)*Tryz.prog.bytesOf e) (by simp[DataW.weights,I]);have U:(F.length+G.length)*1<=(F.length+G.length)*Tryz.prog.bytesOf e:=Nat.mul_le_mul_left _ hb;omega
 ·simp only[DataW.weights,I];exact List.mem_cons_of_mem _ (mR _ (QV hd n O))
theorem Xt{t:TypeId}{fs:Array Field}{parts:List (DataW H)}(I:Tryz.prog.underlying t=some (.struct fs))(h:Rs t (.agg parts)){j:Nat}{F:TypeId}{d:DataW H}(ht:(fs.toList.map (·.type))[j]?=some F)(hd:parts[j]?=some d):Rs F d:=fun n G=>h n (by
 simp only[DataW.weights,I]
 exact DataW.weights_mem_each ht hd n G)
theorem Fb{α:Type}(q:Nat->α)(d:α)(len j:Nat)(h:j<len):((nI len).map q).getD j d=q j:=by
 rw[List.getD_eq_getElem?_getD,List.getElem?_map,List.getElem?_range h];rfl
theorem U6{W:World}{b off:Nat}{cs:List Value}{d:DataW H}{p:List MemPlace}{I:Nat}(F:∀i,i<5->W.cell? ⟨b,off+i,none⟩=cs[i]?)(O:cs.length=5)(h:DataW.trod enc Tryz.prog W 0 (fun _=>true) true I 37 cs=some (d,p))(hB:Rs 37 d):∃q:MI,U4 W b off q:=by
 obtain⟨xs,k,hk,U,_,Z,G⟩:=DataW.trod_struct Tryz.underlying37 h
 match xs,Z,cs,O with
 |[y0,y1,y2,y3,y4],_,[v0,v1,v2,v3,v4],_=>
  have g0:=G 0 _ rfl;have g1:=G 1 _ rfl;have g2:=G 2 _ rfl;have g3:=G 3 _ rfl;have g4:=G 4 _ rfl;clear G;simp[kc3,kc9]at g0 g1 g2 g3 g4;obtain⟨n0,e0,x0,w0⟩:=DataW.trod_int Tryz.underlying3 g0;obtain⟨n1,e1,x1,w1⟩:=DataW.trod_int Tryz.underlying3 g1;obtain⟨n2,e2,x2,w2⟩:=DataW.trod_int Tryz.underlying3 g2;obtain⟨n3,e3,x3,w3⟩:=DataW.trod_int Tryz.underlying3 g3;obtain⟨n4,e4,x4,_⟩:=DataW.trod_string Tryz.underlying9 g4
  have X:Rs 37 (.agg [y0.1,y1.1,y2.1,y3.1,y4.1]):=by
   simp only[Prod.mk.injEq]at U;rw[U.1]at hB;exact hB
  have V:Rs 9 y4.1:=Xt Tryz.underlying37 X (j:=4) rfl rfl
  have h4:n4.size<=140737488351232:=by
   rw[x4]at V;have h:=MJ V;have e:n4.data.toList.length=n4.size:=Array.length_toList;omega
  simp only[List.cons.injEq,and_true]at e0 e1 e2 e3 e4;refine⟨⟨n0,n1,n2,n3,n4⟩,?_,?_,?_,?_,?_,bounds_i64 w1,bounds_i64 w2,bounds_i64 w3,h4⟩
  ·have:=F 0 (by omega);rw[e0]at this;exact this
  ·have:=F 1 (by omega);rw[e1]at this;exact this
  ·have:=F 2 (by omega);rw[e2]at this;exact this
  ·have:=F 3 (by omega);rw[e3]at this;exact this
  ·have:=F 4 (by omega);rw[e4]at this;exact this
theorem QW{W:World}{c:Value}{x:DataW H×List MemPlace}{U:Nat}(h:DataW.trod enc Tryz.prog W 0 (fun _=>true) true U 26 [c]=some x)(hB:Rs 26 x.1):
  ∃oa ss oc,c=.slice oa ss.length oc/\VK W oa ss/\ss.length<=140737488351232:=by
 rcases open_slice Tryz.underlying26 h with⟨V,hx⟩|⟨a,len,cap,m,n,D,Pl,V,_,hl,hm,hmm,rfl,hall⟩
 ·simp only[List.cons.injEq,and_true]at V;subst V;exact⟨none,[],0,rfl,fun j O=>absurd O (Nat.not_lt_zero _),by simp⟩
 ·simp only[List.cons.injEq,and_true]at V;subst V;simp only[if_true]at hmm;subst hmm;obtain⟨b,off,spot⟩:=a
  have G:0<len->spot=none:=fun h0=>by
   obtain⟨Z,h1,_⟩:=hall 0 (by omega);rw[YJ]at h1;obtain⟨_,I,F⟩:=tT h1;have X:=F 0 (by omega);rw[List.getElem?_eq_getElem (by omega)]at X;have:=World.cell?_spot X;simpa[Addr.add]using this
  have each:∀i,i<len->∃q:MI,U4 W b (off+i*5) q:=fun i hi=>by
   obtain⟨Z,h1,X⟩:=hall i (by omega);rw[YJ]at h1;obtain⟨_,I,F⟩:=tT h1;have hs:=G (by omega);subst hs;refine U6 (fun j O=>?_) I X ((Fa Tryz.underlying26 YI hB).2 _ (List.mem_map.2 ⟨i,uj.2 hi,rfl⟩));have:=F j O;rw[Addr.add_lit,Addr.add_lit]at this;exact this
  have:Inhabited MI:=⟨st0⟩;obtain⟨q,hq⟩:=choose_lt each;refine⟨some ⟨b,off,spot⟩,(nI len).map q,m,by simp,?_,?_⟩
  ·intro j O;simp only[List.length_map,List.length_range]at O;have hs:=G (by omega);subst hs;rw[Fb q _ len j O];exact⟨b,off,rfl,hq j O⟩
  ·have:=(Fa Tryz.underlying26 YI hB).1;simpa using this
end
end
end Go.Proofs.YtphbledmopchnaaGreatDoor.Sd
namespace Go.Proofs.YtphbledmopchnaaGreatDoor
open Go.ChangeShapes Go.WideShapes Go.ChangeAt Go.RowKit
set_option linter.unusedVariables false

theorem own:ownKnob Tryz.prog.godebug=none:=by kernel_rfl
theorem laidOut:laidOutB Tryz.prog=true:=by kernel_rfl
theorem ZY:Tryz.prog.globalNamed "errors.errorType"=some 0:=by kernel_rfl
theorem Z0:(Tryz.prog.cutTypes.find? (·.1== "internal/reflectlite.rtype")).map (·.2)=some 259:=by kernel_rfl
theorem Xu:Tryz.prog.types.size=418:=by kernel_rfl
theorem Xv:((nI 418).filter fun t=>Tryz.prog.rowNamed t [101,114,114,111,114])=[94]:=by kernel_rfl
theorem YK:Tryz.prog.globalNamed "mediawire/wire.nibbleSums"=some 1:=by kernel_rfl
theorem QX:(Tryz.prog.globals[1]?).map (·.type)=some 311:=by kernel_rfl
theorem QY:Tryz.prog.cellsOf 311=16:=by kernel_rfl
theorem Fe{W:World}(h:laidMetH Tryz.prog Rows.carriedRow.laid W):dP W:=by
 have V:laidMet Tryz.prog [("mediawire/wire.nibbleSums",Rows.laid_mediawire_wire_nibbleSums)] W∧handlesMet Tryz.prog [("errors.errorType",Rows.laid_errors_errorType)] W:=h;obtain⟨name,u,Z,H,I,O,U,F⟩:=V.2 _ (tL.2 rfl);have en:name=[101,114,114,111,114]:=(Option.some.inj H).symm;subst en;obtain rfl:=Option.some.inj (Z0.symm.trans I)
 have G:Z∈(nI 418).filter fun t=>Tryz.prog.rowNamed t [101,114,114,111,114]:=List.mem_filter.2 ⟨uj.2 (by rw[<-Xu];exact O),U⟩
 rw[Xv]at G;obtain rfl:=tL.1 G
 have X:typeHandle Tryz.prog 94=.pointer (some ⟨2,94,none⟩):=by kernel_rfl
 rw[X]at F;have:=World.var?_cell ZY F 0;simpa[dP]using this
theorem Fg{W:World}(h:laidMetH Tryz.prog Rows.carriedRow.laid W):TabAt W:=by
 have F:laidMet Tryz.prog [("mediawire/wire.nibbleSums",Rows.laid_mediawire_wire_nibbleSums)] W∧handlesMet Tryz.prog [("errors.errorType",Rows.laid_errors_errorType)] W:=h;have ht:=Lib.tabIs_of_head (k:=.u32) (zs:=[0,498536548,997073096,651767980,1994146192,1802195444,1303535960,1342533948,3988292384,4027552580,3604390888,3412177804,2607071920,2262029012,2685067896,3183342108]) (rest:=[]) YK QX Tryz.underlying311 (e:=140) (by kernel_rfl) (by kernel_rfl) QY F.1;intro k G;rw[ht.cell YK k G]
 have:k=0\/k=1\/k=2\/k=3\/k=4\/k=5\/k=6\/k=7\/k=8\/k=9\/k=10\/k=11\/k=12\/k=13\/k=14\/k=15:=by omega
 rcases this with rfl|rfl|rfl|rfl|rfl|rfl|rfl|rfl|rfl|rfl|rfl|rfl|rfl|rfl|rfl|rfl<;>rfl
theorem contract(H:Type)(enc:TypeId×Value->H)(W:World)(base:Nat)(args:Array Value)(ds gs:List (DataW H))(before:List MemPlace)(F:∀(j:Nat) t v,Tryz.f8.params[j]?=some t->args[j]?=some v->Value.okWide Tryz.prog W .any base t v)(hW:DataW.Whole enc Tryz.prog Tryz.f8.params.toList Rows.carriedSpec.vars false W args.toList ds gs before)(hK:(DataW.weightsEach Tryz.prog (Tryz.f8.params.toList++(jK Rows.carriedSpec).bare.plain.varTypes Tryz.prog) (ds++gs)).all (·<=reachBytes)=true)(hL:laidMetH Tryz.prog Rows.carriedRow.laid W):
  Calls Tryz.prog 8 args W fun e Z=>∃v,e=.returned v/\Rows.carriedSpec.post enc Tryz.prog Tryz.f8 false true false false W args v Z:=by
 have I:=hW;obtain⟨p,q,hA0,hV,rfl,h9,ha⟩:=hW;have hA:DataW.TrodAll enc Tryz.prog W 0 (fun _=>true) true Tryz.f8.params.toList args.toList ds p:=hA0;rw[Tryz.params8]at hA F;obtain⟨v0,hg,d0,h5,p0,q0,V,rfl,rfl,h0,r0⟩:=trodAll_cons hA;obtain⟨v1,hj,d1,h6,p1,q1,rfl,rfl,rfl,h1,r1⟩:=trodAll_cons r0;obtain⟨v2,hk,d2,h7,p2,q2,rfl,rfl,rfl,h2,r2⟩:=trodAll_cons r1;obtain⟨v3,ho,d3,h8,p3,q3,rfl,rfl,rfl,h3,r3⟩:=trodAll_cons r2;obtain⟨rfl,rfl,rfl⟩:=trodAll_nil r3
 obtain rfl:args=#[v0,v1,v2,v3]:=by cases args;simp_all
 obtain⟨rfl,rfl⟩:=trodVars_none hV;have k0:=h0
 have X:∀x∈p0,x.block<W.heap.size:=by obtain⟨m,hm⟩:=k0;exact DataW.trod_lt m _ _ _ hm
 obtain⟨a1,rfl,rfl,rfl,w1⟩:=open_int Tryz.underlying3 (F 1 3 v1 rfl rfl) h1;obtain⟨a2,rfl,rfl,rfl,w2⟩:=open_int Tryz.underlying3 (F 2 3 v2 rfl rfl) h2;obtain⟨a3,rfl,rfl,rfl,w3⟩:=open_int Tryz.underlying3 (F 3 3 v3 rfl rfl) h3;obtain⟨a0,Z4,G,rfl⟩:=okWide_slice Tryz.underlying26 (F 0 26 v0 rfl rfl)
 have YL:Sd.Rs 26 d0:=fun n hn=>of_decide_eq_true (List.all_eq_true.1 hK n (DataW.weights_mem_each (j:=0) (t:=26) rfl rfl n hn))
 obtain⟨oa,U,oc,hc,hO,O⟩:∃oa U oc,Value.slice a0 Z4 G=.slice oa U.length oc/\Sd.VK W oa U/\U.length<=140737488351232:=by
  obtain⟨h4,hf⟩:=h0;exact Sd.QW hf YL
 rw[hc];rw[hc]at I k0;have hT:=Fg hL;clear hA0 hK
 refine(Sd.Ct oa U oc a1 a2 a3 (bounds_i64 w1) (bounds_i64 w2) (bounds_i64 w3) W hO O (Fe hL) hT (World.block_lt_of_cell? _ _ (hT 0 (by decide)))).mono fun e Z ⟨he,bel⟩=>?_
 subst he;exact⟨_,rfl,_,_,_,[],_,[],I,trodAll_mk1 (shut_bool Tryz.underlying4 _),(trodAll_cons_mk (Below.trod laidOut (by kernel_rfl) (of_decide_eq_true (by kernel_rfl)) k0 bel X) (trodAll_cons_mk (shut_int Tryz.underlying3 w1) (trodAll_cons_mk (shut_int Tryz.underlying3 w2) (trodAll_cons_mk (shut_int Tryz.underlying3 w3) trodAll_mk0)))),rfl,bel.frame _,fun h=>by cases h⟩
def lay(cs:Array Value):Obj->Obj
 |.cells _ t frozen=>.cells cs t frozen
 |o=>o
def uz (P : Program) (os : Os) : World :=
 {wz P os ⟨#[],#[],[]⟩with heap:=((wz P os ⟨#[],#[],[]⟩).heap.modify 0 (lay #[.iface 259 (.agg #[.pointer (some ⟨2,94,none⟩)])])).modify 1 (lay #[.int .u32 0,.int .u32 498536548,.int .u32 997073096,.int .u32 651767980,.int .u32 1994146192,.int .u32 1802195444,.int .u32 1303535960,.int .u32 1342533948,.int .u32 3988292384,.int .u32 4027552580,.int .u32 3604390888,.int .u32 3412177804,.int .u32 2607071920,.int .u32 2262029012,.int .u32 2685067896,.int .u32 3183342108])}
def vS : Array Value:=#[.slice none 0 0,.int .i64 0,.int .i64 0,.int .i64 0]
theorem QZ(os:Os):laidMetH Tryz.prog Rows.carriedRow.laid ((uz Tryz.prog os).forCall (fun _ _=>0) ⟨#[],vS,[]⟩).memory:=
 laidMetH_of_parts (laidMet_of_run' 8 (by kernel_rfl) (by kernel_rfl)) (by kernel_rfl)
theorem reads(os:Os){H:Type}(enc:TypeId×Value->H):∃places,DataW.whole enc Tryz.prog ((uz Tryz.prog os).forCall (fun _ _=>0) ⟨#[],vS,[]⟩).memory Tryz.f8.params.toList Rows.carriedSpec.vars false vS.toList 8=some ([.nil,.lit (.int .i64 0),.lit (.int .i64 0),.lit (.int .i64 0)],[],places):=
 ⟨[],by kernel_rfl⟩
theorem lifted(os:Os)(started:os.Started)(H:Type)(enc:TypeId×Value->H)(F:Stop.Interp):
  ReturnsInHanded {} Tryz.checked os 8 .any ((jK Rows.carriedSpec).preRow enc Tryz.prog Tryz.f8 Rows.carriedRow.domain false Rows.carriedRow.laid) (((jK Rows.carriedSpec).at F).post enc Tryz.prog Tryz.f8 false true false false):=by
 obtain⟨places,V⟩:=reads os enc
 refine returnsInHanded_of_row (C:=Tryz.checked) (s:=jK Rows.carriedSpec) own started (by kernel_rfl) Tryz.func8
  (witness_row_at (enc:=enc) (C:=Tryz.checked) false (uz Tryz.prog os) vS rfl (by kernel_rfl) (by kernel_rfl) (by kernel_rfl)
   (OpenSpec.preRow_of_cond 8 V (by kernel_rfl) (fun k U=>by cases U) (by kernel_rfl) (QZ os))) ?_
 intro W base args ds gs before G O _ _ hsz I _ _;exact contract H enc W base args ds gs before G O hsz I
theorem said:Rows.CarriedSaid:=
 OpenClaim.holds_of_cond 8 Tryz.f8 rfl rfl rfl rfl rfl rfl rfl ⟨rfl,rfl,rfl,rfl,rfl⟩ rfl rfl rfl rfl rfl (by as_aux_lemma=>kernel_rfl) Tryz.func8 Sd.U7
  (of_decide_eq_true (by kernel_rfl)) (by unfold Func.isWrapper;first|(rw[if_pos (by decide +kernel)];kernel_rfl)|(rw[if_neg (by decide +kernel)];exact⟨rfl,rfl⟩))
  (fun os started H enc _ F=>by rw[OpenClaim.pre_eq_preRow];exact lifted os started H enc F)
theorem Fh(f:FuncId)(fn:Func)(G:Tryz.pinned.checked.prog.funcNamed "mediawire/mediawirekeep.Carried"=some f)(F:Tryz.pinned.checked.prog.funcs[f]?=some fn):
  true=Tryz.pinned.checked.prog.looks []/\∀(j:Nat) t,fn.params[j]?=some t->Tryz.pinned.checked.prog.wantsStandIn t=false:=by
 obtain rfl:f=8:=Option.some.inj ((show Tryz.prog.funcNamed "mediawire/mediawirekeep.Carried"=some 8 by kernel_rfl).symm.trans G) |>.symm
 obtain rfl:fn=Tryz.f8:=(Option.some.inj (Tryz.func8.symm.trans F)).symm;refine⟨by kernel_rfl,fun j t ht=>?_⟩;rw[Tryz.params8]at ht
 have H:t=26\/t=3:=by simpa using Array.mem_of_getElem? ht
 rcases H with rfl|rfl
 ·exact(show Tryz.prog.wantsStandIn 26=false by kernel_rfl)
 ·exact(show Tryz.prog.wantsStandIn 3=false by kernel_rfl)
theorem carried_holds:Rows.CarriedCardSaid:=
 Claim7.holds_tied_plain_at .later [] _ _ _ _ said (fun _ h=>by cases h) (by as_aux_lemma=>kernel_rfl) (fun _ h=>by cases h) carried_row_tie rfl ⟨rfl,rfl⟩ (by as_aux_lemma=>kernel_rfl) rfl Fh (by as_aux_lemma=>kernel_rfl)
#print axioms carried_holds
end Go.Proofs.YtphbledmopchnaaGreatDoor
